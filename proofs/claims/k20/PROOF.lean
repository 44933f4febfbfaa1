import PyProof.Rows.All
import Wide.All
import OpenK.AllK
import Wide.FinOn
import Lean
import PyProof.EqAt
import PyProof.EqKinds
import PyProof.TupleCall
import PyProof.StrOps
import PyProof.MeetsStr
import PyProof.StrLawsJoin
import PySem.Challenge.RW_leastdeeds_k20_works_done
set_option Elab.async false
set_option linter.all false
set_option maxRecDepth 100000
set_option maxHeartbeats 0
noncomputable section
abbrev tqa:=@PySem.wpAny_bind
abbrev tqb:=@PySem.wpAny_pure
abbrev tqc:=@PySem.Heap.get?_push_of_some
abbrev tqd:=@PySem.Heap.lt_size
abbrev tqe:=@PySem.Heap.get?_push_size
abbrev tqf:=@PySem.wpAny_field
abbrev tqg:=@Nat.le_refl
abbrev tqh:=@Nat.le_trans
abbrev tqi:=@Nat.lt_of_lt_of_le
abbrev tqj:=@Bool.false_ne_true
abbrev tqk:=@Nat.ne_of_lt
abbrev tql:=@PySem.Heap.get?_update_other
abbrev tqm:=@PySem.Heap.get?_update_self
abbrev tqn:=@Nat.lt_irrefl
abbrev tqo:=@PySem.wpAny_holding
abbrev tqp:=@PySem.wpAny_truthy_bool
abbrev tqq:=@Nat.le_of_ble_eq_true
namespace HD
open PySem PySem.W
def l4 (tb:String->Option Builtin)(p:Program)(w:World)(n0:Nat)(ann:Option Value):Nat->SharedT->Thread->Option SharedT
 |0,_,_=>none
 | n + 1, s, t => match through t with
   |true=>some s
   | false => match stepOk n0 ann t with
     |false=>none
     | true => match stepT (denote tb) p w s t with
       |some (s',t')=>l4 tb p w n0 ann n s' t'
       |none=>none
theorem sE {tb:String->Option Builtin}{p:Program}{w:World}{n0:Nat}{ann:Option Value}:∀{n:Nat}{s s':SharedT}{t:Thread},l4 tb p w n0 ann n s t=some s'->topRun tb p w n0 ann n s.abs t=some s'.abs
 |0,_,_,_,h=>by cases h
 | n + 1, s, s', t, h => by
   unfold l4 at h
   unfold topRun
   cases he:through t with
   |true=>rw [he] at h;cases h;rfl
   | false =>
     rw [he] at h
     cases hk:stepOk n0 ann t with
     |false=>rw [hk] at h;cases h
     | true =>
       rw [hk] at h
       cases hs:stepT (denote tb) p w s t with
       |none=>rw [hs] at h;cases h
       |some r=>obtain ⟨s2,t2⟩:=r;rw [hs] at h;rw [stepT_spec hs];exact sE h
def treeOf:List Obj->Nat->BT->BT
 |[],_,t=>t
 |o::r,n,t=>treeOf r (n+1) (t.ins n o)
def yT (P:Params)(os:OsState):SharedT:=⟨treeOf (boot_heap P).objs.toList 0 .nil,(boot_heap P).objs.toList.length,(boot_heap P).life,#[],boot_drawn,boot_toks,os⟩
theorem boot_abs (P:Params)(os:OsState):(yT P os).abs=⟨boot_heap P,#[],boot_drawn,boot_toks,os⟩:=by kernel_rfl
def yy (p q:Program)(loose:List Str)(Xt:Shared->Bool)(g0:Bool)(h0:Heap){α:Type}(Yf:Shared->α)(s:Shared):=
 ((staticsOk (importedModules p.main.body) h0 s.heap&&namesBound p s.heap&&gensDone s&&laidKept h0 s.heap),openSeen q loose (importedModules p.main.body) Xt g0 s,Yf s)
end HD
namespace HD
open PySem PySem.W
def xq (tb:String->Option Builtin)(p:Program)(w:World)(n0:Nat)(ann:Option Value):Nat->SharedT->Thread->Option (SharedT×Thread)
 |0,s,t=>some (s,t)
 | n + 1, s, t => match through t with
   |true=>none
   | false => match stepOk n0 ann t with
     |false=>none
     | true => match stepT (denote tb) p w s t with
       |some (s',t')=>xq tb p w n0 ann n s' t'
       |none=>none
def rn (tb:String->Option Builtin)(p:Program)(w:World)(n0:Nat)(ann:Option Value):Nat->SharedT->Thread->Option (Flow×SharedT×Code×Pos)
 |0,_,_=>none
 | n + 1, s, t => match endAt 1 t with
   |some f=>some (f,s,t.code,t.pos)
   | none => match stepOk n0 ann t with
     |false=>none
     | true => match stepT (denote tb) p w s t with
       |some (s',t')=>rn tb p w n0 ann n s' t'
       |none=>none
section
variable {tb:String->Option Builtin}{p:Program}{w:World}{n0:Nat}{ann:Option Value}
theorem AL:∀{n:Nat}{s s':SharedT}{t t':Thread},xq tb p w n0 ann n s t=some (s',t')->topGo tb p w n0 ann n s.abs t=some (s'.abs,t')
 |0,s,s',t,t',h=>by cases h;rfl
 | n + 1, s, s', t, t', h => by
   unfold xq at h
   unfold topGo
   cases he:through t with
   |true=>rw [he] at h;cases h
   | false =>
     rw [he] at h
     cases hk:stepOk n0 ann t with
     |false=>rw [hk] at h;cases h
     | true =>
       rw [hk] at h
       cases hs:stepT (denote tb) p w s t with
       |none=>rw [hs] at h;cases h
       |some q=>obtain ⟨s2,t2⟩:=q;rw [hs] at h;rw [stepT_spec hs];exact AL h
theorem wU:∀{n:Nat}{s s':SharedT}{t:Thread}{f:Flow}{c:Code}{q:Pos},rn tb p w n0 ann n s t=some (f,s',c,q)->segRun tb p w n0 ann 1 n s.abs t=some (f,s'.abs,c,q)
 |0,_,_,_,_,_,_,h=>by cases h
 | n + 1, s, s', t, f, c, q, h => by
   unfold rn at h
   unfold segRun
   cases he:endAt 1 t with
   |some g=>rw [he] at h;cases h;rfl
   | none =>
     rw [he] at h
     cases hk:stepOk n0 ann t with
     |false=>rw [hk] at h;cases h
     | true =>
       rw [hk] at h
       cases hs:stepT (denote tb) p w s t with
       |none=>rw [hs] at h;cases h
       |some x=>obtain ⟨s2,t2⟩:=x;rw [hs] at h;rw [stepT_spec hs];exact wU h
theorem Ff {n1 n2 N:Nat}{s s':SharedT}{env:Env}{c:Code}{pos p' q:Pos}{t:Thread}{b:List Stmt}{J:Nat}{α:Type}{f:Shared->α}{a:α}
 (h1:(xq tb p w n0 ann n1 s t).map (·.2)=some ⟨denote tb (.body b env),c,pos,[topFrame q]⟩) (h0:endAt 1 (blockOf b env c pos [topFrame q])=some .next)
 (h2:((xq tb p w n0 ann n1 s t).bind fun x=>rn tb p w n0 ann n2 x.1 (piecesOf (b.take J) env c pos [topFrame q]))=some (.next,s',c,p'))
 (h3:(l4 tb p w n0 ann N s' (restOf (b.drop J) env c p' [topFrame q])).map (fun s=>f s.abs)=some a):(topRun tb p w n0 ann (n1+(1+(n2+N))) s.abs t).map f=some a:=by
 obtain ⟨⟨s1,t1⟩,e1,e2⟩:=Option.map_eq_some_iff.mp h1
 have e2:t1=⟨denote tb (.body b env),c,pos,[topFrame q]⟩:=e2
 subst e2
 rw [e1] at h2
 have h2:rn tb p w n0 ann n2 s1 (piecesOf (b.take J) env c pos [topFrame q])=some (.next,s',c,p'):=h2
 obtain ⟨r,e3,e4⟩:=Option.map_eq_some_iff.mp h3
 have k3:=piece_app (wU h2) (sE e3)
 rw [List.take_append_drop] at k3
 have hb:segRun tb p w n0 ann 1 1 s1.abs (blockOf b env c pos [topFrame q])=some (.next,s1.abs,c,pos):=by
  show (match endAt 1 (blockOf b env c pos [topFrame q]) with|some f=>some (f,s1.abs,c,pos)|none=>_)=_
  rw [h0]
 have k2:=piece_block hb k3
 rw [go_top (AL e1) k2]
 exact congrArg some e4
end
theorem wu {p q:Program}{loose:List Str}{Xt:Shared->Bool}{α:Type}{Yf:Shared->α}{Ya:World->α}{N:Nat}{g0:Bool}{m0:Nat}{ann:Option Value}
 (open_:∀w:World,(fencedOpening treeTable p w N).map (fun s=>(s.heap,s.gens,s.drawn,s.toks))=some (boot_heap w.params,Array.mk [],boot_drawn,boot_toks))
 (size:∀w:World,((boot_heap w.params).isNs mainGlobals&&(Array.mk ([]:List GenState)).size==0,(boot_heap w.params).objs.size,(boot_heap w.params).nsMap mainGlobals "__annotations__")=(true,m0,ann))
 (run:∀(w:World) (os:OsState),(topRun treeTable p w m0 ann N (yT w.params os).abs (topStub p)).map (yy p q loose Xt g0 (boot_heap w.params) Yf)=some (true,openGood q loose,Ya w)):LeftO p q loose Xt Yf Ya N g0:=fun w=>by
 obtain ⟨⟨h,gs,d,k,os⟩,e,e'⟩:=Option.map_eq_some_iff.mp (open_ w)
 obtain ⟨rfl,rfl,rfl,rfl⟩:h=boot_heap w.params/\gs=Array.mk []/\d=boot_drawn/\k=boot_toks:=by simpa using e'
 obtain ⟨z1,z2,z3⟩:_/\_/\_:=by simpa only [Prod.mk.injEq] using size w
 obtain ⟨s1,r,l⟩:=Option.map_eq_some_iff.mp (run w os)
 obtain ⟨l1,l2,l3⟩:_/\_/\_:=by simpa only [yy,Prod.mk.injEq] using l
 rw [boot_abs] at r
 have t:topFrom treeTable p w N ⟨boot_heap w.params,Array.mk [],boot_drawn,boot_toks,os⟩=some s1:=by
  unfold topFrom
  dsimp only
  rw [z1,z2,z3,r]
  show (match staticsOk (importedModules p.main.body) (boot_heap w.params) s1.heap&&namesBound p s1.heap&&gensDone s1&&laidKept (boot_heap w.params) s1.heap with|true=>_|false=>_)=_
  rw [l1]
 unfold openEnds
 rw [e]
 show (topFrom treeTable p w N _).map _=_
 rw [t]
 exact congrArg some (Prod.ext l2 l3)
end HD
namespace K20
open PySem
abbrev eN (P:Params)(x:Str)(n:Nat)(v:Value):DictEntry:=⟨PyData.keyHash P x,.str x n,v⟩
abbrev fE:String:="law_leastdeeds_k20_works_done"
def rX (s:Stmt):Stmt:=match s with
 |.ClassDef _ _ _ (b::_) _ _ _ _ _ _ _=>b
 |_=>s
def jZ (i:Nat):Stmt:=PySem.Challenge.pw_leastdeeds_k20_works_done.main.body.getD i (.Pass ⟨0,0,0,0⟩)
def ud (s:Stmt):Arguments:=match s with
 |.FunctionDef _ a _ _ _ _ _ _ _ _=>a
 |_=>⟨[],[],none,[],[],none,[]⟩
def uc (s:Stmt):List Stmt:=match s with
 |.FunctionDef _ _ b _ _ _ _ _ _ _=>b
 |_=>[]
def qK (s:Stmt):Scope:=match s with
 |.FunctionDef _ _ _ _ _ _ sc _ _ _=>sc
 |_=>{kind:=.function,names:=[],isGenerator:=false,isCoroutine:=false}
def o1:Obj:={cls:=.type "tuple" ,data:=.seq #[]}
def o2 (a:String)(b:Nat)(c:Int)(d:Nat)(e:Int):Obj:={cls:=.type "code" ,data:=.fields #[.str (Str.ofString a) b ,.str (Str.ofString a) (b+1) ,.str ("/claim/cut.py") (b+2) ,.int c 0 ,.int 0 0 ,.int 0 0 ,.int 0 0 ,.int 0 0 ,.ref d ,.bool false ,.int 181 0 ,.ref (d+1) ,.none ,.none ,.none ,.none ,.int e 0 ,.int c 0 ,.str ("/claim/cut.py") (b+4)]}
def o3 (a:Nat)(b:Nat)(c:String)(d:Nat):Obj:={cls:=.type "frame" ,slots:=#[some (.ref a) ,some (.ref 3) ,some (.ref b) ,none ,some (.str (Str.ofString c) d) ,none ,some (.ref 0)]}
def o4:Obj:={cls:=.type "builtin_function_or_method" ,data:=.fields #[.builtin "type.__prepare__" ,.type "type"]}
def o5 (P:Params)(a:Nat)(b:String)(c:Int)(d:Nat):Obj:={cls:=.type "dict" ,data:=.dict #[{hash:=PyData.keyHash P ("__module__") ,key:=.str ("__module__") a ,val:=.str ("leastdeeds.errors") 187} ,{hash:=PyData.keyHash P ("__qualname__") ,key:=.str ("__qualname__") (a+2) ,val:=.str (Str.ofString b) (a+1)} ,{hash:=PyData.keyHash P ("__firstlineno__") ,key:=.str ("__firstlineno__") (a+4) ,val:=.int c (a+3)} ,{hash:=PyData.keyHash P ("__static_attributes__") ,key:=.str ("__static_attributes__") (a+5) ,val:=.ref d}] 4}
def o6:Obj:={cls:=.none ,data:=.fields #[]}
def o7 (P:Params)(a:Nat)(b:Int)(c:String)(d:Nat)(e:Nat)(f:String)(g:Nat)(h:Nat):Obj:={cls:=.type "dict" ,data:=.dict #[{hash:=PyData.keyHash P ("__module__") ,key:=.str ("__module__") a ,val:=.str ("leastdeeds.errors") 187} ,{hash:=PyData.keyHash P ("__firstlineno__") ,key:=.str ("__firstlineno__") (a+4) ,val:=.int b (a+3)} ,{hash:=PyData.keyHash P (Str.ofString c) ,key:=.str (Str.ofString c) d ,val:=.ref e} ,{hash:=PyData.keyHash P (Str.ofString f) ,key:=.str (Str.ofString f) (d+2) ,val:=.ref g} ,{hash:=PyData.keyHash P ("__doc__") ,key:=.str ("__doc__") (d+3) ,val:=.none}] h}
def o8:Obj:={cls:=.type "type" ,data:=.cls {name:="DeedError" ,bases:=[.type "ValueError"] ,mro:=[.ref 24 ,.type "ValueError" ,.type "Exception" ,.type "BaseException" ,.type "object"] ,ns:=23 ,qualname:="DeedError" ,subclasses:=[.ref 44 ,.ref 56 ,.ref 68 ,.ref 80]} ,slots:=#[some (.ref 15) ,none ,some (.str ("DeedError") 189) ,some (.str ("DeedError") 197) ,some (.builtin "ValueError.__new__") ,some (.bool true)]}
def o9 (a:Nat):Obj:={cls:=.type "super" ,data:=.fields #[.ref a ,.ref a ,.ref a]}
def As (a:Nat):Obj:={cls:=.type "builtin_function_or_method" ,data:=.fields #[.builtin "object.__init_subclass__" ,.ref a]}
def Dk:Obj:={cls:=.type "tuple" ,data:=.seq #[.ref 24]}
def xf (a:String)(b:Nat)(c:String):Obj:={cls:=.type "tuple" ,data:=.seq #[.str (Str.ofString a) b ,.str (Str.ofString c) (b+1)]}
def cq (a:String)(b:Nat)(c:String)(d:Int)(e:Int)(f:Nat)(g:Int)(h:Nat):Obj:={cls:=.type "code" ,data:=.fields #[.str (Str.ofString a) b ,.str (Str.ofString c) (b+1) ,.str ("/claim/cut.py") (b+2) ,.int d 0 ,.int e 0 ,.int 0 0 ,.int 0 0 ,.int 3 0 ,.ref f ,.bool true ,.int 181 0 ,.ref (f+1) ,.none ,.ref (f+2) ,.ref (f+3) ,.ref (f+4) ,.int g 0 ,.int d 0 ,.str ("/claim/cut.py") h]}
def KG:Obj:={cls:=.type "function" ,data:=.func {name:="__init__" ,qualname:="NoRow.__init__" ,params:=ud (rX (jZ 2)) ,body:=PySem.FuncBody.stmts (uc (rX (jZ 2))) ,scope:=qK (rX (jZ 2)) ,globals:=3 ,closure:=[] ,defaults:=.none ,kwdefaults:=.none ,pyModule:=.str ("leastdeeds.errors") 187 ,code:=.ref 40}}
def G2 (a:String)(b:Nat):Obj:={cls:=.type "tuple" ,data:=.seq #[.str (Str.ofString a) b]}
def sR (a:String)(b:Nat)(c:Nat)(d:Nat)(e:Nat):Obj:={cls:=.type "type" ,data:=.cls {name:=Str.ofString a ,bases:=[.ref 24] ,mro:=[.ref b ,.ref 24 ,.type "ValueError" ,.type "Exception" ,.type "BaseException" ,.type "object"] ,ns:=c ,qualname:=Str.ofString a} ,slots:=#[some (.ref d) ,none ,some (.str (Str.ofString a) e) ,some (.str (Str.ofString a) (e+8)) ,some (.builtin "ValueError.__new__") ,some (.bool true)]}
def xb (P:Params)(a:Nat)(b:Int)(c:Nat):Obj:={cls:=.type "dict" ,data:=.dict #[{hash:=PyData.keyHash P ("__module__") ,key:=.str ("__module__") a ,val:=.str ("leastdeeds.errors") 187} ,{hash:=PyData.keyHash P ("__firstlineno__") ,key:=.str ("__firstlineno__") (a+4) ,val:=.int b (a+3)} ,{hash:=PyData.keyHash P ("__static_attributes__") ,key:=.str ("__static_attributes__") (a+5) ,val:=.ref c} ,{hash:=PyData.keyHash P ("__doc__") ,key:=.str ("__doc__") (a+6) ,val:=.none}] 2}
def gY (a:String)(b:Nat):Obj:={cls:=.none ,data:=.func {name:=Str.ofString a ,qualname:=Str.ofString a ,params:=ud (jZ b) ,body:=PySem.FuncBody.stmts (uc (jZ b)) ,scope:=qK (jZ b) ,globals:=0 ,closure:=[] ,defaults:=.none ,kwdefaults:=.none ,pyModule:=.none ,code:=.none}}
def bO (a:String)(b:Nat)(c:String)(d:Nat)(e:Nat):Obj:={cls:=.type "function" ,data:=.func {name:=Str.ofString a ,qualname:=Str.ofString a ,params:=ud (jZ b) ,body:=PySem.FuncBody.stmts (uc (jZ b)) ,scope:=qK (jZ b) ,globals:=3 ,closure:=[] ,defaults:=.none ,kwdefaults:=.none ,pyModule:=.str (Str.ofString c) d ,code:=.ref e}}
def ir (a:String)(b:Nat)(c:Int)(d:Int)(e:Nat)(f:Int):Obj:={cls:=.type "code" ,data:=.fields #[.str (Str.ofString a) b ,.str (Str.ofString a) (b+1) ,.str ("/claim/cut.py") (b+2) ,.int c 0 ,.int d 0 ,.int 0 0 ,.int 0 0 ,.int 3 0 ,.ref e ,.bool true ,.int 181 0 ,.ref (e+1) ,.none ,.none ,.none ,.ref (e+2) ,.int f 0 ,.int c 0 ,.str ("/claim/cut.py") (b+4)]}
def w9 (a:String)(b:Nat)(c:String)(d:String)(e:String):Obj:={cls:=.type "tuple" ,data:=.seq #[.str (Str.ofString a) b ,.str (Str.ofString c) (b+1) ,.str (Str.ofString d) (b+2) ,.str ("at") (b+3) ,.str (Str.ofString e) (b+4) ,.str ("price") (b+5)]}
def KD (a:String)(b:Nat)(c:String)(d:String):Obj:={cls:=.type "tuple" ,data:=.seq #[.str (Str.ofString a) b ,.str (Str.ofString c) (b+1) ,.str (Str.ofString d) (b+2) ,.str ("at") (b+3) ,.str ("other") (b+4) ,.str ("table") (b+5) ,.str ("price") (b+6)]}
def Dj (P:Params)(a:Nat)(b:Nat):Obj:={cls:=.type "dict" ,data:=.dict #[{hash:=PyData.keyHash P ("turn") ,key:=.str ("turn") a ,val:=.ref b} ,{hash:=PyData.keyHash P ("join") ,key:=.str ("join") (a+1) ,val:=.ref (b+7)} ,{hash:=PyData.keyHash P ("move") ,key:=.str ("move") (a+2) ,val:=.ref (b+14)} ,{hash:=PyData.keyHash P ("put") ,key:=.str ("put") (a+3) ,val:=.ref (b+21)}] 4}
def KC (a:String)(b:Nat)(c:String)(d:String)(e:String):Obj:={cls:=.type "tuple" ,data:=.seq #[.str (Str.ofString a) b ,.str (Str.ofString c) (b+1) ,.str (Str.ofString d) (b+2) ,.str (Str.ofString e) (b+3)]}
def kh:Params->PySem.W.Frag:=fun P=>[(2,{cls:=.none,data:=.dict #[]}),
 (3,{cls:=.type "dict",data:=.dict #[eN P "__name__" 165 (.str fE 588),eN P "__doc__" 166 (.none),eN P "__package__" 167 (.none),eN P "__loader__" 168 (.builtin "__main__.__loader__#opaque"),eN P "__spec__" 169 (.none),eN P "__annotations__" 170 (.ref 6),eN P "__builtins__" 171 (.ref 4),eN P "__file__" 173 (.str "/claim/cut.py" 172),eN P "__cached__" 174 (.none),eN P "DeedError" 206 (.ref 24),eN P "NoRow" 231 (.ref 44),eN P "NoMachine" 247 (.ref 56),eN P "TooLong" 263 (.ref 68),eN P "NoWork" 279 (.ref 80),eN P "is_between" 290 (.ref 89),eN P "LEAST_WORDS" 294 (.int 2 293),eN P "MOST_WORDS" 296 (.int 4 295),eN P "MOST_PLACES" 298 (.int 2 297),eN P "MOST_DEEDS" 300 (.int 6 299),eN P "MOST_COST" 302 (.int 3 301),eN P "LONGEST_ROW" 304 (.int 40 303),eN P "is_word" 312 (.ref 96),eN P "is_place" 320 (.ref 103),eN P "is_cost" 327 (.ref 110),eN P "is_tuple_of" 335 (.ref 117),eN P "is_table" 341 (.ref 122),eN P "is_double_table" 347 (.ref 127),eN P "is_turn" 359 (.ref 134),eN P "is_join" 372 (.ref 141),eN P "is_move" 384 (.ref 148),eN P "is_put" 396 (.ref 155),eN P "SORTS" 405 (.ref 156),eN P "is_deed" 416 (.ref 163),eN P "is_machine" 422 (.ref 168),eN P "need_machine" 429 (.ref 175),eN P "beginnings" 435 (.ref 180),eN P "is_deed_number" 443 (.ref 187),eN P "need_numbers" 453 (.ref 194),eN P "need_row" 461 (.ref 201),eN P "turned" 475 (.ref 208),eN P "joined" 488 (.ref 215),eN P "moved" 500 (.ref 222),eN P "put_in" 512 (.ref 229),eN P "NEW_WORDS" 521 (.ref 230),eN P "done" 531 (.ref 237),eN P "all_standing" 542 (.ref 244),eN P "ends_of" 548 (.ref 249),eN P "behaviour" 556 (.ref 256),eN P "is_work" 564 (.ref 261),eN P "need_work" 572 (.ref 268),eN P "ends_do" 578 (.ref 273),eN P "does_work" 587 (.ref 280),eN P "_law_spread" 601 (.ref 287),eN P "_law_open" 611 (.ref 294),eN P "_law_anew" 618 (.ref 301),eN P "_law_take" 629 (.ref 308),eN P "_law_sign_but" 635 (.ref 313),eN P "_law_any_sign" 642 (.ref 320),eN P "_law_signed" 651 (.ref 327),eN P "_law_is_whole" 658 (.ref 334),eN P "_law_same" 664 (.ref 339),eN P "_law_tab" 670 (.ref 344),eN P "_law_deed" 676 (.ref 349),eN P "_law_machine" 690 (.ref 356),eN P "_law_row" 696 (.ref 361),eN P "_law_after" 706 (.ref 368),eN P "_law_begins" 712 (.ref 373),eN P "_law_ends" 723 (.ref 380),eN P "_law_is_in" 732 (.ref 387),eN P "_law_numbers" 738 (.ref 392),eN P "_law_is_deed" 744 (.ref 397),eN P "_law_is_machine" 750 (.ref 402),eN P "_law_bent" 765 (.ref 409),eN P "_law_wanted" 771 (.ref 414),eN P "_law_does" 777 (.ref 419),eN P "_law_no_work" 789 (.ref 426),eN P "_law_told" 801 (.ref 433),eN P "_law_refused" 819 (.ref 440),eN P "law" 834 (.ref 447)] 79}),
 (23,o7 P 196 2 "__static_attributes__" 201 22 "__weakref__" 25 3),
 (24,o8),
 (40,cq "__init__" 219 "NoRow.__init__" 6 2 35 224 225),
 (41,KG),
 (43,o7 P 214 4 "__init__" 226 41 "__static_attributes__" 42 2),
 (44,sR "NoRow" 44 43 28 207),
 (55,xb P 239 9 54),
 (56,sR "NoMachine" 56 55 47 232),
 (67,xb P 255 11 66),
 (68,sR "TooLong" 68 67 59 248),
 (79,xb P 271 13 78),
 (80,sR "NoWork" 80 79 71 264),
 (88,cq "is_between" 282 "is_between" 16 3 83 288 289),
 (89,bO "is_between" 7 "leastdeeds.wholes" 280 88),
 (95,cq "is_word" 305 "is_word" 27 2 90 310 311),
 (96,bO "is_word" 15 "leastdeeds.machines" 291 95),
 (102,cq "is_place" 313 "is_place" 29 2 97 318 319),
 (103,bO "is_place" 16 "leastdeeds.machines" 291 102),
 (109,cq "is_cost" 321 "is_cost" 31 1 104 325 326),
 (110,bO "is_cost" 17 "leastdeeds.machines" 291 109),
 (116,cq "is_tuple_of" 328 "is_tuple_of" 33 2 111 333 334),
 (117,bO "is_tuple_of" 18 "leastdeeds.machines" 291 116),
 (121,ir "is_table" 336 35 2 118 339),
 (122,bO "is_table" 19 "leastdeeds.machines" 291 121),
 (126,ir "is_double_table" 342 37 2 123 345),
 (127,bO "is_double_table" 20 "leastdeeds.machines" 291 126),
 (133,cq "is_turn" 348 "is_turn" 39 3 128 357 358),
 (134,bO "is_turn" 21 "leastdeeds.machines" 291 133),
 (140,cq "is_join" 360 "is_join" 44 3 135 370 371),
 (141,bO "is_join" 22 "leastdeeds.machines" 291 140),
 (147,cq "is_move" 373 "is_move" 51 3 142 382 383),
 (148,bO "is_move" 23 "leastdeeds.machines" 291 147),
 (154,cq "is_put" 385 "is_put" 56 3 149 394 395),
 (155,bO "is_put" 24 "leastdeeds.machines" 291 154),
 (156,Dj P 397 134),
 (162,cq "is_deed" 406 "is_deed" 62 3 157 414 415),
 (163,bO "is_deed" 26 "leastdeeds.machines" 291 162),
 (167,ir "is_machine" 417 70 1 164 420),
 (168,bO "is_machine" 27 "leastdeeds.machines" 291 167),
 (174,cq "need_machine" 423 "need_machine" 79 1 169 427 428),
 (175,bO "need_machine" 28 "leastdeeds.machines" 291 174),
 (179,ir "beginnings" 430 82 1 176 433),
 (180,bO "beginnings" 29 "leastdeeds.machines" 291 179),
 (186,cq "is_deed_number" 436 "is_deed_number" 89 2 181 441 442),
 (187,bO "is_deed_number" 30 "leastdeeds.machines" 291 186),
 (193,cq "need_numbers" 444 "need_numbers" 91 2 188 451 452),
 (194,bO "need_numbers" 31 "leastdeeds.machines" 291 193),
 (200,cq "need_row" 454 "need_row" 97 2 195 459 460),
 (201,bO "need_row" 32 "leastdeeds.machines" 291 200),
 (207,cq "turned" 464 "turned" 103 2 202 473 474),
 (208,bO "turned" 34 "leastdeeds.runs" 462 207),
 (214,cq "joined" 476 "joined" 106 2 209 486 487),
 (215,bO "joined" 35 "leastdeeds.runs" 462 214),
 (221,cq "moved" 489 "moved" 109 2 216 498 499),
 (222,bO "moved" 36 "leastdeeds.runs" 462 221),
 (228,cq "put_in" 501 "put_in" 112 2 223 510 511),
 (229,bO "put_in" 37 "leastdeeds.runs" 462 228),
 (230,Dj P 513 208),
 (236,cq "done" 522 "done" 116 2 231 529 530),
 (237,bO "done" 39 "leastdeeds.runs" 462 236),
 (243,cq "all_standing" 532 "all_standing" 120 3 238 540 541),
 (244,bO "all_standing" 40 "leastdeeds.runs" 462 243),
 (248,ir "ends_of" 543 125 2 245 546),
 (249,bO "ends_of" 41 "leastdeeds.runs" 462 248),
 (255,cq "behaviour" 549 "behaviour" 127 2 250 554 555),
 (256,bO "behaviour" 42 "leastdeeds.runs" 462 255),
 (260,ir "is_work" 559 131 2 257 562),
 (261,bO "is_work" 44 "leastdeeds.works" 557 260),
 (267,cq "need_work" 565 "need_work" 135 2 262 570 571),
 (268,bO "need_work" 45 "leastdeeds.works" 557 267),
 (272,ir "ends_do" 573 139 2 269 576),
 (273,bO "ends_do" 46 "leastdeeds.works" 557 272),
 (279,cq "does_work" 579 "does_work" 141 3 274 585 586),
 (280,bO "does_work" 47 "leastdeeds.works" 557 279),
 (286,cq "_law_spread" 590 "_law_spread" 146 2 281 599 600),
 (287,bO "_law_spread" 49 fE 588 286),
 (293,cq "_law_open" 602 "_law_open" 155 1 288 609 610),
 (294,bO "_law_open" 50 fE 588 293),
 (300,cq "_law_anew" 612 "_law_anew" 160 1 295 616 617),
 (301,bO "_law_anew" 51 fE 588 300),
 (307,cq "_law_take" 619 "_law_take" 163 2 302 627 628),
 (308,bO "_law_take" 52 fE 588 307),
 (312,ir "_law_sign_but" 630 176 2 309 633),
 (313,bO "_law_sign_but" 53 fE 588 312),
 (319,cq "_law_any_sign" 636 "_law_any_sign" 181 1 314 640 641),
 (320,bO "_law_any_sign" 54 fE 588 319),
 (326,cq "_law_signed" 643 "_law_signed" 183 2 321 649 650),
 (327,bO "_law_signed" 55 fE 588 326),
 (333,cq "_law_is_whole" 652 "_law_is_whole" 186 1 328 656 657),
 (334,bO "_law_is_whole" 56 fE 588 333),
 (338,ir "_law_same" 659 188 2 335 662),
 (339,bO "_law_same" 57 fE 588 338),
 (343,ir "_law_tab" 665 202 2 340 668),
 (344,bO "_law_tab" 58 fE 588 343),
 (348,ir "_law_deed" 671 218 3 345 674),
 (349,bO "_law_deed" 59 fE 588 348),
 (355,cq "_law_machine" 677 "_law_machine" 230 4 350 688 689),
 (356,bO "_law_machine" 60 fE 588 355),
 (360,ir "_law_row" 691 241 3 357 694),
 (361,bO "_law_row" 61 fE 588 360),
 (367,cq "_law_after" 697 "_law_after" 248 2 362 704 705),
 (368,bO "_law_after" 62 fE 588 367),
 (372,ir "_law_begins" 707 260 1 369 710),
 (373,bO "_law_begins" 63 fE 588 372),
 (379,cq "_law_ends" 713 "_law_ends" 264 2 374 721 722),
 (380,bO "_law_ends" 64 fE 588 379),
 (386,cq "_law_is_in" 724 "_law_is_in" 271 3 381 730 731),
 (387,bO "_law_is_in" 65 fE 588 386),
 (391,ir "_law_numbers" 733 273 4 388 736),
 (392,bO "_law_numbers" 66 fE 588 391),
 (396,ir "_law_is_deed" 739 277 3 393 742),
 (397,bO "_law_is_deed" 67 fE 588 396),
 (401,ir "_law_is_machine" 745 295 1 398 748),
 (402,bO "_law_is_machine" 68 fE 588 401),
 (408,cq "_law_bent" 751 "_law_bent" 301 3 403 763 764),
 (409,bO "_law_bent" 69 fE 588 408),
 (413,ir "_law_wanted" 766 318 2 410 769),
 (414,bO "_law_wanted" 70 fE 588 413),
 (418,ir "_law_does" 772 332 2 415 775),
 (419,bO "_law_does" 71 fE 588 418),
 (425,cq "_law_no_work" 778 "_law_no_work" 334 3 420 787 788),
 (426,bO "_law_no_work" 72 fE 588 425),
 (432,cq "_law_told" 790 "_law_told" 341 3 427 799 800),
 (433,bO "_law_told" 73 fE 588 432),
 (439,cq "_law_refused" 802 "_law_refused" 352 4 434 817 818),
 (440,bO "_law_refused" 74 fE 588 439),
 (446,cq "law" 820 "law" 370 1 441 832 833),
 (447,bO "law" 75 fE 588 446)]
def HV:List Addr:=[2,3,23,24,40,41,43,44,55,56,67,68,79,80,88,89,95,96,102,103,109,110,116,117,121,122,126,127,133,134,140,141,147,148,154,155,156,162,163,167,168,174,175,179,180,186,187,193,194,200,201,207,208,214,215,221,222,228,229,230,236,237,243,244,248,249,255,256,260,261,267,268,272,273,279,280,286,287,293,294,300,301,307,308,312,313,319,320,326,327,333,334,338,339,343,344,348,349,355,356,360,361,367,368,372,373,379,380,386,387,391,392,396,397,401,402,408,409,413,414,418,419,425,426,432,433,439,440,446,447]
theorem Mz:∀P,HV=(kh P).map (·.1):=fun _=>by kernel_rfl
def kq:Program:=PySem.W.view PySem.Challenge.pw_leastdeeds_k20_works_done [1,2,3,4,5,7,9,10,11,12,13,14,15,16,17,18,19,20,21,22,23,24,25,26,27,28,29,30,31,32,34,35,36,37,38,39,40,41,42,44,45,46,47,49,50,51,52,53,54,55,56,57,58,59,60,61,62,63,64,65,66,67,68,69,70,71,72,73,74,75]
abbrev kH:PySem.W.Hook:=PySem.W.kHook kh HV Mz
def qJ:List Str:=["SORTS","NEW_WORDS"]
abbrev yG:=PySem.Challenge.rw_leastdeeds_k20_works_done.row
abbrev kX:Shared->Bool:=fun s=>PySem.W.xlAt kq [] s&&PySem.W.recOk (PySem.W.RowW.records yG.toRowW) s
def kM (P:Params)(os:OsState):PySem.W.SharedT:=⟨HD.treeOf (((PySem.W.boot_heap P).objs.toList.set 3 ({cls:=.type "dict",data:=.dict #[eN P "__name__" 165 (.str "leastdeeds.runs" 462),eN P "__doc__" 166 (.none),eN P "__package__" 167 (.none),eN P "__loader__" 168 (.builtin "__main__.__loader__#opaque"),eN P "__spec__" 169 (.none),eN P "__annotations__" 170 (.ref 6),eN P "__builtins__" 171 (.ref 4),eN P "__file__" 173 (.str "/claim/cut.py" 172),eN P "__cached__" 174 (.none),eN P "DeedError" 206 (.ref 24),eN P "NoRow" 231 (.ref 44),eN P "NoMachine" 247 (.ref 56),eN P "TooLong" 263 (.ref 68),eN P "NoWork" 279 (.ref 80),eN P "is_between" 290 (.ref 89),eN P "LEAST_WORDS" 294 (.int 2 293),eN P "MOST_WORDS" 296 (.int 4 295),eN P "MOST_PLACES" 298 (.int 2 297),eN P "MOST_DEEDS" 300 (.int 6 299),eN P "MOST_COST" 302 (.int 3 301),eN P "LONGEST_ROW" 304 (.int 40 303),eN P "is_word" 312 (.ref 96),eN P "is_place" 320 (.ref 103),eN P "is_cost" 327 (.ref 110),eN P "is_tuple_of" 335 (.ref 117),eN P "is_table" 341 (.ref 122),eN P "is_double_table" 347 (.ref 127),eN P "is_turn" 359 (.ref 134),eN P "is_join" 372 (.ref 141),eN P "is_move" 384 (.ref 148),eN P "is_put" 396 (.ref 155),eN P "SORTS" 405 (.ref 156),eN P "is_deed" 416 (.ref 163),eN P "is_machine" 422 (.ref 168),eN P "need_machine" 429 (.ref 175),eN P "beginnings" 435 (.ref 180),eN P "is_deed_number" 443 (.ref 187),eN P "need_numbers" 453 (.ref 194),eN P "need_row" 461 (.ref 201),eN P "turned" 475 (.ref 208),eN P "joined" 488 (.ref 215),eN P "moved" 500 (.ref 222),eN P "put_in" 512 (.ref 229),eN P "NEW_WORDS" 521 (.ref 230),eN P "done" 531 (.ref 237)] 45}))++[o1,
 {cls:=.none,data:=.fields #[.int 2 0,.int 0 0,.ref 20,.int 4 0,.int 0 0,.ref 33,.int 9 0,.int 0 0,.ref 52,.int 11 0,.int 0 0,.ref 64,.int 13 0,.int 0 0,.ref 76,.int 16 0,.int 0 0,.ref 88,.int 27 0,.int 0 0,.ref 95,.int 29 0,.int 0 0,.ref 102,.int 31 0,.int 0 0,.ref 109,.int 33 0,.int 0 0,.ref 116,.int 35 0,.int 0 0,.ref 121,.int 37 0,.int 0 0,.ref 126,.int 39 0,.int 0 0,.ref 133,.int 44 0,.int 0 0,.ref 140,.int 51 0,.int 0 0,.ref 147,.int 56 0,.int 0 0,.ref 154,.int 62 0,.int 0 0,.ref 162,.int 70 0,.int 0 0,.ref 167,.int 79 0,.int 0 0,.ref 174,.int 82 0,.int 0 0,.ref 179,.int 89 0,.int 0 0,.ref 186,.int 91 0,.int 0 0,.ref 193,.int 97 0,.int 0 0,.ref 200,.int 103 0,.int 0 0,.ref 207,.int 106 0,.int 0 0,.ref 214,.int 109 0,.int 0 0,.ref 221,.int 112 0,.int 0 0,.ref 228,.int 116 0,.int 0 0,.ref 236]},
 o2 "<module>" 182 1 11 185,
 o3 13 3 "__main__" 164,
 {cls:=.type "tuple",data:=.seq #[.type "ValueError"]},
 o4,
 o5 P 196 "DeedError" 2 22,
 o1,
 o6,
 o2 "DeedError" 191 2 18 194,
 o3 20 17 "leastdeeds.errors" 187,
 o1,
 o7 P 196 2 "__static_attributes__" 201 22 "__weakref__" 25 3,
 o8,
 {cls:=.type "getset_descriptor",data:=.fields #[.str "__weakref__" 202,.ref 24,.builtin "ExceptionGroup.__weakref__",.none]},
 o9 24,
 As 24,
 Dk,
 o4,
 {cls:=.type "dict",data:=.dict #[eN P "__module__" 214 (.str "leastdeeds.errors" 187),eN P "__qualname__" 216 (.str "NoRow" 215),eN P "__firstlineno__" 218 (.int 4 217),eN P "__init__" 226 (.ref 41),eN P "__static_attributes__" 228 (.ref 42)] 5},
 o1,
 {cls:=.none,data:=.fields #[.int 6 0,.int 4 0,.ref 40]},
 o2 "NoRow" 209 4 31 212,
 o3 33 30 "leastdeeds.errors" 187,
 o1,
 o6,
 xf "self" 222 "place",
 o1,
 {cls:=.none,data:=.func {name:="__init__",qualname:="NoRow.__init__",params:=ud (rX (jZ 2)),body:=PySem.FuncBody.stmts (uc (rX (jZ 2))),scope:=qK (rX (jZ 2)),globals:=0,closure:=[],defaults:=.none,kwdefaults:=.none,pyModule:=.none,code:=.none}},
 cq "__init__" 219 "NoRow.__init__" 6 2 35 224 225,
 KG,
 G2 "place" 227,
 o7 P 214 4 "__init__" 226 41 "__static_attributes__" 42 2,
 sR "NoRow" 44 43 28 207,
 o9 44,
 As 44,
 Dk,
 o4,
 o5 P 239 "NoMachine" 9 54,
 o1,
 o6,
 o2 "NoMachine" 234 9 50 237,
 o3 52 49 "leastdeeds.errors" 187,
 o1,
 xb P 239 9 54,
 sR "NoMachine" 56 55 47 232,
 o9 56,
 As 56,
 Dk,
 o4,
 o5 P 255 "TooLong" 11 66,
 o1,
 o6,
 o2 "TooLong" 250 11 62 253,
 o3 64 61 "leastdeeds.errors" 187,
 o1,
 xb P 255 11 66,
 sR "TooLong" 68 67 59 248,
 o9 68,
 As 68,
 Dk,
 o4,
 o5 P 271 "NoWork" 13 78,
 o1,
 o6,
 o2 "NoWork" 266 13 74 269,
 o3 76 73 "leastdeeds.errors" 187,
 o1,
 xb P 271 13 78,
 sR "NoWork" 80 79 71 264,
 o9 80,
 As 80,
 o1,
 o6,
 {cls:=.type "tuple",data:=.seq #[.str "thing" 285,.str "low" 286,.str "high" 287]},
 o1,
 gY "is_between" 7,
 cq "is_between" 282 "is_between" 16 3 83 288 289,
 bO "is_between" 7 "leastdeeds.wholes" 280 88,
 o1,
 o6,
 xf "words" 308 "thing",
 o1,
 gY "is_word" 15,
 cq "is_word" 305 "is_word" 27 2 90 310 311,
 bO "is_word" 15 "leastdeeds.machines" 291 95,
 o1,
 o6,
 xf "places" 316 "thing",
 o1,
 gY "is_place" 16,
 cq "is_place" 313 "is_place" 29 2 97 318 319,
 bO "is_place" 16 "leastdeeds.machines" 291 102,
 o1,
 o6,
 G2 "thing" 324,
 o1,
 gY "is_cost" 17,
 cq "is_cost" 321 "is_cost" 31 1 104 325 326,
 bO "is_cost" 17 "leastdeeds.machines" 291 109,
 o1,
 o6,
 xf "long" 331 "thing",
 o1,
 gY "is_tuple_of" 18,
 cq "is_tuple_of" 328 "is_tuple_of" 33 2 111 333 334,
 bO "is_tuple_of" 18 "leastdeeds.machines" 291 116,
 o1,
 o6,
 gY "is_table" 19,
 ir "is_table" 336 35 2 118 339,
 bO "is_table" 19 "leastdeeds.machines" 291 121,
 o1,
 o6,
 gY "is_double_table" 20,
 ir "is_double_table" 342 37 2 123 345,
 bO "is_double_table" 20 "leastdeeds.machines" 291 126,
 o1,
 o6,
 w9 "words" 351 "places" "parts" "table",
 o1,
 gY "is_turn" 21,
 cq "is_turn" 348 "is_turn" 39 3 128 357 358,
 bO "is_turn" 21 "leastdeeds.machines" 291 133,
 o1,
 o6,
 KD "words" 363 "places" "parts",
 o1,
 gY "is_join" 22,
 cq "is_join" 360 "is_join" 44 3 135 370 371,
 bO "is_join" 22 "leastdeeds.machines" 291 140,
 o1,
 o6,
 w9 "words" 376 "places" "parts" "other",
 o1,
 gY "is_move" 23,
 cq "is_move" 373 "is_move" 51 3 142 382 383,
 bO "is_move" 23 "leastdeeds.machines" 291 147,
 o1,
 o6,
 w9 "words" 388 "places" "parts" "word",
 o1,
 gY "is_put" 24,
 cq "is_put" 385 "is_put" 56 3 149 394 395,
 bO "is_put" 24 "leastdeeds.machines" 291 154,
 Dj P 397 134,
 o1,
 o6,
 {cls:=.type "tuple",data:=.seq #[.str "words" 409,.str "places" 410,.str "thing" 411,.str "sort" 412,.str "is_sort" 413]},
 o1,
 gY "is_deed" 26,
 cq "is_deed" 406 "is_deed" 62 3 157 414 415,
 bO "is_deed" 26 "leastdeeds.machines" 291 162,
 o1,
 o6,
 gY "is_machine" 27,
 ir "is_machine" 417 70 1 164 420,
 bO "is_machine" 27 "leastdeeds.machines" 291 167,
 o1,
 o6,
 G2 "thing" 426,
 o1,
 gY "need_machine" 28,
 cq "need_machine" 423 "need_machine" 79 1 169 427 428,
 bO "need_machine" 28 "leastdeeds.machines" 291 174,
 o1,
 o6,
 gY "beginnings" 29,
 ir "beginnings" 430 82 1 176 433,
 bO "beginnings" 29 "leastdeeds.machines" 291 179,
 o1,
 o6,
 xf "machine" 439 "thing",
 o1,
 gY "is_deed_number" 30,
 cq "is_deed_number" 436 "is_deed_number" 89 2 181 441 442,
 bO "is_deed_number" 30 "leastdeeds.machines" 291 186,
 o1,
 o6,
 KC "machine" 447 "row" "place" "thing",
 o1,
 gY "need_numbers" 31,
 cq "need_numbers" 444 "need_numbers" 91 2 188 451 452,
 bO "need_numbers" 31 "leastdeeds.machines" 291 193,
 o1,
 o6,
 xf "machine" 457 "row",
 o1,
 gY "need_row" 32,
 cq "need_row" 454 "need_row" 97 2 195 459 460,
 bO "need_row" 32 "leastdeeds.machines" 291 200,
 o1,
 o6,
 w9 "deed" 467 "standing" "sort" "table",
 o1,
 gY "turned" 34,
 cq "turned" 464 "turned" 103 2 202 473 474,
 bO "turned" 34 "leastdeeds.runs" 462 207,
 o1,
 o6,
 KD "deed" 479 "standing" "sort",
 o1,
 gY "joined" 35,
 cq "joined" 476 "joined" 106 2 209 486 487,
 bO "joined" 35 "leastdeeds.runs" 462 214,
 o1,
 o6,
 w9 "deed" 492 "standing" "sort" "other",
 o1,
 gY "moved" 36,
 cq "moved" 489 "moved" 109 2 216 498 499,
 bO "moved" 36 "leastdeeds.runs" 462 221,
 o1,
 o6,
 w9 "deed" 504 "standing" "sort" "word",
 o1,
 gY "put_in" 37,
 cq "put_in" 501 "put_in" 112 2 223 510 511,
 bO "put_in" 37 "leastdeeds.runs" 462 228,
 Dj P 513 208,
 o1,
 o6,
 KC "deed" 525 "standing" "new_word" "at",
 o1,
 gY "done" 39,
 cq "done" 522 "done" 116 2 231 529 530,
 bO "done" 39 "leastdeeds.runs" 462 236]) 0 .nil,238,{},#[],{},532,os⟩
def kE:Env:={scope:=PySem.Challenge.pw_leastdeeds_k20_works_done.main.scope,locals:=mainNs,globals:=mainNs,cells:=[],code:=.ref 13,frame:=some 14}
def kP (w:World)(os:OsState):=HD.xq treeTable PySem.Challenge.pw_leastdeeds_k20_works_done w 11 (some (.ref 6)) 12 (HD.yT w.params os) (PySem.W.topStub PySem.Challenge.pw_leastdeeds_k20_works_done)
def kU (w:World)(os:OsState):=(kP w os).bind fun x=>HD.rn treeTable PySem.Challenge.pw_leastdeeds_k20_works_done w 11 (some (.ref 6)) 2023 x.1 (PySem.W.piecesOf ((PySem.W.behindTheImports PySem.Challenge.pw_leastdeeds_k20_works_done).take 40) kE (.body (PySem.W.behindTheImports PySem.Challenge.pw_leastdeeds_k20_works_done) kE) ⟨0,0,0,0⟩ [PySem.W.topFrame ⟨0,0,0,0⟩])
def kV (w:World)(os:OsState):Option (Flow×PySem.W.SharedT×Code×Pos):=some (.next,kM w.params os,(.body (PySem.W.behindTheImports PySem.Challenge.pw_leastdeeds_k20_works_done) kE),⟨116,0,119,74⟩)
def kR (w:World)(os:OsState):=(HD.l4 treeTable PySem.Challenge.pw_leastdeeds_k20_works_done w 11 (some (.ref 6)) 4208 (kM w.params os) (PySem.W.restOf ((PySem.W.behindTheImports PySem.Challenge.pw_leastdeeds_k20_works_done).drop 40) kE (.body (PySem.W.behindTheImports PySem.Challenge.pw_leastdeeds_k20_works_done) kE) ⟨116,0,119,74⟩ [PySem.W.topFrame ⟨0,0,0,0⟩])).map fun s=>HD.yy PySem.Challenge.pw_leastdeeds_k20_works_done kq qJ kX true (PySem.W.boot_heap w.params) (fun s=>HV.map s.heap.get?) s.abs
def kG (w:World):=some (true,PySem.W.openGood kq qJ,(kh w.params).map fun p=>some p.2)
def _root_.PySem.W.Fast.tw2919979314641514767:Program:=PySem.Challenge.pw_leastdeeds_k20_works_done
theorem _root_.PySem.W.Fast.te2919979314641514767:PySem.Challenge.pw_leastdeeds_k20_works_done=PySem.W.Fast.tw2919979314641514767:=rfl
def _root_.PySem.W.Fast.tw3529909237082154443:Params->PySem.W.Frag:=K20.kh
theorem _root_.PySem.W.Fast.te3529909237082154443:K20.kh=PySem.W.Fast.tw3529909237082154443:=rfl
def _root_.PySem.W.Fast.tw3665182926370121969:Params->OsState->PySem.W.SharedT:=K20.kM
theorem _root_.PySem.W.Fast.te3665182926370121969:K20.kM=PySem.W.Fast.tw3665182926370121969:=rfl
theorem kRs:kR=kR:=rfl
name_quick kq20 for kR by kRs
theorem kGs:kG=kG:=rfl
name_quick kg20 for kG by kGs
theorem kUs:kU=kU:=rfl
name_quick ku20 for kU by kUs
theorem kVs:kV=kV:=rfl
name_quick kv20 for kV by kVs
theorem Ct:∀(w:World) (os:OsState),PySem.W.Fast.ku20 (w.withFollow "special-get-raises" false) os=PySem.W.Fast.kv20 (w.withFollow "special-get-raises" false) os:=fun w os=>by kernel_rfl
theorem EK:∀(w:World) (os:OsState),PySem.W.Fast.ku20 (w.withFollow "special-get-raises" true) os=PySem.W.Fast.kv20 (w.withFollow "special-get-raises" true) os:=fun w os=>by kernel_rfl
theorem ka:∀(w:World) (os:OsState),kU w os=kV w os:=fun w os=>by
 rw [PySem.W.Fast.ku20_eq,PySem.W.Fast.kv20_eq]
 exact PySem.W.byRow2 "special-get-raises" (P:=fun w=>PySem.W.Fast.ku20 w os=PySem.W.Fast.kv20 w os) (fun w=>Ct w os) (fun w=>EK w os) w
theorem Cs:∀(w:World) (os:OsState),PySem.W.Fast.kq20 (w.withFollow "special-get-raises" false) os=PySem.W.Fast.kg20 (w.withFollow "special-get-raises" false):=fun w os=>by kernel_rfl
theorem EJ:∀(w:World) (os:OsState),PySem.W.Fast.kq20 (w.withFollow "special-get-raises" true) os=PySem.W.Fast.kg20 (w.withFollow "special-get-raises" true):=fun w os=>by kernel_rfl
theorem kl:∀(w:World) (os:OsState),kR w os=kG w:=fun w os=>by
 rw [PySem.W.Fast.kq20_eq,PySem.W.Fast.kg20_eq]
 exact PySem.W.byRow2 "special-get-raises" (P:=fun w=>PySem.W.Fast.kq20 w os=PySem.W.Fast.kg20 w) (fun w=>Cs w os) (fun w=>EJ w os) w
theorem kp:∀(w:World) (os:OsState),(kP w os).map (·.2)=some ⟨denote treeTable (.body (PySem.W.behindTheImports PySem.Challenge.pw_leastdeeds_k20_works_done) kE),(.body (PySem.W.behindTheImports PySem.Challenge.pw_leastdeeds_k20_works_done) kE),⟨0,0,0,0⟩,[PySem.W.topFrame ⟨0,0,0,0⟩]⟩:=fun w os=>by kernel_rfl
theorem JO:PySem.W.LeftO yG.prog kq qJ kX kH.obs kH.val 6244:=HD.wu (m0:=11) (ann:=some (.ref 6)) (PySem.W.boot_open (by rfl) (by decide) (fun _=>rfl)) (fun w=>by kernel_rfl) fun w os=>HD.Ff (J:=40) (kp w os) (by kernel_rfl) (ka w os) (kl w os)
end K20
namespace L2
open PySem PySem.Spec PyProof.Rows
abbrev Key:=Sum Int Str
def ub:Key->Value->Bool
 |.inl k,v=>Value.isInt k v
 |.inr x,v=>Value.isStrOf x v
def My (w:World):Key->Int
 |.inl k=>hashInt k
 |.inr x=>hashStr w x
theorem dU:∀{k:Key}{v:Value},ub k v=true->(∃i t,k=Sum.inl i/\v=Value.int i t)\/(∃x t,k=Sum.inr x/\v=Value.str x t)
 | .inl i, v, h => by
   obtain ⟨t,e⟩:=Value.isInt_shape (k:=i) (v:=v) h
   exact .inl ⟨i,t,rfl,e⟩
 | .inr x, v, h => by
   obtain ⟨t,e⟩:=Value.isStrOf_shape (x:=x) (v:=v) h
   exact .inr ⟨x,t,rfl,e⟩
theorem lE (x:Str)(t:Tok):ub (.inr x) (.str x t)=true:=by simp [ub,Value.isStrOf]
theorem HU (a b:Int):decide ((Sum.inl a:Key)=Sum.inl b)=(a==b):=by
 by_cases e:a=b
 ·subst e;simp
 ·have h:¬ (Sum.inl a:Key)=Sum.inl b:=fun q=>e (Sum.inl.inj q)
  rw [decide_eq_false h]
  exact (beq_eq_false_iff_ne.mpr e).symm
theorem HQ (a b:Str):decide ((Sum.inr a:Key)=Sum.inr b)=decide (a=b):=by
 by_cases e:a=b
 ·subst e;simp
 ·have h:¬ (Sum.inr a:Key)=Sum.inr b:=fun q=>e (Sum.inr.inj q)
  rw [decide_eq_false h,decide_eq_false e]
theorem HS (a:Int)(b:Str):decide ((Sum.inl a:Key)=Sum.inr b)=false:=decide_eq_false (fun q=>nomatch q)
theorem HR (a:Str)(b:Int):decide ((Sum.inr a:Key)=Sum.inl b)=false:=decide_eq_false (fun q=>nomatch q)
def mh (prog:Program)(w:World):PySem.KeyKind prog w Key where
 is:=ub
 hash:=My w
 inj:=fun v a b ha hb=>by
  rcases dU ha with ⟨i,t,rfl,rfl⟩|⟨x,t,rfl,rfl⟩
  ·rcases dU hb with ⟨j,u,rfl,e⟩|⟨y,u,rfl,e⟩
   ·injection e with e1 _;rw [e1]
   ·exact nomatch e
  ·rcases dU hb with ⟨j,u,rfl,e⟩|⟨y,u,rfl,e⟩
   ·exact nomatch e
   ·injection e with e1 _;rw [e1]
 byValue:=fun k v h=>by
  rcases dU h with ⟨i,t,rfl,rfl⟩|⟨x,t,rfl,rfl⟩<;>rfl
 pyHash:=fun hv h=>by
  rcases dU hv with ⟨i,t,rfl,rfl⟩|⟨x,t,rfl,rfl⟩
  ·exact wpAny_pyHash_int h
  ·exact wpAny_pyHash_str h
 eqBool:=fun hu hv h=>by
  rcases dU hu with ⟨i,t,rfl,rfl⟩|⟨x,t,rfl,rfl⟩
  ·rcases dU hv with ⟨j,u,rfl,rfl⟩|⟨y,u,rfl,rfl⟩
   ·rw [HU] at h;exact wpAny_eqBool_int h
   ·rw [HS] at h;exact SeqAt.EqAt.int_str i t y u _ _ _ _ h
  ·rcases dU hv with ⟨j,u,rfl,rfl⟩|⟨y,u,rfl,rfl⟩
   ·rw [HR] at h;exact SeqAt.EqAt.str_int x t j u _ _ _ _ h
   ·rw [HQ] at h;exact wpAny_eqBool_str h
 «strs»:=fun k x t v h=>by
  rcases dU h with ⟨i,u,rfl,e⟩|⟨y,u,rfl,e⟩
  ·exact nomatch e
  ·injection e with e1 _
   subst e1
   cases v<;>rfl
end L2
namespace L2
open PySem PySem.Spec PyProof.Rows
inductive V where
 |non|bl (b:Bool)|int (i:Int)|str (x:Str)|byt (b:Array UInt8)|flt (b:UInt64)|ref (a:Addr)|ty (n:String)
 deriving DecidableEq
def RelV:V->Value->Prop
 |.non,u=>u=Value.none
 |.bl b,u=>u=Value.bool b
 |.int i,u=>∃t,u=Value.int i t
 |.str x,u=>∃t,u=Value.str x t
 |.byt b,u=>∃t,u=Value.bytes b t
 |.flt b,u=>∃t,u=Value.float b t
 |.ref a,u=>u=Value.ref a
 |.ty n,u=>u=Value.type n
abbrev Vals:List V->List Value->Prop:=Paired RelV
theorem Vals.length {xs:List V}{us:List Value}(r:Vals xs us):xs.length=us.length:=Paired.length r
theorem Vals.get:∀{xs:List V}{us:List Value}{i:Nat}{x:V},Vals xs us->xs[i]?=some x->∃u,us[i]?=some u/\RelV x u
 |_,_,_,_,.nil,e=>by simp at e
 |_,_,0,_,.cons r _,e=>by simp at e;subst e;exact ⟨_,rfl,r⟩
 | _, _, i + 1, x, .cons _ t, e => by
   obtain ⟨u,h1,h2⟩:=Vals.get (i:=i) (x:=x) t (by simpa using e)
   exact ⟨u,by simpa using h1,h2⟩
theorem Vals.set {x:V}{u:Value}(r:RelV x u):∀{xs:List V}{us:List Value} (i:Nat),Vals xs us->Vals (xs.set i x) (us.set i u)
 |_,_,_,.nil=>.nil
 |_,_,0,.cons _ t=>.cons r t
 |_,_,i+1,.cons q t=>.cons q (Vals.set r i t)
theorem Vals.append:∀{xs ys:List V}{us ws:List Value},Vals xs us->Vals ys ws->Vals (xs++ys) (us++ws)
 |_,_,_,_,.nil,s=>s
 |_,_,_,_,.cons r t,s=>.cons r (Vals.append t s)
theorem Vals.take:∀{xs:List V}{us:List Value} (n:Nat),Vals xs us->Vals (xs.take n) (us.take n)
 |_,_,0,_=>.nil
 |_,_,_+1,.nil=>.nil
 |_,_,n+1,.cons r t=>.cons r (Vals.take n t)
theorem Vals.drop:∀{xs:List V}{us:List Value} (n:Nat),Vals xs us->Vals (xs.drop n) (us.drop n)
 |_,_,0,r=>r
 |_,_,_+1,.nil=>.nil
 |_,_,n+1,.cons _ t=>Vals.drop n t
def sq:Option V->Option Value->Prop
 |some v,some u=>RelV v u
 |none,none=>True
 |_,_=>False
def KV {κ:Type}:List (κ×V)->List (κ×Value)->Prop:=Paired fun (p:κ×V) (q:κ×Value)=>p.1=q.1/\RelV p.2 q.2
def kV:Key->V
 |.inl i=>.int i
 |.inr x=>.str x
inductive HO where
 |lst (xs:List V)
 |tup (xs:List V)
 |dK (kvs:List (Key×V))|dT (kvs:List (List Key×V))
 |set (S:Int->Bool) (n:Nat)
 |ins (C dx:Addr) (fs:List (Str×V))
 |own (x:Addr)
 |xd (fs:List (Str×V))
 |met (f x:Addr)
 |rng (lo hi:Int)
 |frz (o:Obj) (u:HO)
 |tbl (ps:Array Value)
 |ext (φ:Heap->Prop)
abbrev Hp:=Addr->Option HO
def upd (H:Hp)(a:Addr)(o:HO):Hp:=fun b=>if b=a then some o else H b
theorem cE {H:Hp}{a:Addr}{o:HO}:upd H a o a=some o:=by unfold upd;rw [if_pos rfl]
theorem aX {H:Hp}{a b:Addr}{o:HO}(h:b≠a):upd H a o b=H b:=by unfold upd;rw [if_neg h]
theorem bA {H:Hp}{a b:Addr}{o:HO}(h:H a=some o)(h':H b=none):a≠b:=by
 intro e;subst e;rw [h] at h';cases h'
section
variable (P:Program)(w:World)
def dC (H:Hp)(h:Heap)(a:Addr):HO->Prop
 |.lst xs=>xs.length<=sizeLine/\∃(its:List Value) (n:Nat),Vals xs its/\h.get? a=some {cls:=.type "list",data:=.seq its.toArray n}
 |.tup xs=>xs.length<=sizeLine/\∃its:List Value,Vals xs its/\IsTup h a its.toArray
 |.dK kvs=>kvs.length<=sizeLine/\(a==sysModules)=false/\∃vs,KV kvs vs/\h.DictOf (mh P w) a vs
 |.dT kvs=>kvs.length<=sizeLine/\(a==sysModules)=false/\∃xs:List (List Key×Addr×Value),
  Paired (fun (p:List Key×V) (q:List Key×Addr×Value)=>p.1=q.1/\H q.2.1=some (.tup (p.1.map kV))/\RelV p.2 q.2.2) kvs xs/\
  ∃o es ep,h.get? a=some o/\o.ExactDict/\o.data=.dict es ep/\es.toList=xs.map (entryOfKey (tupleKind (mh P w)))/\(xs.map (·.1)).Nodup
 |.set S n=>h.SetOf (intKind P w) a S n
 |.ins C dx fs=>H dx=some (.own a)/\fs.length<=1000/\dx≠a/\h.get? a=some (PySem.W.instObj C dx)/\
  ∃mA,h.Ns1 dx mA/\(∀f,sq (fs.lookup f) (mA f))/\PySem.Within mA (fs.map (·.1))
 |.own _=>∃o,h.get? a=some o
 |.xd fs=>∃mA,h.Ns1 a mA/\∀f,sq (fs.lookup f) (mA f)
 |.rng lo hi=>∃t u v,h.get? a=some {cls:=.type "range",data:=.fields #[.int lo t,.int hi u,.int 1 v]}
 |.frz o u=>h.get? a=some o/\dC H h a u
 |.tbl ps=>h.get? a=some {cls:=.none,data:=.fields ps}
 |.met f x=>h.get? a=some (PySem.W.methodObj (.ref f) (.ref x))
 |.ext φ=>φ h/\(∃o,h.get? a=some o)/\∀h1 h2:Heap,φ h1->(∀o,h1.get? a=some o->h2.get? a=some o)->φ h2
def fF (H:Hp)(h:Heap):Prop:=∀a o,H a=some o->dC P w H h a o
end
section
variable {P:Program}{w:World}{H H':Hp}{h h':Heap}{a:Addr}{o:HO}
theorem dC.lt (x:dC P w H h a o):a<h.objs.size:=by
 cases o with
 |lst xs=>obtain ⟨_,_,_,_,e⟩:=x;exact tqd e
 |tup xs=>obtain ⟨_,_,_,p⟩:=x;exact p.lt
 |dK kvs=>obtain ⟨_,_,_,_,o,_,_,e,_⟩:=x;exact tqd e
 |dT kvs=>obtain ⟨_,_,_,_,o,_,_,e,_⟩:=x;exact tqd e
 |set S n=>obtain ⟨o,_,_,_,e,_⟩:=x;exact tqd e
 |ins C dx fs=>obtain ⟨_,_,_,e,_⟩:=x;exact tqd e
 |own y=>obtain ⟨_,e⟩:=x;exact tqd e
 |xd fs=>obtain ⟨_,⟨_,_,_,e,_⟩,_⟩:=x;exact tqd e
 |rng lo hi=>obtain ⟨_,_,_,e⟩:=x;exact tqd e
 |frz ob u=>obtain ⟨e,_⟩:=x;exact tqd e
 |tbl ps=>exact tqd (show h.get? a=some _ from x)
 |met f y=>exact tqd (show h.get? a=some _ from x)
 |ext φ=>obtain ⟨_,⟨_,e⟩,_⟩:=x;exact tqd e
theorem Paired.mapP {α β:Type}{F G:α->β->Prop}:∀{l₁:List α}{l₂:List β},Paired F l₁ l₂->(∀a b,F a b->G a b)->Paired G l₁ l₂
 |_,_,.nil,_=>.nil
 |_,_,.cons r t,f=>.cons (f _ _ r) (Paired.mapP t f)
theorem dC.stay (x:dC P w H h a o)(k:∀b u,(b=a\/H b=some (.own a))->h.get? b=some u->h'.get? b=some u)
 (ho:∀b,H b=some (.own a)->H' b=some (.own a)) (ht:∀b xs,H b=some (.tup xs)->H' b=some (.tup xs)):dC P w H' h' a o:=by
 induction o with
 |lst xs=>obtain ⟨z,its,n,r,e⟩:=x;exact ⟨z,its,n,r,k _ _ (.inl rfl) e⟩
 |tup xs=>obtain ⟨z,its,r,ob,e,c⟩:=x;exact ⟨z,its,r,ob,k _ _ (.inl rfl) e,c⟩
 |dK kvs=>obtain ⟨z,y,vs,r,ob,es,ep,e,c⟩:=x;exact ⟨z,y,vs,r,ob,es,ep,k _ _ (.inl rfl) e,c⟩
 | dT kvs =>
   obtain ⟨z,y,xs,r,ob,es,ep,e,c⟩:=x
   exact ⟨z,y,xs,Paired.mapP r fun p q z=>⟨z.1,ht _ _ z.2.1,z.2.2⟩,ob,es,ep,k _ _ (.inl rfl) e,c⟩
 |set S n=>obtain ⟨ob,es,ep,t,e,c⟩:=x;exact ⟨ob,es,ep,t,k _ _ (.inl rfl) e,c⟩
 | ins C dx fs =>
   obtain ⟨d,z,ne,e,mA,⟨od,es,ep,e2,c⟩,r⟩:=x
   exact ⟨ho _ d,z,ne,k _ _ (.inl rfl) e,mA,⟨od,es,ep,k _ _ (.inr d) e2,c⟩,r⟩
 |own y=>obtain ⟨ob,e⟩:=x;exact ⟨ob,k _ _ (.inl rfl) e⟩
 |xd fs=>obtain ⟨mA,⟨od,es,ep,e,c⟩,r⟩:=x;exact ⟨mA,⟨od,es,ep,k _ _ (.inl rfl) e,c⟩,r⟩
 |rng lo hi=>obtain ⟨t,u,v,e⟩:=x;exact ⟨t,u,v,k _ _ (.inl rfl) e⟩
 |frz ob u ih=>obtain ⟨e,q⟩:=x;exact ⟨k _ _ (.inl rfl) e,ih q⟩
 | tbl ps =>
   have e:h.get? a=some {cls:=.none,data:=.fields ps}:=x
   show h'.get? a=some {cls:=.none,data:=.fields ps}
   exact k a _ (.inl rfl) e
 | met f y =>
   have e:h.get? a=some (PySem.W.methodObj (.ref f) (.ref y)):=x
   show h'.get? a=some (PySem.W.methodObj (.ref f) (.ref y))
   exact k a _ (.inl rfl) e
 |ext φ=>obtain ⟨p,⟨o,e⟩,st⟩:=x;exact ⟨st _ _ p fun o q=>k _ _ (.inl rfl) q,⟨o,k _ _ (.inl rfl) e⟩,st⟩
theorem fF.lt (x:fF P w H h)(e:H a=some o):a<h.objs.size:=(x a o e).lt
theorem fF.fresh (x:fF P w H h)(e:h.objs.size<=a):H a=none:=by
 cases q:H a with
 |none=>rfl
 |some u=>exact absurd (tqi (x.lt q) e) (tqn _)
theorem fF.kept (x:fF P w H h)(k:∀b u,h.get? b=some u->h'.get? b=some u):fF P w H h':=fun a o e=>
 (x a o e).stay (fun b u _ q=>k b u q) (fun _ q=>q) fun _ _ q=>q
theorem fF.laid (x:fF P w H h)(k:∀b u,h.get? b=some u->h'.get? b=some u)(hp:h.objs.size<=a)(new:dC P w (upd H a o) h' a o):fF P w (upd H a o) h':=fun b u e=>by
 have hn:=x.fresh hp
 by_cases hb:b=a
 ·subst hb;rw [cE] at e;cases e;exact new
 ·rw [aX hb] at e
  exact (x b u e).stay (fun c v _ q=>k c v q) (fun c q=>by rw [aX (bA q hn)];exact q) fun c xs q=>by rw [aX (bA q hn)];exact q
end
def Rd (H:Hp)(a:Addr)(u:HO):Prop:=H a=some u\/∃o,H a=some (.frz o u)
theorem Rd.ok {P:Program}{w:World}{H:Hp}{h:Heap}{a:Addr}{u:HO}(r:Rd H a u)(x:fF P w H h):dC P w H h a u:=by
 rcases r with r|⟨o,r⟩
 ·exact x a u r
 ·obtain ⟨_,q⟩:=x a _ r
  exact q
def DC:Option HO->Prop
 |some (.lst _)=>True
 |some (.dK _)=>True
 |some (.dT _)=>True
 |some (.set _ _)=>True
 |some (.ins _ _ _)=>True
 |some (.ext _)=>True
 |_=>False
section
variable {P:Program}{w:World}{H:Hp}{h h':Heap}{x e:Addr}{o':HO}
theorem fF.write (ok:fF P w H h)(mu:DC (H x))(he:e=x\/H e=some (.own x))(k:∀b u,b≠e->h.get? b=some u->h'.get? b=some u)(heo:∃u,h'.get? e=some u)
 (new:dC P w (upd H x o') h' x o'):fF P w (upd H x o') h':=fun b u q=>by
 have nown:∀c y,H c=some (.own y)->c≠x:=fun c y r z=>by subst z;rw [r] at mu;exact mu
 have ntup:∀c xs,H c=some (.tup xs)->c≠x:=fun c xs r z=>by subst z;rw [r] at mu;exact mu
 by_cases hb:b=x
 ·subst hb;rw [cE] at q;cases q;exact new
 ·rw [aX hb] at q
  by_cases hbe:b=e
  ·have q':H b=some (.own x):=by
    rcases he with z|z
    ·exact absurd (hbe.trans z) hb
    ·rw [hbe];exact z
   rw [q] at q';cases q'
   obtain ⟨v,hv⟩:=heo
   exact ⟨v,by rw [hbe];exact hv⟩
  ·refine (ok b u q).stay (fun c v hc r=>k c v ?_ r) (fun c r=>by rw [aX (nown c b r)];exact r) fun c xs r=>by rw [aX (ntup c xs r)];exact r
   rcases hc with rfl|hc
   ·exact hbe
   ·rintro rfl
    rcases he with z|z
    ·exact nown c b hc z
    ·rw [hc] at z;cases z;exact hb rfl
end
structure Un (fs ex:List Addr) (H H':Hp) (h h':Heap):Prop where
 keep:∀b o,h.get? b=some o->H b=none->b∉fs->b∉ex->h'.get? b=some o
 slot:∀b o,h.get? b=some o->H b=none->b∈fs->b∉ex->∃sl,h'.get? b=some {o with slots:=sl}
 free:∀b o,h.get? b=some o->H b=none->b∉ex->H' b=none
 there:∀b o,h.get? b=some o->b∉ex->∃o',h'.get? b=some o'
 tups:∀b xs,H b=some (.tup xs)->H' b=some (.tup xs)
 frzs:∀b o u,H b=some (.frz o u)->H' b=some (.frz o u)
 tbls:∀b ps,H b=some (.tbl ps)->∃more,H' b=some (.tbl (ps++more))
section
variable {fs fs' ex ex':List Addr}{H H1 H2:Hp}{h h1 h2 h':Heap}{a x e:Addr}{o:HO}
theorem Un.any (u:Un fs ex H H1 h h1){b:Addr}{ob:Obj}(q:h.get? b=some ob)(n:H b=none)(hx:b∉ex):∃sl,h1.get? b=some {ob with slots:=sl}:=by
 by_cases hb:b∈fs
 ·exact u.slot b ob q n hb hx
 ·exact ⟨ob.slots,u.keep b ob q n hb hx⟩
theorem Un.kept (k:∀b u,h.get? b=some u->h'.get? b=some u):Un fs ex H H h h':=
 ⟨fun b ob q _ _ _=>k b ob q,fun b ob q _ _ _=>⟨ob.slots,k b ob q⟩,fun _ _ _ n _=>n,fun b ob q _=>⟨ob,k b ob q⟩,fun _ _ q=>q,fun _ _ _ q=>q,fun _ ps q=>⟨#[],by rw [q];simp⟩⟩
theorem Un.refl:Un fs ex H H h h:=Un.kept fun _ _ q=>q
theorem Un.laid (k:∀b u,h.get? b=some u->h'.get? b=some u)(hp:h.objs.size<=a)(hn:H a=none):Un fs ex H (upd H a o) h h' where
 keep:=fun b u q _ _ _=>k b u q
 slot:=fun b u q _ _ _=>⟨u.slots,k b u q⟩
 free:=fun b u q n _=>by rw [aX (tqk (tqi (tqd q) hp))];exact n
 there:=fun b u q _=>⟨u,k b u q⟩
 tups:=fun b xs q=>by rw [aX (bA q hn)];exact q
 frzs:=fun b u xs q=>by rw [aX (bA q hn)];exact q
 tbls:=fun b ps q=>⟨#[],by rw [aX (bA q hn),q];simp⟩
theorem Un.write (mu:DC (H x))(he:e=x\/H e=some (.own x))(k:∀b u,b≠e->h.get? b=some u->h'.get? b=some u)(heo:∃u,h'.get? e=some u):Un fs ex H (upd H x o) h h':=by
 have hx:∀b,H b=none->b≠x:=fun b n z=>by subst z;rw [n] at mu;exact mu
 have hb:∀b,H b=none->b≠e:=fun b n z=>by
  subst z
  rcases he with r|r
  ·exact hx b n r
  ·rw [n] at r;cases r
 have hm:∀b u,H b=some u->¬ DC (some u)->b≠x:=fun b u q nm z=>by subst z;rw [q] at mu;exact nm mu
 refine ⟨fun b u q n _ _=>k b u (hb b n) q,fun b u q n _ _=>⟨u.slots,k b u (hb b n) q⟩,fun b u q n _=>by rw [aX (hx b n)];exact n,fun b u q _=>?_,
  fun b xs q=>by rw [aX (hm b _ q fun z=>z)];exact q,fun b u xs q=>by rw [aX (hm b _ q fun z=>z)];exact q,fun b ps q=>⟨#[],by rw [aX (hm b _ q fun z=>z),q];simp⟩⟩
 by_cases hbe:b=e
 ·subst hbe;exact heo
 ·exact ⟨u,k b u hbe q⟩
end
def C3 (h:Heap)(H:Hp):List Addr:=(List.range h.objs.size).filter fun a=>(H a).isSome
def mV (h:Heap)(H:Hp):Heap:=PySem.W.hideAll h (C3 h H)
theorem AK (h:Heap)(H:Hp):(mV h H).objs.size=h.objs.size:=PySem.W.hideAll_size _ _
theorem Cz {h:Heap}{H:Hp}{b:Addr}{o:Obj}(e:h.get? b=some o)(n:H b=none):(mV h H).get? b=some o:=
 PySem.W.hideAll_get _ e fun hm=>by
  have q:(H b).isSome=true:=(List.mem_filter.mp hm).2
  rw [n] at q;simp at q
theorem Ez {h:Heap}{H:Hp}{b:Addr}{o:Obj}(e:(mV h H).get? b=some o):h.get? b=some o/\H b=none:=by
 have e':h.get? b=some o:=PySem.W.of_hideAll (C3 h H) e
 refine ⟨e',?_⟩
 cases q:H b with
 |none=>rfl
 | some x =>
   have hm:b∈C3 h H:=List.mem_filter.mpr ⟨List.mem_range.mpr (tqd e'),by simp [q]⟩
   have z:(mV h H).get? b=none:=PySem.W.hideAll_none (C3 h H) hm
   rw [z] at e;cases e
end L2
namespace L2
open PySem PySem.Spec PyProof.Rows
structure Mod (K:PySem.W.Frag) (mg:Str->Option Value) (base:Heap):Prop where
 kin:K.In base
 glob:base.Ns mainGlobals mg
 blt:∃mb,base.Ns builtinsNs mb/\∀x:Str,x≠"__name__"->mb x=bootBuiltins x
 nolimit:base.NoLimit
structure Cx where
 prog:Program
 w:World
 K:PySem.W.Frag
 mg:Str->Option Value
 base:Heap
 A:Around
 N:List Str
 s₀:Shared
 H₀:Hp
 env:Env
 outer:List Env
 stack:List Env
 ex:List Addr
 fn:Str->Bool
 calm:Bool
 pn:List (Addr×Obj)
 xe:Value->Shared->Prop
def g7 (l:List Env):List Addr:=l.filterMap (·.frame)
abbrev Cx.fs (X:Cx):List Addr:=g7 X.outer
def tK (sc:Scope)(x:Str):Prop:=sc.names.lookup x=some .local\/sc.names.lookup x=some .cell\/sc.names.lookup x=some .free
def Loc (sc:Scope)(x:Str):Prop:=sc.names.lookup x=some .local\/sc.names.lookup x=some .cell
def Look (env:Env)(h:Heap)(m:Str->Option Value)(x:Str)(u:Value):Prop:=
 (env.kindOf x=some .local/\m x=some u)\/((env.kindOf x=some .cell\/env.kindOf x=some .free)/\∃c,env.cells.lookup x=some c/\h.IsCell c (some u))
structure Cx.Ok (X:Cx):Prop where
 mod:Mod X.K X.mg X.base
 kind:X.env.scope.kind=.function
 glob:X.env.globals=mainGlobals
 blt:X.env.builtins=builtinsNs
 above:X.s₀.heap.objs.size<=X.env.locals
 inj:∀x y c,X.env.cells.lookup x=some c->X.env.cells.lookup y=some c->x=y
 has:∀x,(X.env.kindOf x=some .cell\/X.env.kindOf x=some .free)->∃c,X.env.cells.lookup x=some c
 cab:∀x c,X.fn x=true->X.env.cells.lookup x=some c->X.s₀.heap.objs.size<=c
 hd:X.calm=true->X.A.handled=none
 frames:X.A.frames=some X.stack
 stk:X.stack=X.outer\/(X.stack=X.env::X.outer/\X.env.frame=some X.env.locals)
 exf:∀b∈X.ex,b≠X.env.locals/\∀x c,X.env.cells.lookup x=some c->c≠b
 bs:∀b o,X.base.get? b=some o->X.s₀.heap.get? b=some o/\X.H₀ b=none
 bsz:X.base.objs.size<=X.s₀.heap.objs.size
 noex:∀b o,X.base.get? b=some o->b∉X.ex
 exfs:∀b∈X.ex,b∉X.fs
 funs:X.s₀.heap.FunFrames X.base X.outer
 frf:∀b∈X.fs,X.H₀ b=none
structure Inv (X:Cx) (pins:List (Addr×Obj)) (σ:List (Option V)) (H:Hp) (s:Shared):Prop where
 ok:X.Ok
 os:s.os=X.s₀.os
 bare:AllBare s.gens
 base:Un X.fs X.ex X.H₀ H X.s₀.heap s.heap
 loc:∃m,s.heap.Ns X.env.locals m/\∀(i:Nat) (x:Str) (v:V),X.N[i]?=some x->σ[i]?=some (some v)->tK X.env.scope x->∃u,RelV v u/\Look X.env s.heap m x u
 cell:∀x c,X.env.cells.lookup x=some c->∃v,s.heap.IsCell c v
 free:H X.env.locals=none
 freeC:∀x c,X.env.cells.lookup x=some c->H c=none
 pin:∀p∈X.pn++pins,s.heap.get? p.1=some p.2/\H p.1=none/\p.1≠X.env.locals/\p.1∉X.fs/\∀v,p.2.data≠.cell v
 hok:fF X.prog X.w H s.heap
 len:σ.length=X.N.length
section
variable {X:Cx}{pins:List (Addr×Obj)}{σ:List (Option V)}{H H':Hp}{s:Shared}{h':Heap}
theorem Cx.Ok.nofr (ok:X.Ok){b:Addr}{o:Obj}(e:X.base.get? b=some o):b∉X.fs:=fun hb=>by
 have:=(ok.funs.mem hb).1
 rw [e] at this;cases this
theorem Inv.bs (I:Inv X pins σ H s):∀b o,X.base.get? b=some o->s.heap.get? b=some o/\H b=none:=fun b o e=>
 ⟨I.base.keep b o (I.ok.bs b o e).1 (I.ok.bs b o e).2 (I.ok.nofr e) (I.ok.noex b o e),I.base.free b o (I.ok.bs b o e).1 (I.ok.bs b o e).2 (I.ok.noex b o e)⟩
theorem Inv.bk (I:Inv X pins σ H s):∀b o,X.base.get? b=some o->s.heap.get? b=some o:=fun b o e=>(I.bs b o e).1
theorem Inv.mod (I:Inv X pins σ H s):Mod X.K X.mg X.base:=I.ok.mod
theorem Inv.kIn (I:Inv X pins σ H s):X.K.In s.heap:=I.ok.mod.kin.keeps I.bk
theorem Inv.lt (I:Inv X pins σ H s):X.env.locals<s.heap.objs.size:=let ⟨_,hn,_⟩:=I.loc;hn.lt
theorem Inv.sz (I:Inv X pins σ H s):X.s₀.heap.objs.size<=s.heap.objs.size:=tqh I.ok.above (Nat.le_of_lt I.lt)
theorem Inv.nofs (I:Inv X pins σ H s){a:Addr}(h:s.heap.objs.size<=a):a∉X.fs:=fun hb=>by
 obtain ⟨_,o,ho,_⟩:=I.ok.funs.mem hb
 exact absurd (tqi (tqd ho) (tqh I.sz h)) (tqn _)
theorem Inv.cne (I:Inv X pins σ H s):∀x c,X.env.cells.lookup x=some c->c≠X.env.locals:=fun x c e z=>by
 obtain ⟨v,o,ho,hd⟩:=I.cell x c e
 obtain ⟨m,⟨o',es,ep,ho',hd',_⟩,_⟩:=I.loc
 rw [z,ho'] at ho;cases ho;rw [hd'] at hd;cases hd
theorem Inv.funs (I:Inv X pins σ H s):s.heap.FunFrames X.base X.outer:=by
 have all:∀(l:List Env),(∀b∈g7 l,b∈X.fs)->X.s₀.heap.FunFrames X.base l->s.heap.FunFrames X.base l:=by
  intro l
  induction l with
  |nil=>intro _ _;trivial
  | cons env r ih =>
    intro hs hl
    obtain ⟨hk,⟨L,o,hf,hn,ho,hd⟩,hr⟩:=hl
    have hL:L∈X.fs:=hs L (by unfold g7;rw [List.filterMap_cons,hf];exact List.mem_cons_self)
    obtain ⟨sl,e⟩:=I.base.slot L o ho (I.ok.frf L hL) hL fun z=>I.ok.exfs L z hL
    exact ⟨hk,⟨L,_,hf,hn,e,hd⟩,ih (fun b hb=>hs b (by unfold g7;rw [List.filterMap_cons,hf];exact List.mem_cons_of_mem _ hb)) hr⟩
 exact all X.outer (fun _ hb=>hb) I.ok.funs
theorem Inv.stack (I:Inv X pins σ H s):s.heap.FunFrames X.base X.stack:=by
 rcases I.ok.stk with e|⟨e,hf⟩
 ·rw [e];exact I.funs
 ·rw [e]
  obtain ⟨m,hn,_⟩:=I.loc
  refine .cons (by rw [I.ok.kind];decide) hf hn ?_ I.funs
  exact Heap.get?_none_of_le (tqh I.ok.bsz I.ok.above)
theorem Inv.stkSub (I:Inv X pins σ H s):∀b∈g7 X.stack,b∈X.env.locals::X.fs:=fun b hb=>by
 rcases I.ok.stk with e|⟨e,hf⟩
 ·rw [e] at hb;exact List.mem_cons_of_mem _ hb
 ·rw [e] at hb
  unfold g7 at hb
  rw [List.filterMap_cons,hf] at hb
  exact hb
theorem Inv.stkFree (I:Inv X pins σ H s):∀b∈g7 X.stack,H b=none:=fun b hb=>by
 rcases List.mem_cons.mp (I.stkSub b hb) with e|hb
 ·rw [e];exact I.free
 ·obtain ⟨_,o,ho,_⟩:=I.ok.funs.mem hb
  exact I.base.free b o ho (I.ok.frf b hb) fun z=>I.ok.exfs b z hb
theorem Inv.step {g':Array GenState}{t':Nat}{d':Drawn}{ch:List Addr}(I:Inv X pins σ H s)
 (hch:∀b∈ch,(b∈X.ex\/X.s₀.heap.objs.size<=b)/\b≠X.env.locals/\(∀x c,X.env.cells.lookup x=some c->c≠b)/\∀p∈X.pn++pins,p.1≠b)
 (keep:∀b o,b≠X.env.locals->b∉X.fs->b∉ch->s.heap.get? b=some o->H b=none->h'.get? b=some o)
 (slot:∀b o,b≠X.env.locals->b∈X.fs->b∉ch->s.heap.get? b=some o->H b=none->∃sl,h'.get? b=some {o with slots:=sl}) (free:∀b o,b∉ch->s.heap.get? b=some o->H b=none->H' b=none)
 (there:∀b o,b∉ch->s.heap.get? b=some o->∃o',h'.get? b=some o')
 (tups:∀b xs,H b=some (.tup xs)->H' b=some (.tup xs)) (frzs:∀b o u,H b=some (.frz o u)->H' b=some (.frz o u)) (tbls:∀b ps,H b=some (.tbl ps)->∃more,H' b=some (.tbl (ps++more)))
 (ns:∀m,s.heap.Ns X.env.locals m->h'.Ns X.env.locals m) (hok:fF X.prog X.w H' h') (hg:AllBare g') :
 Inv X pins σ H' {s with heap:=h',gens:=g',drawn:=d',toks:=t'}:=by
 have neL:∀b o,X.s₀.heap.get? b=some o->b≠X.env.locals:=fun b o e=>tqk (tqi (tqd e) I.ok.above)
 have neC:∀b o,X.s₀.heap.get? b=some o->b∉X.ex->b∉ch:=fun b o e hx hb=>by
  rcases (hch b hb).1 with z|z
  ·exact hx z
  ·exact absurd (tqi (tqd e) z) (tqn _)
 have cellK:∀x c,X.env.cells.lookup x=some c->∀v,s.heap.IsCell c v->h'.IsCell c v:=fun x c e v ⟨o,ho,hd⟩=>by
  have nch:c∉ch:=fun z=>(hch c z).2.2.1 x c e rfl
  by_cases hc:c∈X.fs
  ·obtain ⟨sl,q⟩:=slot c o (I.cne x c e) hc nch ho (I.freeC x c e)
   exact ⟨_,q,hd⟩
  ·exact ⟨o,keep c o (I.cne x c e) hc nch ho (I.freeC x c e),hd⟩
 refine ⟨I.ok,I.os,hg,⟨fun b o e n hb hx=>?_,fun b o e n hb hx=>?_,fun b o e n hx=>?_,fun b o e hx=>?_,fun b xs e=>tups b xs (I.base.tups b xs e),fun b o xs e=>frzs b o xs (I.base.frzs b o xs e),fun b ps e=>?_⟩,?_,fun x c e=>?_,?_,fun x c e=>?_,fun p hp=>?_,hok,I.len⟩
 ·exact keep b o (neL b o e) hb (neC b o e hx) (I.base.keep b o e n hb hx) (I.base.free b o e n hx)
 ·obtain ⟨sl,e1⟩:=I.base.slot b o e n hb hx
  obtain ⟨sl',e2⟩:=slot b _ (neL b o e) hb (neC b o e hx) e1 (I.base.free b o e n hx)
  exact ⟨sl',e2⟩
 ·obtain ⟨o',e1⟩:=I.base.there b o e hx
  exact free b o' (neC b o e hx) e1 (I.base.free b o e n hx)
 ·obtain ⟨o',e1⟩:=I.base.there b o e hx
  exact there b o' (neC b o e hx) e1
 ·obtain ⟨m1,e1⟩:=I.base.tbls b ps e
  obtain ⟨m2,e2⟩:=tbls b _ e1
  exact ⟨m1++m2,by rw [e2,Array.append_assoc]⟩
 ·obtain ⟨m,hn,hl⟩:=I.loc
  refine ⟨m,ns m hn,fun i x v e1 e2 e3=>?_⟩
  obtain ⟨u,r,l⟩:=hl i x v e1 e2 e3
  refine ⟨u,r,?_⟩
  rcases l with l|⟨k,c,e,z⟩
  ·exact .inl l
  ·exact .inr ⟨k,c,e,cellK x c e _ z⟩
 ·obtain ⟨v,z⟩:=I.cell x c e
  exact ⟨v,cellK x c e v z⟩
 ·obtain ⟨m,⟨o,_,_,ho,_⟩,_⟩:=I.loc
  exact free _ o (fun z=>(hch _ z).2.1 rfl) ho I.free
 ·obtain ⟨v,o,ho,hd⟩:=I.cell x c e
  exact free c o (fun z=>(hch c z).2.2.1 x c e rfl) ho (I.freeC x c e)
 ·obtain ⟨e,n,ne,nf,d⟩:=I.pin p hp
  have nch:p.1∉ch:=fun z=>(hch p.1 z).2.2.2 p hp rfl
  exact ⟨keep p.1 p.2 ne nf nch e n,free p.1 p.2 nch e n,ne,nf,d⟩
theorem Inv.un {t':Nat}(I:Inv X pins σ H s)(u:Un X.fs [] H H' s.heap h')(hok:fF X.prog X.w H' h'):Inv X pins σ H' {s with heap:=h',toks:=t'}:=by
 obtain ⟨m,⟨o,es,ep,ho,r⟩,_⟩:=id I.loc
 obtain ⟨sl,hL⟩:=u.any ho I.free (by simp)
 exact I.step (g':=s.gens) (d':=s.drawn) (ch:=[]) (fun _ z=>nomatch z) (fun b o _ hb _ e n=>u.keep b o e n hb (by simp)) (fun b o _ hb _ e n=>u.slot b o e n hb (by simp)) (fun b o _ e n=>u.free b o e n (by simp)) (fun b o _ e=>u.there b o e (by simp)) u.tups u.frzs u.tbls (fun m' hm=>by
  obtain ⟨o',es',ep',ho',r'⟩:=hm
  rw [ho] at ho';cases ho'
  exact ⟨_,es',ep',hL,r'⟩) hok I.bare
theorem Inv.call {g':Array GenState}{t':Nat}{d':Drawn}{ch:List Addr}(I:Inv X pins σ H s)(u:Un (g7 X.stack) ch H H' s.heap h')(hok:fF X.prog X.w H' h')(hg:AllBare g')
 (hch:∀b∈ch,(b∈X.ex\/X.s₀.heap.objs.size<=b)/\b≠X.env.locals/\(∀x c,X.env.cells.lookup x=some c->c≠b)/\∀p∈X.pn++pins,p.1≠b) :
 Inv X pins σ H' {s with heap:=h',gens:=g',drawn:=d',toks:=t'}:=by
 obtain ⟨m,⟨o,es,ep,ho,r⟩,_⟩:=id I.loc
 obtain ⟨sl,hL⟩:=u.any ho I.free fun z=>(hch _ z).2.1 rfl
 exact I.step (ch:=ch) hch (fun b o hL hb hc e n=>u.keep b o e n (fun z=>(List.mem_cons.mp (I.stkSub b z)).elim hL hb) hc) (fun b o _ _ hc e n=>u.any e n hc) (fun b o hc e n=>u.free b o e n hc) (fun b o hc e=>u.there b o e hc) u.tups u.frzs u.tbls (fun m' hm=>by
  obtain ⟨o',es',ep',ho',r'⟩:=hm
  rw [ho] at ho';cases ho'
  exact ⟨_,es',ep',hL,r'⟩) hok hg
theorem Inv.turned {t':Nat}{it:Addr}(I:Inv X pins σ H s)(k:∀b o,b≠it->s.heap.get? b=some o->h'.get? b=some o)(hn:H it=none)(hL:it≠X.env.locals)
 (h1:it∈X.ex\/X.s₀.heap.objs.size<=it) (h2:∀x c,X.env.cells.lookup x=some c->c≠it) (h3:∀p∈X.pn++pins,p.1≠it):Inv X pins σ H {s with heap:=h',toks:=t'}:=by
 have nit:∀b u,H b=some u->b≠it:=fun b u e z=>by rw [z,hn] at e;cases e
 refine I.step (g':=s.gens) (d':=s.drawn) (ch:=[it]) (fun b hb=>?_) (fun b o _ _ hc e _=>k b o (fun z=>hc (by simp [z])) e) (fun b o _ _ hc e _=>⟨o.slots,k b o (fun z=>hc (by simp [z])) e⟩) (fun _ _ _ _ n=>n)
  (fun b o hc e=>⟨o,k b o (fun z=>hc (by simp [z])) e⟩) (fun _ _ e=>e) (fun _ _ _ e=>e) (fun b ps e=>⟨#[],by rw [e];simp⟩) (fun m hm=>?_) (fun b u e=>?_) I.bare
 ·have e:b=it:=by simpa using hb
  subst e
  exact ⟨h1,hL,h2,h3⟩
 ·obtain ⟨o,es,ep,ho,r⟩:=hm
  exact ⟨o,es,ep,k _ o (Ne.symm hL) ho,r⟩
 ·refine (I.hok b u e).stay (fun c v hc q=>k c v ?_ q) (fun _ q=>q) fun _ _ q=>q
  rcases hc with z|z
  ·rw [z];exact nit b u e
  ·exact nit c _ z
theorem Inv.tok (I:Inv X pins σ H s)(t:Nat):Inv X pins σ H {s with toks:=t}:=I.un (h':=s.heap) (t':=t) Un.refl I.hok
theorem Inv.kept {t':Nat}(I:Inv X pins σ H s)(k:∀b u,s.heap.get? b=some u->h'.get? b=some u):Inv X pins σ H {s with heap:=h',toks:=t'}:=I.un (Un.kept k) (I.hok.kept k)
theorem Inv.laid {a:Addr}{o:HO}{t':Nat}(I:Inv X pins σ H s)(k:∀b u,s.heap.get? b=some u->h'.get? b=some u)(hp:s.heap.objs.size<=a)(new:dC X.prog X.w (upd H a o) h' a o) :
 Inv X pins σ (upd H a o) {s with heap:=h',toks:=t'}:=I.un (Un.laid k hp (I.hok.fresh hp)) (I.hok.laid k hp new)
theorem Inv.write {x e:Addr}{o:HO}{t':Nat}(I:Inv X pins σ H s)(mu:DC (H x))(he:e=x\/H e=some (.own x))(k:∀b u,b≠e->s.heap.get? b=some u->h'.get? b=some u)(heo:∃u,h'.get? e=some u)
 (new:dC X.prog X.w (upd H x o) h' x o):Inv X pins σ (upd H x o) {s with heap:=h',toks:=t'}:=I.un (Un.write mu he k heo) (I.hok.write mu he k heo new)
theorem Inv.pins_of {pins':List (Addr×Obj)}(I:Inv X pins σ H s)(h:∀p∈pins',s.heap.get? p.1=some p.2/\H p.1=none/\p.1≠X.env.locals/\p.1∉X.fs/\∀v,p.2.data≠.cell v):Inv X pins' σ H s:=
 ⟨I.ok,I.os,I.bare,I.base,I.loc,I.cell,I.free,I.freeC,fun p hp=>(List.mem_append.mp hp).elim (fun z=>I.pin p (List.mem_append_left _ z)) (h p),I.hok,I.len⟩
theorem pK {N:List Str}(hN:N.Nodup){i j:Nat}{x:Str}(a:N[i]?=some x)(b:N[j]?=some x):i=j:=by
 obtain ⟨h1,e1⟩:=List.getElem?_eq_some_iff.mp a
 obtain ⟨h2,e2⟩:=List.getElem?_eq_some_iff.mp b
 exact (List.getElem_inj hN).mp (e1.trans e2.symm)
theorem sG {M:Model}{A:Around}{E:Value->Shared->Prop}{i:Nat}{x:Str}{v:V}{u:Value}{Q:Unit->Shared->Prop}(I:Inv X pins σ H s)(hN:X.N.Nodup)(hi:X.N[i]?=some x)(hx:Loc X.env.scope x)(r:RelV v u)
 (h:∀s',Inv X pins (σ.set i (some v)) H s'->(∃a,Heap.SameBut a s.heap s'.heap/\(a=X.env.locals\/X.env.cells.lookup x=some a))->Q () s') (hf:X.fn x=true\/X.env.scope.names.lookup x=some .local:=by first|exact .inl rfl|exact .inr rfl|assumption):wpAny M A (storeName X.env x u) Q E s:=by
 obtain ⟨m,hn,hl⟩:=id I.loc
 have hcls:(X.env.scope.kind==.class||(X.env.scope.kind==.module&&X.env.locals != X.env.globals))=false:=by rw [I.ok.kind];rfl
 have hiσ:i<σ.length:=by rw [I.len];exact (List.getElem?_eq_some_iff.mp hi).1
 have cne:=I.cne
 have tracked:∀{a:Addr}{h':Heap},(∃o,s.heap.get? a=some o/\H a=none)->Heap.SameBut a s.heap h'->fF X.prog X.w H h':=fun {a h'} ha hs b ob e=>by
  obtain ⟨_,_,hfree⟩:=ha
  refine (I.hok b ob e).stay (fun c w' hc q=>(hs.2 c ?_).trans q) (fun _ q=>q) fun _ _ q=>q
  rintro rfl
  rcases hc with rfl|hc
  ·rw [hfree] at e;cases e
  ·rw [hfree] at hc;cases hc
 rcases hx with hk|hk
 ·refine wpAny_storeName_local hk hn (fun h' hn' hs=>?_) hcls
  obtain ⟨oL,_,_,hoL,_⟩:=id hn
  refine h _ ⟨I.ok,I.os,I.bare,⟨fun b o e n hb hx=>?_,fun b o e n hb hx=>?_,I.base.free,fun b o e hx=>?_,I.base.tups,I.base.frzs,I.base.tbls⟩,⟨_,hn',fun j y v' e1 e2 e3=>?_⟩,fun y c e=>?_,I.free,I.freeC,fun p hp=>?_,tracked ⟨oL,hoL,I.free⟩ hs,by simpa using I.len⟩ ⟨_,hs,.inl rfl⟩
  ·exact (hs.2 b (tqk (tqi (tqd e) I.ok.above))).trans (I.base.keep b o e n hb hx)
  ·obtain ⟨sl,e1⟩:=I.base.slot b o e n hb hx
   exact ⟨sl,(hs.2 b (tqk (tqi (tqd e) I.ok.above))).trans e1⟩
  ·obtain ⟨o',e1⟩:=I.base.there b o e hx
   exact ⟨o',(hs.2 b (tqk (tqi (tqd e) I.ok.above))).trans e1⟩
  ·by_cases hj:j=i
   ·subst hj
    rw [hi] at e1;cases e1
    rw [List.getElem?_set_self hiσ] at e2
    cases e2
    exact ⟨u,r,.inl ⟨hk,by simp⟩⟩
   ·rw [List.getElem?_set_ne (Ne.symm hj)] at e2
    obtain ⟨u',r',q⟩:=hl j y v' e1 e2 e3
    refine ⟨u',r',?_⟩
    rcases q with ⟨k,e⟩|⟨k,c,e,z⟩
    ·refine .inl ⟨k,?_⟩
     have:y≠x:=fun e=>hj (pK hN e1 (e ▸ hi))
     simp [this,e]
    ·exact .inr ⟨k,c,e,z.sameBut hs (cne y c e)⟩
  ·obtain ⟨w',z⟩:=I.cell y c e
   exact ⟨w',z.sameBut hs (cne y c e)⟩
  ·obtain ⟨e,n,ne,nf,d⟩:=I.pin p hp
   exact ⟨(hs.2 p.1 ne).trans e,n,ne,nf,d⟩
 ·have hfn:X.fn x=true:=by
   rcases hf with z|z
   ·exact z
   ·rw [z] at hk;cases hk
  obtain ⟨c,hc⟩:=I.ok.has x (.inl hk)
  obtain ⟨w',z⟩:=I.cell x c hc
  refine wpAny_storeName_cell I.ok.kind hk hc z (fun h' hc' hs=>?_)
  obtain ⟨oc,hoc,hocd⟩:=id z
  refine h {s with heap:=h'} ⟨I.ok,I.os,I.bare,⟨fun b o e n hb hx=>?_,fun b o e n hb hx=>?_,I.base.free,fun b o e hx=>?_,I.base.tups,I.base.frzs,I.base.tbls⟩,⟨m,hn.sameBut hs (Ne.symm (cne x c hc)),fun j y v' e1 e2 e3=>?_⟩,fun y c' e=>?_,I.free,I.freeC,fun p hp=>?_,tracked ⟨oc,hoc,I.freeC x c hc⟩ hs,by simpa using I.len⟩ ⟨c,hs,.inr hc⟩
  ·exact (hs.2 b (tqk (tqi (tqd e) (I.ok.cab x c hfn hc)))).trans (I.base.keep b o e n hb hx)
  ·obtain ⟨sl,e1⟩:=I.base.slot b o e n hb hx
   exact ⟨sl,(hs.2 b (tqk (tqi (tqd e) (I.ok.cab x c hfn hc)))).trans e1⟩
  ·obtain ⟨o',e1⟩:=I.base.there b o e hx
   exact ⟨o',(hs.2 b (tqk (tqi (tqd e) (I.ok.cab x c hfn hc)))).trans e1⟩
  ·by_cases hj:j=i
   ·subst hj
    rw [hi] at e1;cases e1
    rw [List.getElem?_set_self hiσ] at e2
    cases e2
    exact ⟨u,r,.inr ⟨.inl hk,c,hc,hc'⟩⟩
   ·rw [List.getElem?_set_ne (Ne.symm hj)] at e2
    obtain ⟨u',r',q⟩:=hl j y v' e1 e2 e3
    refine ⟨u',r',?_⟩
    rcases q with q|⟨k,c',e,z'⟩
    ·exact .inl q
    ·refine .inr ⟨k,c',e,z'.sameBut hs ?_⟩
     rintro rfl
     exact hj (pK hN e1 (I.ok.inj _ _ _ e hc ▸ hi))
  ·by_cases hcc:c'=c
   ·subst hcc;exact ⟨_,hc'⟩
   ·obtain ⟨w2,z2⟩:=I.cell y c' e
    exact ⟨w2,z2.sameBut hs hcc⟩
  ·obtain ⟨e,n,ne,nf,d⟩:=I.pin p hp
   refine ⟨(hs.2 p.1 ?_).trans e,n,ne,nf,d⟩
   intro q
   rw [q,hoc] at e
   have q':oc=p.2:=Option.some.inj e
   exact d w' (by rw [<- q'];exact hocd)
theorem uH {M:Model}{A:Around}{E:Value->Shared->Prop}{i:Nat}{x:Str}{v:V}{u:Value}{Q:Unit->Shared->Prop}(I:Inv X pins σ H s)(hN:X.N.Nodup)(hi:X.N[i]?=some x)(hx:Loc X.env.scope x)(r:RelV v u)
 (h:∀s',Inv X pins (σ.set i (some v)) H s'->Q () s') (hf:X.fn x=true\/X.env.scope.names.lookup x=some .local:=by first|exact .inl rfl|exact .inr rfl|assumption):wpAny M A (storeName X.env x u) Q E s:=
 sG I hN hi hx r (fun s' I' _=>h s' I') hf
theorem Inv.call' {s':Shared}{ch:List Addr}(I:Inv X pins σ H s)(ho:s'.os=s.os)(u:Un (g7 X.stack) ch H H' s.heap s'.heap)(hok:fF X.prog X.w H' s'.heap)(hg:AllBare s'.gens)
 (hch:∀b∈ch,(b∈X.ex\/X.s₀.heap.objs.size<=b)/\b≠X.env.locals/\(∀x c,X.env.cells.lookup x=some c->c≠b)/\∀p∈X.pn++pins,p.1≠b):Inv X pins σ H' s':=by
 obtain ⟨h',g',d',t',o'⟩:=s'
 have e:o'=s.os:=ho
 subst e
 exact I.call (g':=g') (t':=t') (d':=d') u hok hg hch
end
abbrev XK:=Value->Option Addr->Hp->Prop
abbrev St:=List (Option V)
abbrev VK:=V->Hp->Prop
abbrev TE:=St->Hp->VK->Prop
abbrev TT:=St->Hp->(Bool->Hp->Prop)->Prop
abbrev TA:=St->Hp->(List V->Hp->Prop)->Prop
structure Ends where
 nx:St->Hp->Prop
 rt:VK
 bk:St->Hp->Prop:=fun _ _=>False
 ct:St->Hp->Prop:=fun _ _=>False
abbrev TS:=Ends->St->Hp->Prop
def EP (X:Cx)(pins:List (Addr×Obj))(σ:St)(Q:VK)(u:Value)(s':Shared):Prop:=∃v H',Inv X pins σ H' s'/\RelV v u/\Q v H'
def TP (X:Cx)(pins:List (Addr×Obj))(σ:St)(Q:Bool->Hp->Prop)(b:Bool)(s':Shared):Prop:=∃H',Inv X pins σ H' s'/\Q b H'
def AP (X:Cx)(pins:List (Addr×Obj))(σ:St)(Q:List V->Hp->Prop)(us:List Value)(s':Shared):Prop:=∃vs H',Inv X pins σ H' s'/\Vals vs us/\Q vs H'
def SP (X:Cx)(pins:List (Addr×Obj))(D:Ends)(f:Flow)(s':Shared):Prop:=
 match f with
 |.next=>∃σ' H',Inv X pins σ' H' s'/\D.nx σ' H'
 |.brk=>∃σ' H',Inv X pins σ' H' s'/\D.bk σ' H'
 |.cont=>∃σ' H',Inv X pins σ' H' s'/\D.ct σ' H'
 |.ret u=>∃v σ' H',Inv X pins σ' H' s'/\RelV v u/\D.rt v H'
def PE (X:Cx)(e:Expr)(t:TE):Prop:=
 ∀(pins:List (Addr×Obj)) (s:Shared) (σ:St) (H:Hp) (Q:VK),Inv X pins σ H s->t σ H Q->wpAny (model X.prog X.w) X.A (eval e X.env) (EP X pins σ Q) X.xe s
def PT (X:Cx)(e:Expr)(t:TT):Prop:=
 ∀(pins:List (Addr×Obj)) (s:Shared) (σ:St) (H:Hp) (Q:Bool->Hp->Prop),Inv X pins σ H s->t σ H Q->wpAny (model X.prog X.w) X.A (isTrue e X.env (eval e X.env)) (TP X pins σ Q) X.xe s
def PW (X:Cx)(e:Expr)(t:TT):Prop:=
 ∀(whole:Sem Value) (pins:List (Addr×Obj)) (s:Shared) (σ:St) (H:Hp) (Q:Bool->Hp->Prop),Inv X pins σ H s->t σ H Q->wpAny (model X.prog X.w) X.A (isTrue e X.env whole) (TP X pins σ Q) X.xe s
theorem PW.pt {X:Cx}{e:Expr}{t:TT}(h:PW X e t):PT X e t:=h _
def PA (X:Cx)(es:List Expr)(t:TA):Prop:=
 ∀(pos:Pos) (pins:List (Addr×Obj)) (s:Shared) (σ:St) (H:Hp) (Q:List V->Hp->Prop),Inv X pins σ H s->t σ H Q->wpAny (model X.prog X.w) X.A (spliced (backTo pos (starEach es X.env))) (AP X pins σ Q) X.xe s
def PS (X:Cx)(st:Stmt)(t:TS):Prop:=
 ∀(pins:List (Addr×Obj)) (s:Shared) (σ:St) (H:Hp) (D:Ends),Inv X pins σ H s->t D σ H->wpAny (model X.prog X.w) X.A (exec st X.env) (SP X pins D) X.xe s
def oa (X:Cx)(st:List Stmt)(t:TS):Prop:=
 ∀(pins:List (Addr×Obj)) (s:Shared) (σ:St) (H:Hp) (D:Ends),Inv X pins σ H s->t D σ H->wpAny (model X.prog X.w) X.A (execs st X.env) (SP X pins D) X.xe s
theorem bz {α:Type}{t:Sem α}{Q Q':α->Shared->Prop}{M:Model}{A:Around}{E:Value->Shared->Prop}{s:Shared}(h:wpAny M A t Q E s)(hQ:∀a s,Q a s->Q' a s):wpAny M A t Q' E s:=wpAny_mono h hQ fun _ _ x=>x
end L2
namespace L2
open PySem PySem.Spec PyProof.Rows
section
variable {X:Cx}
theorem bin {a b:Expr}{ta tb:TE}(ha:PE X a ta)(hb:PE X b tb){pins:List (Addr×Obj)}{s:Shared}{σ:St}{H:Hp}{R:V->V->Hp->Prop}(I:Inv X pins σ H s)(h:ta σ H fun x H1=>tb σ H1 fun y H2=>R x y H2)
 {α:Type}{Q:α->Shared->Prop}{f:Value->Value->Sem α}
 (hf:∀v u s2 x y H2,Inv X pins σ H2 s2->RelV x v->RelV y u->R x y H2->wpAny (model X.prog X.w) X.A (f v u) Q X.xe s2) :
 wpAny (model X.prog X.w) X.A (eval a X.env) (fun v s₁=>wpAny (model X.prog X.w) X.A (eval b X.env) (fun u s₂=>wpAny (model X.prog X.w) X.A (f v u) Q X.xe s₂) X.xe s₁) X.xe s:=by
 refine bz (ha pins s σ H _ I h) fun v s1 ⟨x,H1,I1,r1,q1⟩=>?_
 refine bz (hb pins s1 σ H1 _ I1 q1) fun u s2 ⟨y,H2,I2,r2,q2⟩=>?_
 exact hf v u s2 x y H2 I2 r1 r2 q2
def Bw (i:Nat):TE:=fun σ H Q=>∃v,σ[i]?=some (some v)/\Q v H
def tC (v:V):TE:=fun _ H Q=>Q v H
theorem ql {i:Nat}{x:Str}{pos:Pos}(hN:X.N[i]?=some x)(hv:tK X.env.scope x)(hd:(x==("__debug__":Str))=false:=by decide)(hcd:(x==("__classdict__":Str))=false:=by decide):PE X (.Name x pos) (Bw i):=by
 intro pins s σ H Q I h
 obtain ⟨v,e,h⟩:=h
 obtain ⟨m,hn,hl⟩:=I.loc
 obtain ⟨u,r,l⟩:=hl i x v hN e hv
 have fin:EP X pins σ Q u s:=⟨v,H,I,r,h⟩
 rcases l with ⟨hk,hm⟩|⟨hk,c,hc,hcell⟩
 ·exact wpAny_Name (wpAny_loadName_local I.ok.kind hk hn hm fin) hd
 ·rcases hk with hk|hk
  ·exact wpAny_Name (wpAny_loadName_cell I.ok.kind hk hc hcell fin) hd
  ·exact wpAny_Name (wpAny_loadName_free I.ok.kind hk hc hcell fin hcd) hd
theorem Aa {i j pos}:PE X (.Constant (.int i) j pos) (tC (.int i)):=fun _ _ _ H _ I h=>wpAny_Constant_int ⟨.int i,H,I.tok _,⟨_,rfl⟩,h⟩
theorem xU {b j pos}:PE X (.Constant (.bool b) j pos) (tC (.bl b)):=fun _ _ _ H _ I h=>Constant_bool ⟨.bl b,H,I,rfl,h⟩
theorem GI {j pos}:PE X (.Constant .none j pos) (tC .non):=fun _ _ _ H _ I h=>Constant_none ⟨.non,H,I,rfl,h⟩
theorem GD {x j pos}:PE X (.Constant (.str x) j pos) (tC (.str x)):=fun _ _ _ H _ I h=>Calls.Constant_str ⟨.str x,H,I.tok _,⟨_,rfl⟩,h⟩
def Gl (X:Cx)(x:Str):Prop:=X.env.kindOf x=some .globalImplicit
theorem jC {E:Value->Shared->Prop}{pins:List (Addr×Obj)}{s:Shared}{σ:St}{H:Hp}{x:Str}{u:Value}{pos:Pos}{Q:Value->Shared->Prop}(I:Inv X pins σ H s)(hg:Gl X x)(hm:X.mg x=some u)(h:Q u s)
 (hd:(x==("__debug__":Str))=false:=by decide):wpAny (model X.prog X.w) X.A (eval (.Name x pos) X.env) Q E s:=
 Calls.Name_function_global I.ok.kind hg (Calls.loadGlobal_global (by rw [I.ok.glob];exact I.mod.glob.keeps I.bk) hm h) hd
theorem jP {E:Value->Shared->Prop}{pins:List (Addr×Obj)}{s:Shared}{σ:St}{H:Hp}{x:Str}{u:Value}{pos:Pos}{Q:Value->Shared->Prop}(I:Inv X pins σ H s)(hg:Gl X x)(hm:X.mg x=none)(hv:bootBuiltins x=some u)(h:Q u s)
 (hn:x≠"__name__":=by decide) (hd:(x==("__debug__":Str))=false:=by decide):wpAny (model X.prog X.w) X.A (eval (.Name x pos) X.env) Q E s:=by
 obtain ⟨mb,h1,h2⟩:=I.mod.blt
 exact Calls.Name_function_global I.ok.kind hg (Calls.loadGlobal_builtin (by rw [I.ok.glob];exact I.mod.glob.keeps I.bk) hm (by rw [I.ok.blt];exact h1.keeps I.bk) ((h2 x hn).trans hv) h) hd
theorem ot {x:Str}{v:V}{u:Value}{pos:Pos}(hg:Gl X x)(hm:X.mg x=some u)(r:RelV v u)(hd:(x==("__debug__":Str))=false:=by decide):PE X (.Name x pos) (tC v):=
 fun _ _ _ H _ I h=>jC I hg hm ⟨v,H,I,r,h⟩ hd
theorem w8 {x:Str}{v:V}{u:Value}{pos:Pos}(hg:Gl X x)(hm:X.mg x=none)(hv:bootBuiltins x=some u)(r:RelV v u)(hn:x≠"__name__":=by decide)(hd:(x==("__debug__":Str))=false:=by decide):PE X (.Name x pos) (tC v):=
 fun _ _ _ H _ I h=>jP I hg hm hv ⟨v,H,I,r,h⟩ hn hd
variable {a b:Expr}{ta tb:TE}{pos:Pos}
variable {tA tB':TT}{rest:List Expr}
def gP (t u:TT):TT:=fun σ H Q=>t σ H fun c H1=>if c=true then u σ H1 Q else Q false H1
def fi (t u:TT):TT:=fun σ H Q=>t σ H fun c H1=>if c=true then Q true H1 else u σ H1 Q
def cn (t:TT):TT:=fun σ H Q=>t σ H fun c H1=>Q (!c) H1
theorem Ef (ha:PT X a tA):PW X (.BoolOp .And [a] pos) tA:=by
 intro wh pins s σ H Q I h
 refine isTrue_and (bz (ha pins s σ H Q I h) fun c s1 e=>?_)
 cases c with
 |true=>exact isTrue_and_nil e
 |false=>exact e
theorem Gq (ha:PT X a tA):PW X (.BoolOp .Or [a] pos) tA:=by
 intro wh pins s σ H Q I h
 refine isTrue_or (bz (ha pins s σ H Q I h) fun c s1 e=>?_)
 cases c with
 |false=>exact isTrue_or_nil e
 |true=>exact e
theorem Gr (ha:PT X a tA)(hb:PW X (.BoolOp .And (b::rest) pos) tB'):PW X (.BoolOp .And (a::b::rest) pos) (gP tA tB'):=by
 intro wh pins s σ H Q I h
 refine isTrue_and (bz (ha pins s σ H _ I h) fun c s1 ⟨H1,I1,q1⟩=>?_)
 cases c with
 |true=>exact hb wh pins s1 σ H1 Q I1 q1
 |false=>exact ⟨H1,I1,q1⟩
theorem Jv (ha:PT X a tA)(hb:PW X (.BoolOp .Or (b::rest) pos) tB'):PW X (.BoolOp .Or (a::b::rest) pos) (fi tA tB'):=by
 intro wh pins s σ H Q I h
 refine isTrue_or (bz (ha pins s σ H _ I h) fun c s1 ⟨H1,I1,q1⟩=>?_)
 cases c with
 |true=>exact ⟨H1,I1,q1⟩
 |false=>exact hb wh pins s1 σ H1 Q I1 q1
theorem Gs (ha:PT X a tA):PT X (.UnaryOp .Not a pos) (cn tA):=by
 intro pins s σ H Q I h
 exact isTrue_not (ha pins s σ H (fun c H1=>Q (!c) H1) I h)
def Jk (ta tb:TE):TE:=fun σ H Q=>ta σ H fun x H1=>∃c,x=.bl c/\if c=true then tb σ H1 Q else Q (.bl false) H1
def Lg (ta tb:TE):TE:=fun σ H Q=>ta σ H fun x H1=>∃c,x=.bl c/\if c=true then Q (.bl true) H1 else tb σ H1 Q
def Jh (ta:TE):TE:=fun σ H Q=>ta σ H fun x H1=>∃c,x=.bl c/\Q (.bl (!c)) H1
theorem GG {op}{t:TE}(h:PE X a t):PE X (.BoolOp op [a] pos) t:=fun pins s σ H Q I hw=>BoolOp_one (h pins s σ H Q I hw)
theorem GL (ha:PE X a ta)(hb:PE X (.BoolOp .And (b::rest) pos) tb):PE X (.BoolOp .And (a::b::rest) pos) (Jk ta tb):=by
 intro pins s σ H Q I h
 refine BoolOp_and (bz (ha pins s σ H _ I h) fun v s1 ⟨x,H1,I1,r1,q1⟩=>?_)
 obtain ⟨c,rfl,q1⟩:=q1
 cases r1
 refine tqp ?_
 cases c with
 |true=>exact hb pins s1 σ H1 Q I1 q1
 |false=>exact ⟨.bl false,H1,I1,rfl,q1⟩
theorem Jx (ha:PE X a ta)(hb:PE X (.BoolOp .Or (b::rest) pos) tb):PE X (.BoolOp .Or (a::b::rest) pos) (Lg ta tb):=by
 intro pins s σ H Q I h
 refine BoolOp_or (bz (ha pins s σ H _ I h) fun v s1 ⟨x,H1,I1,r1,q1⟩=>?_)
 obtain ⟨c,rfl,q1⟩:=q1
 cases r1
 refine tqp ?_
 cases c with
 |false=>exact hb pins s1 σ H1 Q I1 q1
 |true=>exact ⟨.bl true,H1,I1,rfl,q1⟩
theorem GH (ha:PE X a ta):PE X (.UnaryOp .Not a pos) (Jh ta):=by
 intro pins s σ H Q I h
 refine UnaryOp_ (bz (ha pins s σ H _ I h) fun v s1 ⟨x,H1,I1,r1,q1⟩=>?_)
 obtain ⟨c,rfl,q1⟩:=q1
 cases r1
 exact not_of (tqp ⟨.bl (!c),H1,I1,rfl,q1⟩)
def tIf (t:TT)(ta tb:TE):TE:=fun σ H Q=>t σ H fun c H1=>if c=true then ta σ H1 Q else tb σ H1 Q
theorem u6 {c:Expr}(hc:PT X c tA)(ha:PE X a ta)(hb:PE X b tb):PE X (.IfExp c a b pos) (tIf tA ta tb):=by
 intro pins s σ H Q I h
 refine wpAny_IfExp (bz (hc pins s σ H _ I h) fun d s1 ⟨H1,I1,q1⟩=>?_)
 cases d with
 |true=>exact ha pins s1 σ H1 Q I1 q1
 |false=>exact hb pins s1 σ H1 Q I1 q1
end
end L2
namespace L2
open PySem PySem.Spec PyProof.Rows
def dA (K:PySem.W.Frag)(H:Hp)(a:Addr)(xs:List V):Prop:=
 Rd H a (.lst xs)\/
  ∃(o:Obj) (its:Array Value) (n:Nat),K.lookup a=some o/\o.cls=.type "list"/\o.dict=none/\o.data=.seq its n/\its.size<=sizeLine/\Vals xs its.toList
def eD (K:PySem.W.Frag)(H:Hp)(a:Addr)(xs:List V):Prop:=
 Rd H a (.tup xs)\/
  ∃(o:Obj) (its:Array Value) (n:Nat),K.lookup a=some o/\o.cls=.type "tuple"/\o.data=.seq its n/\its.size<=sizeLine/\Vals xs its.toList
def MW:Value->Option V
 |.none=>some .non
 |.bool b=>some (.bl b)
 |.int i _=>some (.int i)
 |.str x _=>some (.str x)
 |.bytes b _=>some (.byt b)
 |.float b _=>some (.flt b)
 |.ref a=>some (.ref a)
 |.type n=>some (.ty n)
 |_=>none
theorem RelV.abs {x:V}{u:Value}(r:RelV x u):MW u=some x:=by
 cases x with
 |non=>cases r;rfl
 |bl _=>cases r;rfl
 |int _=>obtain ⟨t,rfl⟩:=r;rfl
 |str _=>obtain ⟨t,rfl⟩:=r;rfl
 |byt _=>obtain ⟨t,rfl⟩:=r;rfl
 |flt _=>obtain ⟨t,rfl⟩:=r;rfl
 |ref _=>cases r;rfl
 |ty _=>cases r;rfl
theorem RelV.inj {x y:V}{u:Value}(r:RelV x u)(q:RelV y u):x=y:=Option.some.inj (r.abs.symm.trans q.abs)
theorem Vals.inj:∀{xs ys:List V}{us:List Value},Vals xs us->Vals ys us->xs=ys
 |_,_,_,.nil,.nil=>rfl
 |_,_,_,.cons r t,.cons r' t'=>by rw [r.inj r',Vals.inj t t']
section
variable {X:Cx}{pins:List (Addr×Obj)}{σ:St}{H:Hp}{s:Shared}{a:Addr}{xs ys:List V}
theorem dA.of {K:PySem.W.Frag}(h:H a=some (.lst xs)):dA K H a xs:=.inl (.inl h)
theorem eD.of {K:PySem.W.Frag}(h:H a=some (.tup xs)):eD K H a xs:=.inl (.inl h)
theorem Inv.list (I:Inv X pins σ H s)(h:dA X.K H a xs):∃its:List Value,Vals xs its/\PlainL s.heap a its.toArray/\xs.length<=sizeLine:=by
 rcases h with h|⟨o,its,n,hk,hc,hd,hs,hz,r⟩
 ·obtain ⟨z,its,n,r,e⟩:=h.ok I.hok
  exact ⟨its,r,⟨_,n,e,rfl,rfl,rfl⟩,z⟩
 ·refine ⟨its.toList,r,⟨o,n,I.kIn a o hk,hc,hd,by simpa using hs⟩,?_⟩
  have e:=r.length
  simp only [Array.length_toList] at e
  omega
theorem Inv.tuple (I:Inv X pins σ H s)(h:eD X.K H a xs):∃its:List Value,Vals xs its/\IsTup s.heap a its.toArray/\xs.length<=sizeLine:=by
 rcases h with h|⟨o,its,n,hk,hc,hs,hz,r⟩
 ·obtain ⟨z,its,r,p⟩:=h.ok I.hok
  exact ⟨its,r,p,z⟩
 ·refine ⟨its.toList,r,⟨o,I.kIn a o hk,hc,n,by simpa using hs⟩,?_⟩
  have e:=r.length
  simp only [Array.length_toList] at e
  omega
theorem Inv.list_inj (I:Inv X pins σ H s)(h:dA X.K H a xs)(h':dA X.K H a ys):xs=ys:=by
 obtain ⟨its,r,⟨o,n,e,_,_,d⟩,_⟩:=I.list h
 obtain ⟨its',r',⟨o',n',e',_,_,d'⟩,_⟩:=I.list h'
 rw [e] at e';cases e'
 rw [d] at d'
 injection d' with d1 _
 have:its=its':=by simpa using congrArg Array.toList d1
 subst this
 exact r.inj r'
theorem Inv.tuple_inj (I:Inv X pins σ H s)(h:eD X.K H a xs)(h':eD X.K H a ys):xs=ys:=by
 obtain ⟨its,r,⟨o,e,_,n,d⟩,_⟩:=I.tuple h
 obtain ⟨its',r',⟨o',e',_,n',d'⟩,_⟩:=I.tuple h'
 rw [e] at e';cases e'
 rw [d] at d'
 injection d' with d1 _
 have:its=its':=by simpa using congrArg Array.toList d1
 subst this
 exact r.inj r'
end
section
variable {X:Cx}{st:Stmt}{rest:List Stmt}{t u:TS}{e:Expr}{te:TE}{pos:Pos}
def C6:TS:=fun D σ H=>D.nx σ H
def Le (t u:TS):TS:=fun D σ H=>t {D with nx:=u D} σ H
theorem wY:oa X [] C6:=fun _ _ σ H _ I h=>wpAny_execs_nil ⟨σ,H,I,h⟩
theorem pG (h1:PS X st t)(h2:oa X rest u):oa X (st::rest) (Le t u):=by
 intro pins s σ H D I h
 refine wpAny_execs_cons (bz (h1 pins s σ H {D with nx:=u D} I h) fun f s1 q=>?_)
 cases f with
 | next =>
   obtain ⟨σ',H',I',q⟩:=q
   exact h2 pins s1 σ' H' D I' q
 |ret v=>exact q
 |brk=>exact q
 |cont=>exact q
theorem Ei:PS X (.Pass pos) C6:=fun _ _ σ H _ I h=>wpAny_Pass ⟨σ,H,I,h⟩
theorem Inv.quiet {pins:List (Addr×Obj)}{σ:St}{H:Hp}{s:Shared}(I:Inv X pins σ H s):interactive X.env=false:=by simp [interactive,I.ok.kind]
def Ji (te:TE):TS:=fun D σ H=>te σ H fun _ H1=>D.nx σ H1
theorem rB (he:PE X e te)(hs:swapsWith e none pos.line X.env=pure false:=by rfl):PS X (.Expr e pos) (Ji te):=by
 intro pins s σ H D I h
 exact wpAny_Expr_any (bz (he pins s σ H _ I h) fun v s1 ⟨x,H1,I1,r1,q1⟩=>⟨σ,H1,I1,q1⟩) I.quiet hs
def Lf (te:TE):TS:=fun D σ H=>te σ H D.rt
theorem Gu (he:PE X e te):PS X (.Return (some e) pos) (Lf te):=by
 intro pins s σ H D I h
 exact wpAny_Return_some (bz (he pins s σ H _ I h) fun v s1 ⟨x,H1,I1,r1,q1⟩=>⟨x,σ,H1,I1,r1,q1⟩)
def Lk (c:TT)(t u:TS):TS:=fun D σ H=>c σ H fun b H1=>if b=true then t D σ H1 else u D σ H1
theorem Jw {c:Expr}{a b:List Stmt}{tc:TT}(hc:PT X c tc)(ha:oa X a t)(hb:oa X b u):PS X (.If c a b pos) (Lk tc t u):=by
 intro pins s σ H D I h
 refine wpAny_If (bz (hc pins s σ H _ I h) fun d s1 ⟨H1,I1,q1⟩=>?_)
 cases d with
 |true=>exact ha pins s1 σ H1 D I1 q1
 |false=>exact hb pins s1 σ H1 D I1 q1
end
abbrev TG:=V->St->Hp->(St->Hp->Prop)->Prop
abbrev rf:=List V->St->Hp->(St->Hp->Prop)->Prop
def PG (X:Cx)(target:Expr)(t:TG):Prop:=
 ∀(pins:List (Addr×Obj)) (s:Shared) (σ:St) (H:Hp) (v:V) (u:Value) (Q:St->Hp->Prop),Inv X pins σ H s->RelV v u->t v σ H Q->
  wpAny (model X.prog X.w) X.A (assign target X.env u) (fun _ s'=>∃σ' H',Inv X pins σ' H' s'/\Q σ' H') X.xe s
def vX (X:Cx)(ts:List Expr)(t:rf):Prop:=
 ∀(pins:List (Addr×Obj)) (s:Shared) (σ:St) (H:Hp) (vs:List V) (us:List Value) (Q:St->Hp->Prop),Inv X pins σ H s->Vals vs us->t vs σ H Q->
  wpAny (model X.prog X.w) X.A (assignInOrder ((assignEach ts X.env).map (·.2)) us) (fun _ s'=>∃σ' H',Inv X pins σ' H' s'/\Q σ' H') X.xe s
abbrev CU:=V->V->V->Hp->(Hp->Prop)->Prop
def IU (X:Cx)(t:CU):Prop:=
 ∀(pins:List (Addr×Obj)) (s:Shared) (σ:St) (H:Hp) (o i v:V) (ov iv u:Value) (Q:Hp->Prop),Inv X pins σ H s->RelV o ov->RelV i iv->RelV v u->t o i v H Q->
  wpAny (model X.prog X.w) X.A (setItem ov iv u) (fun _ s'=>∃H',Inv X pins σ H' s'/\Q H') X.xe s
section
variable {X:Cx}{pos:Pos}
def JT (i:Nat):TG:=fun v σ H Q=>Q (σ.set i (some v)) H
theorem w6 {i:Nat}{x:Str}(hN:X.N.Nodup)(hi:X.N[i]?=some x)(hx:Loc X.env.scope x)(hf:X.fn x=true\/X.env.scope.names.lookup x=some .local:=by first|exact .inl rfl|exact .inr rfl|assumption):PG X (.Name x pos) (JT i):=by
 intro pins s σ H v u Q I r h
 exact wpAny_assign_Name (uH I hN hi hx r (fun s' I'=>⟨_,H,I',h⟩) hf)
def av:rf:=fun vs σ H Q=>vs=[]/\Q σ H
def ag (t:TG)(u:rf):rf:=fun vs σ H Q=>∃v r,vs=v::r/\t v σ H fun σ' H'=>u r σ' H' Q
theorem En:vX X [] av:=by
 intro pins s σ H vs us Q I r h
 obtain ⟨e,h⟩:=h
 subst e
 cases r
 exact assignInOrder_nil ⟨σ,H,I,h⟩
theorem BY {e:Expr}{es:List Expr}{t:TG}{u:rf}(h1:PG X e t)(h2:vX X es u)
 (hs:(assignEach (e::es) X.env).map (·.2)=assign e X.env::(assignEach es X.env).map (·.2):=by rfl):vX X (e::es) (ag t u):=by
 intro pins s σ H vs us Q I r h
 obtain ⟨v,vr,e1,h⟩:=h
 subst e1
 cases r with
 | cons r rr =>
   rw [hs]
   refine assignInOrder_cons (bz (h1 pins s σ H _ _ _ I r h) fun _ s1 ⟨σ1,H1,I1,q1⟩=>?_)
   exact h2 pins s1 σ1 H1 _ _ Q I1 rr q1
def bZ (K:PySem.W.Frag)(n:Nat)(t:rf):TG:=fun v σ H Q=>∃a xs,v=.ref a/\eD K H a xs/\xs.length=n/\t xs σ H Q
theorem Gy {es:List Expr}{k:Nat}{t:rf}{n:Nat}(hc:X.calm=true)(h:vX X es t)
 (hn:(assignEach es X.env).length=n:=by rfl) (hst:(assignEach es X.env).findIdx? (·.1)=none:=by rfl):PG X (.Tuple es k pos) (bZ X.K n t):=by
 intro pins s σ H v u Q I r hw
 obtain ⟨a,xs,e1,hq,hl,hw⟩:=hw
 subst e1
 cases r
 obtain ⟨its,rv,ht,hz⟩:=I.tuple hq
 refine assign_Tuple_tuple (I.ok.hd hc) ht (by simp [hn,<- hl,rv.length]) hst fun h' hx=>?_
 have I1:Inv X pins σ H {s with heap:=h'}:=I.kept (t':=s.toks) fun b o e=>hx b o (tqk (tqd e)) e
 exact h pins _ σ H xs _ Q I1 (by simpa using rv) hw
def ME (to ti:TE)(t:CU):TG:=fun v σ H Q=>to σ H fun o H1=>ti σ H1 fun i H2=>t o i v H2 fun H3=>Q σ H3
theorem Gz {o i:Expr}{to ti:TE}{t:CU}(ho:PE X o to)(hi:PE X i ti)(hs:IU X t)
 (ha:∀v,assign (.Subscript o i pos) X.env v=(do
  let ov <- holding [v] (eval o X.env)
  let iv <- holding [v,ov] (eval i X.env)
  standAt pos
  holding [v,ov,iv] (setItem ov iv v)
  release [v,ov,iv] []):=by intro _;rfl):PG X (.Subscript o i pos) (ME to ti t):=by
 intro pins s σ H v u Q I r h
 rw [ha]
 refine tqa (tqo (bz (ho pins s σ H _ I h) fun ov s1 ⟨x,H1,I1,r1,q1⟩=>?_))
 refine tqa (tqo (bz (hi pins s1 σ H1 _ I1 q1) fun iv s2 ⟨y,H2,I2,r2,q2⟩=>?_))
 refine tqa (wpAny_standAt (tqa (tqo (bz (hs pins s2 σ H2 x y v ov iv u _ I2 r1 r2 r q2) fun _ s3 ⟨H3,I3,q3⟩=>?_))))
 exact wpAny_release ⟨σ,H3,I3,q3⟩
def Lm (te:TE)(g:TG):TS:=fun D σ H=>te σ H fun x H1=>g x σ H1 D.nx
theorem u3 {tg e:Expr}{te:TE}{g:TG}(he:PE X e te)(hg:PG X tg g)(hs:swapsWithSole [tg] e pos.line X.env=pure false:=by rfl)(hw:swappedStores [tg] e X.env=pure none:=by rfl)
 (h1:(assignEach [tg] X.env).map (·.2)=[assign tg X.env]:=by rfl):PS X (.Assign [tg] e pos) (Lm te g):=by
 intro pins s σ H D I h
 refine wpAny_Assign_stores (bz (he pins s σ H _ I h) fun v s1 ⟨x,H1,I1,r1,q1⟩=>?_) hs hw
 rw [h1]
 exact bz (hg pins s1 σ H1 x v _ I1 r1 q1) fun _ s2 q=>q
end
structure It where
 go:Nat->Hp->Prop
 yld:Nat->Hp->V->Hp->Prop
 stop:Nat->Hp->Prop
def iy (X:Cx)(pins:List (Addr×Obj))(H:Hp)(b:Addr):Prop:=
 H b=none/\b≠X.env.locals/\b∉X.fs/\(b∈X.ex\/X.s₀.heap.objs.size<=b)/\(∀x c,X.env.cells.lookup x=some c->c≠b)/\∀p∈X.pn++pins,p.1≠b
theorem Inv.fpOk {X:Cx}{pins:List (Addr×Obj)}{σ:St}{H H':Hp}{s:Shared}{b:Addr}(I:Inv X pins σ H s)(hb:s.heap.objs.size<=b)(hn:H' b=none):iy X pins H' b:=by
 refine ⟨hn,Nat.ne_of_gt (tqi I.lt hb),I.nofs hb,.inr (tqh I.sz hb),fun x c e z=>?_,fun p hp z=>?_⟩
 ·obtain ⟨v,q⟩:=I.cell x c e
  exact absurd (tqi q.lt (by rw [z];exact hb)) (tqn _)
 ·exact absurd (tqi (tqd (I.pin p hp).1) (by rw [z];exact hb)) (tqn _)
structure Turn (P:Program) (w:World) (K:PySem.W.Frag) (tg:Expr) (J:It) (fp:List Addr) (it:Addr) (tn:Nat->Heap->Prop):Prop where
 mem:it∈fp
 obj:∀i h,tn i h->∀b∈fp,∃o,h.get? b=some o/\∀v,o.data≠.cell v
 keep:∀i h h',tn i h->(∀b∈fp,∀o,h.get? b=some o->h'.get? b=some o)->tn i h'
 item:∀(X:Cx),X.prog=P->X.w=w->X.K=K->X.calm=true->∀(i:Nat) (pins:List (Addr×Obj)) (s:Shared) (σ:St) (H:Hp) (E:Value->Shared->Prop),Inv X pins σ H s->(∀b∈fp,iy X pins H b)->tn i s.heap->J.go i H->
  wpAny (model P w) X.A (pyNext (.ref it)) (fun r s1=>∃u,r=some u/\
   wpAny (model P w) X.A (letOwnedTupleGo tg (.ref it) u) (fun _ s2=>∃x H',Inv X pins σ H' s2/\RelV x u/\J.yld i H x H'/\tn (i+1) s2.heap/\∀b∈fp,H' b=none) E s1) E s
 done:∀(X:Cx),X.prog=P->X.w=w->X.K=K->X.calm=true->∀(i:Nat) (pins:List (Addr×Obj)) (s:Shared) (σ:St) (H:Hp) (E:Value->Shared->Prop),Inv X pins σ H s->(∀b∈fp,iy X pins H b)->tn i s.heap->J.stop i H->
  wpAny (model P w) X.A (pyNext (.ref it)) (fun r s1=>r=none/\Inv X pins σ H s1) E s
 self:∀(A:Around) (i:Nat) (s:Shared) (Q:Value->Shared->Prop) (E:Value->Shared->Prop),tn i s.heap->Q (.ref it) s->wpAny (model P w) A (pyIter (.ref it)) Q E s
abbrev TI:=St->Hp->(It->Hp->Prop)->Prop
def Dz (X:Cx)(pins:List (Addr×Obj))(σ:St)(tg:Expr)(R:It->Hp->Prop)(itv:Value)(s2:Shared):Prop:=
 ∃(it:Addr) (fp:List Addr) (tn:Nat->Heap->Prop) (J:It) (H':Hp),itv=.ref it/\Inv X pins σ H' s2/\Turn X.prog X.w X.K tg J fp it tn/\tn 0 s2.heap/\(∀b∈fp,iy X pins H' b)/\R J H'
def PI (X:Cx)(tg iter:Expr)(wi:TI):Prop:=
 ∀(pins:List (Addr×Obj)) (s:Shared) (σ:St) (H:Hp) (R:It->Hp->Prop),Inv X pins σ H s->wi σ H R->
  wpAny (model X.prog X.w) X.A (eval iter X.env) (fun v s1=>wpAny (model X.prog X.w) X.A (pyIter v) (Dz X pins σ tg R) X.xe s1) X.xe s
theorem ug {M:Model}{A:Around}{E:Value->Shared->Prop}{s:Shared}{tg:Expr}{it:Addr}{u:Value}{o:Obj}{n:String}{vs:Array Value}{Q:Unit->Shared->Prop}(ho:s.heap.get? it=some o)(hc:o.cls=.type n)(hd:o.data=.fields vs)
 (hn:["enumerate","zip","dict_itemiterator","dict_reverseitemiterator","odict_iterator","itertools.zip_longest","itertools.pairwise"].contains n=false) (hQ:Q () s):wpAny M A (letOwnedTupleGo tg (.ref it) u) Q E s:=by
 unfold letOwnedTupleGo
 cases tg<;>first
  |exact tqb hQ
  |(cases u<;>first
   |exact tqb hQ
   | (refine tqa (wpAny_load ho ?_)
      rw [hc,hd]
      show wpAny M A (if (["enumerate","zip","dict_itemiterator","dict_reverseitemiterator","odict_iterator","itertools.zip_longest","itertools.pairwise"].contains n&&vs[0]?==some (rawInt _))=true then _ else _) Q E s
      rw [if_neg (by intro h;rw [hn,Bool.false_and] at h;cases h)]
      exact tqb hQ))
def IZ (K:PySem.W.Frag)(a:Addr):It:=
 ⟨fun i H=>∃xs x,dA K H a xs/\xs[i]?=some x,fun i H x H'=>H'=H/\∀xs,dA K H a xs->xs[i]?=some x,fun i H=>∃xs,dA K H a xs/\xs.length<=i⟩
def IX (K:PySem.W.Frag)(a:Addr):It:=
 ⟨fun i H=>∃xs x,eD K H a xs/\xs[i]?=some x,fun i H x H'=>H'=H/\∀xs,eD K H a xs->xs[i]?=some x,fun i H=>∃xs,eD K H a xs/\xs.length<=i⟩
def DD (lo:Int)(n:Nat):It:=⟨fun i _=>i<n,fun i H x H'=>H'=H/\x=.int (lo+i),fun i _=>n<=i⟩
theorem zm {P:Program}{w:World}{K:PySem.W.Frag}{tg:Expr}(a it:Addr):Turn P w K tg (IZ K a) [it] it (fun i h=>h.IsListIter it a i) where
 mem:=by simp
 obj:=fun i h st b hb=>by
  have e:b=it:=by simpa using hb
  subst e
  obtain ⟨o,e,c,d⟩:=st
  exact ⟨o,e,fun v z=>by rw [d] at z;cases z⟩
 keep:=fun i h h' st k=>st.at fun o e=>k it (by simp) o e
 item:=by
  intro X hP hw hK hc i pins s σ H E I hf st hg
  subst hP hw hK
  obtain ⟨xs,x,hq,hx⟩:=hg
  obtain ⟨its,rv,p,hz⟩:=I.list hq
  obtain ⟨u,hu,ru⟩:=rv.get hx
  obtain ⟨f0,f1,f2,f3,f4,f5⟩:=hf it (by simp)
  refine wpAny_pyNext_list_item st p.isList (x:=u) (by simpa using hu) fun h' st' sb=>?_
  have I1:Inv X pins σ H {s with heap:=h'}:=I.turned (t':=s.toks) (fun b o hb e=>(sb.2 b hb).trans e) f0 f1 f3 f4 f5
  obtain ⟨o,e,c,d⟩:=id st'
  exact ⟨u,rfl,ug (s:={s with heap:=h'}) e c d (by decide) ⟨x,H,I1,ru,⟨rfl,fun ys hy=>by rw [I.list_inj hy hq];exact hx⟩,st',fun b hb=>(hf b hb).1⟩⟩
 done:=by
  intro X hP hw hK hc i pins s σ H E I hf st hg
  subst hP hw hK
  obtain ⟨xs,hq,hx⟩:=hg
  obtain ⟨its,rv,p,hz⟩:=I.list hq
  obtain ⟨f0,f1,f2,f3,f4,f5⟩:=hf it (by simp)
  have hl:=rv.length
  exact wpAny_pyNext_list_end (I.ok.hd hc) st p.isList (by simp;omega) fun h' eb=>⟨rfl,I.turned (t':=s.toks) (fun b o hb e=>eb b o hb e) f0 f1 f3 f4 f5⟩
 self:=fun _ _ _ _ _ st h=>wpAny_pyIter_listiter st h
theorem xF {P:Program}{w:World}{K:PySem.W.Frag}{tg:Expr}(a it:Addr):Turn P w K tg (IX K a) [it] it (fun i h=>h.IsTupleIter it a i) where
 mem:=by simp
 obj:=fun i h st b hb=>by
  have e:b=it:=by simpa using hb
  subst e
  obtain ⟨o,e,c,d⟩:=st
  exact ⟨o,e,fun v z=>by rw [d] at z;cases z⟩
 keep:=fun i h h' st k=>st.at fun o e=>k it (by simp) o e
 item:=by
  intro X hP hw hK hc i pins s σ H E I hf st hg
  subst hP hw hK
  obtain ⟨xs,x,hq,hx⟩:=hg
  obtain ⟨its,rv,p,hz⟩:=I.tuple hq
  obtain ⟨u,hu,ru⟩:=rv.get hx
  obtain ⟨f0,f1,f2,f3,f4,f5⟩:=hf it (by simp)
  refine wpAny_pyNext_tuple_item st (show s.heap.IsTuple a its.toArray from p) (x:=u) (by simpa using hu) fun h' st' sb=>?_
  have I1:Inv X pins σ H {s with heap:=h'}:=I.turned (t':=s.toks) (fun b o hb e=>(sb.2 b hb).trans e) f0 f1 f3 f4 f5
  obtain ⟨o,e,c,d⟩:=id st'
  exact ⟨u,rfl,ug (s:={s with heap:=h'}) e c d (by decide) ⟨x,H,I1,ru,⟨rfl,fun ys hy=>by rw [I.tuple_inj hy hq];exact hx⟩,st',fun b hb=>(hf b hb).1⟩⟩
 done:=by
  intro X hP hw hK hc i pins s σ H E I hf st hg
  subst hP hw hK
  obtain ⟨xs,hq,hx⟩:=hg
  obtain ⟨its,rv,p,hz⟩:=I.tuple hq
  obtain ⟨f0,f1,f2,f3,f4,f5⟩:=hf it (by simp)
  have hl:=rv.length
  exact wpAny_pyNext_tuple_end (I.ok.hd hc) st (show s.heap.IsTuple a its.toArray from p) (by simp;omega) fun h' eb=>⟨rfl,I.turned (t':=s.toks) (fun b o hb e=>eb b o hb e) f0 f1 f3 f4 f5⟩
 self:=fun _ _ _ _ _ st h=>wpAny_pyIter_tupleiter st h
theorem xG {P:Program}{w:World}{K:PySem.W.Frag}{tg:Expr}(it:Addr)(lo:Int)(n:Nat):Turn P w K tg (DD lo n) [it] it (fun i h=>IsRangeIter h it (lo+(i:Nat)*1) ((n:Int)-(i:Nat)) 1) where
 mem:=by simp
 obj:=fun i h st b hb=>by
  have e:b=it:=by simpa using hb
  subst e
  exact ⟨_,st,fun v z=>by
   have z':Data.fields _=Data.cell v:=z
   cases z'⟩
 keep:=fun i h h' st k=>k it (by simp) _ st
 item:=by
  intro X hP hw hK hc i pins s σ H E I hf st hg
  subst hP hw hK
  obtain ⟨f0,f1,f2,f3,f4,f5⟩:=hf it (by simp)
  have W:=Walks.range (prog:=X.prog) (w:=X.w) (I.ok.hd hc) it lo 1 n
  refine W.item i s _ _ hg st fun v h' tk hv st' kk=>?_
  obtain ⟨t,rfl⟩:=hv
  have I1:Inv X pins σ H {s with heap:=h',toks:=tk}:=I.turned (fun b o hb e=>kk b o (by simpa using hb) e) f0 f1 f3 f4 f5
  refine ⟨_,rfl,ug (s:={s with heap:=h',toks:=tk}) (n:="range_iterator") st' rfl rfl (by decide) ⟨.int (lo+i),H,I1,⟨t,?_⟩,⟨rfl,rfl⟩,st',fun b hb=>(hf b hb).1⟩⟩
  rw [Int.mul_one]
 done:=by
  intro X hP hw hK hc i pins s σ H E I hf st hg
  subst hP hw hK
  obtain ⟨f0,f1,f2,f3,f4,f5⟩:=hf it (by simp)
  exact wpAny_pyNext_range_end (I.ok.hd hc) st (by have:n<=i:=hg;omega) fun h' eb=>⟨rfl,I.turned (t':=s.toks) (fun b o hb e=>eb b o hb e) f0 f1 f3 f4 f5⟩
 self:=fun _ _ _ _ _ st h=>wpAny_pyIter_rangeiter st h
end L2
namespace L2
open PySem PySem.Spec PyProof.Rows
section
variable {X:Cx}{tg:Expr}
def JR (K:PySem.W.Frag)(tl:TE):TI:=fun σ H R=>tl σ H fun x H1=>∃a,x=.ref a/\(∃xs,dA K H1 a xs)/\R (IZ K a) H1
def MD (K:PySem.W.Frag)(tl:TE):TI:=fun σ H R=>tl σ H fun x H1=>∃a,x=.ref a/\(∃xs,eD K H1 a xs)/\R (IX K a) H1
theorem Em {l:Expr}{tl:TE}(hl:PE X l tl):PI X tg l (JR X.K tl):=by
 intro pins s σ H R I h
 refine bz (hl pins s σ H _ I h) fun v s1 ⟨x,H1,I1,r1,q1⟩=>?_
 obtain ⟨a,e,⟨xs,hq⟩,q⟩:=q1
 subst e
 cases r1
 obtain ⟨its,rv,p,hz⟩:=I1.list hq
 refine wpAny_pyIter_list p.isList ?_
 refine ⟨s1.heap.objs.size,[s1.heap.objs.size],_,_,H1,rfl,I1.kept (t':=s1.toks) fun b o e=>tqc _ e,zm a _,⟨_,tqe _ rfl,rfl,rfl⟩,fun b hb=>?_,q⟩
 have e:b=s1.heap.objs.size:=by simpa using hb
 subst e
 exact I1.fpOk (tqg _) (I1.hok.fresh (tqg _))
theorem Gw {l:Expr}{tl:TE}(hl:PE X l tl):PI X tg l (MD X.K tl):=by
 intro pins s σ H R I h
 refine bz (hl pins s σ H _ I h) fun v s1 ⟨x,H1,I1,r1,q1⟩=>?_
 obtain ⟨a,e,⟨xs,hq⟩,q⟩:=q1
 subst e
 cases r1
 obtain ⟨its,rv,p,hz⟩:=I1.tuple hq
 refine wpAny_pyIter_tuple (show s1.heap.IsTuple a its.toArray from p) ?_
 refine ⟨s1.heap.objs.size,[s1.heap.objs.size],_,_,H1,rfl,I1.kept (t':=s1.toks) fun b o e=>tqc _ e,xF a _,⟨_,tqe _ rfl,rfl,rfl⟩,fun b hb=>?_,q⟩
 have e:b=s1.heap.objs.size:=by simpa using hb
 subst e
 exact I1.fpOk (tqg _) (I1.hok.fresh (tqg _))
theorem BU {pins:List (Addr×Obj)}{σ:St}{H:Hp}{s:Shared}{R:It->Hp->Prop}{E:Value->Shared->Prop}{lo hi:Int}{t u v:Tok}{tk:Nat}(I:Inv X pins σ H s)(h1:-(2^62)<=lo)(h2:lo<2^62)(h3:-(2^62)<=hi)(h4:hi<2^62)
 (q:R (DD lo (hi-lo).toNat) H):wpAny (model X.prog X.w) X.A (pyIter (.ref s.heap.objs.size)) (Dz X pins σ tg R) E {s with heap:=s.heap.push {cls:=.type "range",data:=.fields #[.int lo t,.int hi u,.int 1 v]},toks:=tk}:=by
 refine wpAny_pyIter_range (IsRange.new ..) (small_one h1 h2 h3 h4) ?_
 have I1:Inv X pins σ H {s with heap:=s.heap.push {cls:=.type "range",data:=.fields #[.int lo t,.int hi u,.int 1 v]},toks:=tk}:=I.kept fun b o e=>tqc _ e
 refine ⟨(s.heap.push {cls:=.type "range",data:=.fields #[.int lo t,.int hi u,.int 1 v]}).objs.size,[(s.heap.push {cls:=.type "range",data:=.fields #[.int lo t,.int hi u,.int 1 v]}).objs.size],_,_,H,rfl,
  I1.kept (t':=tk) fun b o e=>tqc _ e,xG _ lo (hi-lo).toNat,?_,fun b hb=>?_,q⟩
 ·have e1:lo+((0:Nat):Int)*1=lo:=by simp
  have e2:(((hi-lo).toNat:Nat):Int)-((0:Nat):Int)=Builtin.Range.rangeSize lo hi 1:=by rw [rangeSize_one];split<;>omega
  show IsRangeIter _ _ (lo+((0:Nat):Int)*1) ((((hi-lo).toNat:Nat):Int)-((0:Nat):Int)) 1
  rw [e1,e2]
  exact tqe _ rfl
 ·have e:b=(s.heap.push {cls:=.type "range",data:=.fields #[.int lo t,.int hi u,.int 1 v]}).objs.size:=by simpa using hb
  subst e
  exact I1.fpOk (tqg _) (I1.hok.fresh (tqg _))
def JQ (ta:TA):TI:=fun σ H R=>ta σ H fun vs H1=>∃j:Int,vs=[.int j]/\-(2^62)<=j/\j<2^62/\R (DD 0 j.toNat) H1
theorem zY {a:Expr}{ta:TA}{p pos:Pos}(hg:Gl X "range")(hm:X.mg "range"=none)(ha:PA X [a] ta)(hs:starEach [a] X.env=[(false,eval a X.env)]:=by rfl):PI X tg (.Call (.Name "range" p) [a] [] pos) (JQ ta):=by
 intro pins s σ H R I h
 refine Call_ (jP I hg hm boot_range (PyProof.Rows.callWith_type1 (bz (ha pos pins s σ H _ I h) fun us s1 ⟨vs,H1,I1,r1,q1⟩=>?_) hs rfl))
 obtain ⟨j,e,q1,q2,q⟩:=q1
 subst e
 cases r1 with
 | cons r rr =>
   cases rr
   obtain ⟨t,rfl⟩:=r
   exact call_range_1 (BU I1 (by omega) (by omega) q1 q2 (by simpa using q))
def Ll (wi:TI)(g:TG)(tb:TS):TS:=fun D σ H=>wi σ H fun J H1=>∃W:Nat->Nat->St->Hp->Prop,(∃m,W 0 m σ H1)/\∀i m σ H,W i m σ H->
 (J.stop i H/\D.nx σ H)\/(J.go i H/\∃N:St->Hp->Prop,(∀σ' H',N σ' H'->∃m',m'<m/\W (i+1) m' σ' H')/\∀x H',J.yld i H x H'->g x σ H' fun σ2 H2=>tb {D with nx:=N,ct:=N,bk:=D.nx} σ2 H2)
def qk (fp:List Addr)(h:Heap):List (Addr×Obj):=fp.filterMap fun b=>(h.get? b).map fun o=>(b,o)
theorem kg {fp:List Addr}{h:Heap}{b:Addr}{o:Obj}(hb:b∈fp)(e:h.get? b=some o):(b,o)∈qk fp h:=List.mem_filterMap.mpr ⟨b,hb,by rw [e];rfl⟩
theorem Ap {fp:List Addr}{h:Heap}{p:Addr×Obj}(hp:p∈qk fp h):p.1∈fp/\h.get? p.1=some p.2:=by
 obtain ⟨b,hb,e⟩:=List.mem_filterMap.mp hp
 cases q:h.get? b with
 |none=>rw [q] at e;cases e
 | some o =>
   rw [q] at e
   have e':(b,o)=p:=Option.some.inj e
   subst e'
   exact ⟨hb,q⟩
theorem Inv.pinned {pins:List (Addr×Obj)}{σ:St}{H:Hp}{s:Shared}{fp:List Addr}(I:Inv X pins σ H s)(hf:∀b∈fp,iy X pins H b)(ho:∀b∈fp,∃o,s.heap.get? b=some o/\∀v,o.data≠.cell v):Inv X (pins++qk fp s.heap) σ H s:=
 I.pins_of fun p hp=>(List.mem_append.mp hp).elim (fun z=>I.pin p (List.mem_append_right _ z)) fun z=>by
  obtain ⟨hb,e⟩:=Ap z
  obtain ⟨f0,f1,f2,_⟩:=hf p.1 hb
  obtain ⟨o,e',d⟩:=ho p.1 hb
  rw [e] at e';cases e'
  exact ⟨e,f0,f1,f2,d⟩
theorem Inv.unpinned {pins pl:List (Addr×Obj)}{σ:St}{H:Hp}{s:Shared}(I:Inv X (pins++pl) σ H s):Inv X pins σ H s:=I.pins_of fun p hp=>I.pin p (List.mem_append_right _ (List.mem_append_left _ hp))
theorem Gv {iter:Expr}{body:List Stmt}{wi:TI}{g:TG}{tb:TS}{pos:Pos}(hp:PassesOwn (model X.prog X.w) X.A X.env X.xe)(hc:X.calm=true)(hi:PI X tg iter wi)(hg:PG X tg g)(hb:oa X body tb)
 (hs:∀x,foldedSetIterable iter X.env x=pure x:=by intro _;rfl):PS X (.For tg iter body [] pos) (Ll wi g tb):=by
 intro pins s σ H D I h
 refine wpAny_For (bz (hi pins s σ H _ I h) fun v s1 h1=>bz h1 fun itv s2 h2=>?_) hs
 obtain ⟨it,fp,tn,J,H2,e,I2,T,st2,f2,W,⟨m0,w0⟩,turn⟩:=h2
 subst e
 have stat:∀{H':Hp},(∀b∈fp,H' b=none)->∀b∈fp,iy X pins H' b:=fun hn b hb=>⟨hn b hb,(f2 b hb).2⟩
 refine codeAny_forLoop_any (fun n s'=>∃i σ' H',Inv X pins σ' H' s'/\tn i s'.heap/\(∀b∈fp,H' b=none)/\W i n σ' H') ?_ m0 ⟨0,σ,H2,I2,st2,fun b hb=>(f2 b hb).1,w0⟩
 rintro n s3 ⟨i,σ3,H3,I3,st3,fr3,w3⟩
 rcases turn i n σ3 H3 w3 with ⟨stop,qn⟩|⟨go,N,hN,step⟩
 ·refine wpAny_passesOwn hp (bz (T.done X rfl rfl rfl hc i pins s3 σ3 H3 X.xe I3 (stat fr3) st3 stop) fun r s4 ⟨hr,I4⟩=>?_)
  subst hr
  exact wpAny_execs_nil ⟨σ3,H3,I4,qn⟩
 ·refine wpAny_passesOwn hp (bz (T.item X rfl rfl rfl hc i pins s3 σ3 H3 X.xe I3 (stat fr3) st3 go) fun r s4 ⟨u,hr,h4⟩=>?_)
  subst hr
  refine wpAny_passesOwn hp (bz h4 fun _ s5 ⟨x,H5,I5,r5,y5,st5,fr5⟩=>?_)
  have I5':=I5.pinned (stat fr5) (T.obj _ _ st5)
  refine wpAny_passesOwn hp (bz (hg _ s5 σ3 H5 x u _ I5' r5 (step x H5 y5)) fun _ s6 ⟨σ6,H6,I6,q6⟩=>?_)
  refine wpAny_passesOwn hp (bz (hb _ s6 σ6 H6 _ I6 q6) fun f s7 q7=>?_)
  have again:∀{σ7:St}{H7:Hp},Inv X (pins++qk fp s5.heap) σ7 H7 s7->N σ7 H7->∃m,m<n/\∃i σ' H',Inv X pins σ' H' s7/\tn i s7.heap/\(∀b∈fp,H' b=none)/\W i m σ' H':=fun {σ7 H7} I7 n7=>by
   obtain ⟨m',hm,w7⟩:=hN σ7 H7 n7
   refine ⟨m',hm,i+1,σ7,H7,I7.unpinned,T.keep _ _ _ st5 fun b hb o e=>(I7.pin (b,o) (List.mem_append_right _ (List.mem_append_right _ (kg hb e)))).1,fun b hb=>?_,w7⟩
   obtain ⟨o,e,d⟩:=T.obj _ _ st5 b hb
   exact (I7.pin (b,o) (List.mem_append_right _ (List.mem_append_right _ (kg hb e)))).2.1
  cases f with
  |next=>obtain ⟨σ7,H7,I7,n7⟩:=q7;exact again I7 n7
  |cont=>obtain ⟨σ7,H7,I7,n7⟩:=q7;exact again I7 n7
  |brk=>obtain ⟨σ7,H7,I7,q7⟩:=q7;exact ⟨σ7,H7,I7.unpinned,q7⟩
  |ret v=>obtain ⟨x7,σ7,H7,I7,r7,q7⟩:=q7;exact ⟨x7,σ7,H7,I7.unpinned,r7,q7⟩
end
end L2
namespace L2
open PySem PySem.Spec PyProof.Rows
abbrev R2:=V->V->Hp->VK->Prop
def cI (X:Cx)(f:Value->Value->Sem Value)(r:R2):Prop:=
 ∀(pins:List (Addr×Obj)) (s:Shared) (σ:St) (H:Hp) (x y:V) (v u:Value) (Q:VK),Inv X pins σ H s->RelV x v->RelV y u->r x y H Q->
  wpAny (model X.prog X.w) X.A (f v u) (EP X pins σ Q) X.xe s
def IT (X:Cx)(f:Value->Sem Value)(r:V->Hp->VK->Prop):Prop:=
 ∀(pins:List (Addr×Obj)) (s:Shared) (σ:St) (H:Hp) (x:V) (v:Value) (Q:VK),Inv X pins σ H s->RelV x v->r x H Q->
  wpAny (model X.prog X.w) X.A (f v) (EP X pins σ Q) X.xe s
def dN (X:Cx)(f:Value)(r:List V->Hp->VK->Prop):Prop:=
 ∀(pins:List (Addr×Obj)) (s:Shared) (σ:St) (H:Hp) (xs:List V) (us:List Value) (Q:VK),Inv X pins σ H s->Vals xs us->r xs H Q->
  wpAny (model X.prog X.w) X.A (call f us) (EP X pins σ Q) X.xe s
def MX (X:Cx)(r:V->Hp->(Bool->Hp->Prop)->Prop):Prop:=
 ∀(pins:List (Addr×Obj)) (s:Shared) (σ:St) (H:Hp) (x:V) (v:Value) (Q:Bool->Hp->Prop),Inv X pins σ H s->RelV x v->r x H Q->
  wpAny (model X.prog X.w) X.A (truthy v) (TP X pins σ Q) X.xe s
def zw (r:R2)(ta tb:TE):TE:=fun σ H Q=>ta σ H fun x H1=>tb σ H1 fun y H2=>r x y H2 Q
def tUn (r:V->Hp->VK->Prop)(ta:TE):TE:=fun σ H Q=>ta σ H fun x H1=>r x H1 Q
def rI (C:Int->Int->Prop)(g:Int->Int->V):R2:=fun x y H Q=>∃i j,x=.int i/\y=.int j/\C i j/\Q (g i j) H
def sQ (g:Int->Int->V):R2:=fun x y H Q=>∃i j,x=.int i/\y=.int j/\Q (g i j) H
def rU (g:Int->V):V->Hp->VK->Prop:=fun x H Q=>∃i,x=.int i/\Q (g i) H
section
variable {X:Cx}{a b c:Expr}{ta tb tc:TE}{pos:Pos}
theorem CP (ha:PE X a ta)(hb:PE X b tb){pins:List (Addr×Obj)}{s:Shared}{σ:St}{H:Hp}{R:V->V->Hp->Prop}(I:Inv X pins σ H s)
 (h:ta σ H fun x H1=>tb σ H1 fun y H2=>R x y H2) {Q:Value->Shared->Prop}{f:Value->Value->Sem Value}
 (hf:∀v u s2 x y H2,Inv X pins σ H2 s2->RelV x v->RelV y u->R x y H2->wpAny (model X.prog X.w) X.A (f v u) Q X.xe s2) :
 wpAny (model X.prog X.w) X.A (eval a X.env) (fun v s₁=>wpAny (model X.prog X.w) X.A (eval b X.env) (fun u s₂=>wpAny (model X.prog X.w) X.A (f v u) Q X.xe s₂) X.xe s₁) X.xe s:=by
 refine bz (ha pins s σ H _ I h) fun v s1 ⟨x,H1,I1,r1,q1⟩=>?_
 refine bz (hb pins s1 σ H1 _ I1 q1) fun u s2 ⟨y,H2,I2,r2,q2⟩=>?_
 exact hf v u s2 x y H2 I2 r1 r2 q2
theorem Jy {op:Operator}{r:R2}(ho:cI X (binaryOp op) r)(ha:PE X a ta)(hb:PE X b tb):PE X (.BinOp a op b pos) (zw r ta tb):=by
 intro pins s σ H Q I h
 exact wpAny_BinOp (CP ha hb I h fun v u s2 x y H2 I2 rx ry q=>ho pins s2 σ H2 x y v u Q I2 rx ry q)
theorem Dd {op:UnaryOp}{r:V->Hp->VK->Prop}(ho:IT X (unaryOp op) r)(ha:PE X a ta):PE X (.UnaryOp op a pos) (tUn r ta):=by
 intro pins s σ H Q I h
 exact UnaryOp_ (bz (ha pins s σ H _ I h) fun v s1 ⟨x,H1,I1,r1,q1⟩=>ho pins s1 σ H1 x v Q I1 r1 q1)
theorem Di {f:Value->Value->Sem Value}{C:Int->Int->Prop}{g:Int->Int->Int}
 (rule:∀(i j:Int) (t u:Tok) (s:Shared) (Q:Value->Shared->Prop) (E:Value->Shared->Prop),C i j->Q (.int (g i j) s.toks) {s with toks:=s.toks+1}->wpAny (model X.prog X.w) X.A (f (.int i t) (.int j u)) Q E s) :
 cI X f (rI C fun i j=>.int (g i j)):=by
 intro pins s σ H x y v u Q I rx ry h
 obtain ⟨i,j,rfl,rfl,hc,q⟩:=h
 obtain ⟨t,rfl⟩:=rx
 obtain ⟨t',rfl⟩:=ry
 exact rule i j t t' s _ _ hc ⟨.int (g i j),H,I.tok _,⟨_,rfl⟩,q⟩
theorem GZ {f:Value->Value->Sem Value}{g:Int->Int->Int}
 (rule:∀(i j:Int) (t u:Tok) (s:Shared) (Q:Value->Shared->Prop) (E:Value->Shared->Prop),Q (.int (g i j) s.toks) {s with toks:=s.toks+1}->wpAny (model X.prog X.w) X.A (f (.int i t) (.int j u)) Q E s) :
 cI X f (sQ fun i j=>.int (g i j)):=by
 intro pins s σ H x y v u Q I rx ry h
 obtain ⟨i,j,rfl,rfl,q⟩:=h
 obtain ⟨t,rfl⟩:=rx
 obtain ⟨t',rfl⟩:=ry
 exact rule i j t t' s _ _ ⟨.int (g i j),H,I.tok _,⟨_,rfl⟩,q⟩
theorem yb {f:Value->Value->Sem Value}{g:Int->Int->Bool}
 (rule:∀(i j:Int) (t u:Tok) (s:Shared) (Q:Value->Shared->Prop) (E:Value->Shared->Prop),Q (.bool (g i j)) s->wpAny (model X.prog X.w) X.A (f (.int i t) (.int j u)) Q E s) :
 cI X f (sQ fun i j=>.bl (g i j)):=by
 intro pins s σ H x y v u Q I rx ry h
 obtain ⟨i,j,rfl,rfl,q⟩:=h
 obtain ⟨t,rfl⟩:=rx
 obtain ⟨t',rfl⟩:=ry
 exact rule i j t t' s _ _ ⟨.bl (g i j),H,I,rfl,q⟩
def I9 (i j:Int):Prop:=0<j/\j<1073741824
def I8 (i j:Int):Prop:=0<=j/\j<=1000000/\i.natAbs<2^64
def CW (i j:Int):Prop:=(-(2^64)<i/\i<2^64)\/(-(2^64)<j/\j<2^64)
theorem CW.ok {i j:Int}(h:CW i j):IntMulOk i j:=by
 rcases h with ⟨h1,h2⟩|⟨h1,h2⟩
 ·exact .of_left (intBits_le_64 h1 h2)
 ·exact .of_right (intBits_le_64 h1 h2)
theorem GY:cI X (binaryOp .Add) (sQ fun i j=>.int (i+j)):=GZ fun _ _ _ _ _ _ _ q=>add_int q
theorem GO:cI X (binaryOp .Sub) (sQ fun i j=>.int (i-j)):=GZ fun _ _ _ _ _ _ _ q=>sub_int q
theorem GR:cI X (binaryOp .Mult) (rI CW fun i j=>.int (i*j)):=Di fun _ _ _ _ _ _ _ hc q=>mul_int q hc.ok
theorem Ew:cI X (binaryOp .FloorDiv) (rI I9 fun i j=>.int (i / j)):=Di fun i j _ _ _ _ _ hc q=>by
 have h1:(0:Int)<j:=hc.1
 have h2:j<1073741824:=hc.2
 exact floordiv_int (by omega) (by rw [Int.fdiv_eq_ediv_of_nonneg i (by omega)];exact q) (.inl (PyProof.noPylong_small (by omega)))
theorem GU:cI X (binaryOp .Mod) (rI (fun _ j=>0<j) fun i j=>.int (i % j)):=Di fun i j _ _ _ _ _ hc q=>by
 have h1:(0:Int)<j:=hc
 exact mod_int' (by omega) (by rw [Int.fmod_eq_emod_of_nonneg i (by omega)];exact q)
theorem GQ:cI X (binaryOp .Pow) (rI I8 fun i j=>.int (i^j.toNat)):=Di fun _ _ _ _ _ _ _ hc q=>pow_int_small hc.1 hc.2.1 hc.2.2 q
theorem unI {f:Value->Sem Value}{g:Int->Int}
 (rule:∀(i:Int) (t:Tok) (s:Shared) (Q:Value->Shared->Prop) (E:Value->Shared->Prop),Q (.int (g i) s.toks) {s with toks:=s.toks+1}->wpAny (model X.prog X.w) X.A (f (.int i t)) Q E s) :
 IT X f (rU fun i=>.int (g i)):=by
 intro pins s σ H x v Q I rx h
 obtain ⟨i,rfl,q⟩:=h
 obtain ⟨t,rfl⟩:=rx
 exact rule i t s _ _ ⟨.int (g i),H,I.tok _,⟨_,rfl⟩,q⟩
theorem zj:IT X (unaryOp .USub) (rU fun i=>.int (-i)):=unI fun _ _ _ _ _ q=>neg_int q
end
def FU:V->V->Bool
 |.non,.non=>true|.non,.int _=>true|.int _,.non=>true|.non,.bl _=>true|.bl _,.non=>true|.non,.str _=>true|.str _,.non=>true
 |.int _,.int _=>true|.bl _,.bl _=>true|.str _,.str _=>true|.byt _,.byt _=>true
 |.int _,.str _=>true|.str _,.int _=>true|.bl _,.str _=>true|.str _,.bl _=>true
 |_,_=>false
def rEq:R2:=fun x y H Q=>FU x y=true/\Q (.bl (decide (x=y))) H
def rNe:R2:=fun x y H Q=>FU x y=true/\Q (.bl (!decide (x=y))) H
theorem xv {i j:Int}:decide (V.int i=V.int j)=(i==j):=by
 rw [Bool.eq_iff_iff]
 simp
theorem AU {i j:Bool}:decide (V.bl i=V.bl j)=(i==j):=by
 rw [Bool.eq_iff_iff]
 simp
theorem oK {i j:Str}:decide (V.str i=V.str j)=(i==j):=by
 rw [Bool.eq_iff_iff]
 simp
theorem xx {i j:Array UInt8}:decide (V.byt i=V.byt j)=(i.toList==j.toList):=by
 rw [Bool.eq_iff_iff]
 cases i
 cases j
 simp
section
variable {X:Cx}{a b c:Expr}{ta tb tc:TE}{pos:Pos}
theorem bY {pins:List (Addr×Obj)}{σ:St}{H:Hp}{s:Shared}{Q:VK}{k k':Bool}(I:Inv X pins σ H s)(q:Q (.bl k) H)(e:k=k'):EP X pins σ Q (.bool k') s:=by
 subst e
 exact ⟨.bl k,H,I,rfl,q⟩
theorem JJ:cI X (compareOp .Eq) rEq:=by
 intro pins s σ H x y v u Q I rx ry h
 obtain ⟨hs,q⟩:=h
 cases x with
 | non =>
   cases rx
   cases y with
   |non=>cases ry;exact PySem.EqNone.eq_none_none (bY I q (by simp))
   |bl j=>cases ry;exact PySem.EqNone.eq_none_bool (bY I q (by simp))
   |int j=>obtain ⟨t',rfl⟩:=ry;exact PySem.EqNone.eq_none_int (bY I q (by simp))
   |str j=>obtain ⟨t',rfl⟩:=ry;exact PySem.EqNone.eq_none_str (bY I q (by simp))
   |_=>exact absurd (show false=true from hs) tqj
 | bl i =>
   cases rx
   cases y with
   |non=>cases ry;exact PySem.EqNone.eq_bool_none (bY I q (by simp))
   |bl j=>cases ry;exact eq_bool (bY I q AU)
   |str j=>obtain ⟨t',rfl⟩:=ry;exact PySem.EqMixed.eq_bool_str (bY I q (by simp))
   |_=>exact absurd (show false=true from hs) tqj
 | int i =>
   obtain ⟨t,rfl⟩:=rx
   cases y with
   |non=>cases ry;exact PySem.EqNone.eq_int_none (bY I q (by simp))
   |int j=>obtain ⟨t',rfl⟩:=ry;exact eq_int (bY I q xv)
   |str j=>obtain ⟨t',rfl⟩:=ry;exact PySem.EqMixed.eq_int_str (bY I q (by simp))
   |_=>exact absurd (show false=true from hs) tqj
 | str i =>
   obtain ⟨t,rfl⟩:=rx
   cases y with
   |non=>cases ry;exact PySem.EqNone.eq_str_none (bY I q (by simp))
   |bl j=>cases ry;exact PySem.EqMixed.eq_str_bool (bY I q (by simp))
   |int j=>obtain ⟨t',rfl⟩:=ry;exact PySem.EqMixed.eq_str_int (bY I q (by simp))
   |str j=>obtain ⟨t',rfl⟩:=ry;exact eq_str (bY I q oK)
   |_=>exact absurd (show false=true from hs) tqj
 | byt i =>
   obtain ⟨t,rfl⟩:=rx
   cases y with
   |byt j=>obtain ⟨t',rfl⟩:=ry;exact PySem.W.eq_bytes (bY I q xx)
   |_=>exact absurd (show false=true from hs) tqj
 |_=>cases y<;>exact absurd (show false=true from hs) tqj
theorem JE:cI X (compareOp .NotEq) rNe:=by
 intro pins s σ H x y v u Q I rx ry h
 obtain ⟨hs,q⟩:=h
 cases x with
 | non =>
   cases rx
   cases y with
   |non=>cases ry;exact PySem.EqNone.ne_none_none (bY I q (by simp))
   |bl j=>cases ry;exact PySem.EqNone.ne_none_bool (bY I q (by simp))
   |int j=>obtain ⟨t',rfl⟩:=ry;exact PySem.EqNone.ne_none_int (bY I q (by simp))
   |str j=>obtain ⟨t',rfl⟩:=ry;exact PySem.EqNone.ne_none_str (bY I q (by simp))
   |_=>exact absurd (show false=true from hs) tqj
 | bl i =>
   cases rx
   cases y with
   |non=>cases ry;exact PySem.EqNone.ne_bool_none (bY I q (by simp))
   |bl j=>cases ry;exact ne_bool (bY I q (congrArg not AU))
   |str j=>obtain ⟨t',rfl⟩:=ry;exact PySem.EqMixed.ne_bool_str (bY I q (by simp))
   |_=>exact absurd (show false=true from hs) tqj
 | int i =>
   obtain ⟨t,rfl⟩:=rx
   cases y with
   |non=>cases ry;exact PySem.EqNone.ne_int_none (bY I q (by simp))
   |int j=>obtain ⟨t',rfl⟩:=ry;exact ne_int (bY I q (congrArg not xv))
   |str j=>obtain ⟨t',rfl⟩:=ry;exact PySem.EqMixed.ne_int_str (bY I q (by simp))
   |_=>exact absurd (show false=true from hs) tqj
 | str i =>
   obtain ⟨t,rfl⟩:=rx
   cases y with
   |non=>cases ry;exact PySem.EqNone.ne_str_none (bY I q (by simp))
   |bl j=>cases ry;exact PySem.EqMixed.ne_str_bool (bY I q (by simp))
   |int j=>obtain ⟨t',rfl⟩:=ry;exact PySem.EqMixed.ne_str_int (bY I q (by simp))
   |str j=>obtain ⟨t',rfl⟩:=ry;exact ne_str (bY I q (congrArg not oK))
   |_=>exact absurd (show false=true from hs) tqj
 | byt i =>
   obtain ⟨t,rfl⟩:=rx
   cases y with
   |byt j=>obtain ⟨t',rfl⟩:=ry;exact PySem.W.ne_bytes (bY I q (congrArg not xx))
   |_=>exact absurd (show false=true from hs) tqj
 |_=>cases y<;>exact absurd (show false=true from hs) tqj
theorem JF:cI X (compareOp .Lt) (sQ fun i j=>.bl (decide (i<j))):=yb fun _ _ _ _ _ _ _ q=>lt_int q
theorem JG:cI X (compareOp .LtE) (sQ fun i j=>.bl (decide (i<=j))):=yb fun _ _ _ _ _ _ _ q=>le_int q
theorem JH:cI X (compareOp .Gt) (sQ fun i j=>.bl (decide (j<i))):=yb fun _ _ _ _ _ _ _ q=>gt_int q
theorem JI:cI X (compareOp .GtE) (sQ fun i j=>.bl (decide (j<=i))):=yb fun _ _ _ _ _ _ _ q=>ge_int q
theorem Ao:cI X (compareOp .In) (fun x y H Q=>∃i j,x=.str i/\y=.str j/\Q (.bl (!(Builtin.Str.occurrences j i 0 j.length 1).isEmpty)) H):=by
 intro pins s σ H x y v u Q I rx ry h
 obtain ⟨i,j,rfl,rfl,q⟩:=h
 obtain ⟨t,rfl⟩:=rx
 obtain ⟨t',rfl⟩:=ry
 exact in_str (bY I q rfl)
theorem GV:cI X (compareOp .Is) (fun x y H Q=>y=.non/\Q (.bl (decide (x=.non))) H):=by
 intro pins s σ H x y v u Q I rx ry h
 obtain ⟨rfl,q⟩:=h
 cases ry
 refine is_none_gen (bY I q ?_)
 cases x<;>first
  |(cases rx;rfl)
  |(obtain ⟨t,rfl⟩:=rx;rfl)
theorem Eu:cI X (compareOp .IsNot) (fun x y H Q=>y=.non/\Q (.bl (!decide (x=.non))) H):=by
 intro pins s σ H x y v u Q I rx ry h
 obtain ⟨rfl,q⟩:=h
 cases ry
 refine isnot_none_gen (bY I q ?_)
 cases x<;>first
  |(cases rx;rfl)
  |(obtain ⟨t,rfl⟩:=rx;rfl)
theorem vf:cI X (compareOp .NotIn) (fun x y H Q=>∃i j,x=.str i/\y=.str j/\Q (.bl (!(!(Builtin.Str.occurrences j i 0 j.length 1).isEmpty))) H):=by
 intro pins s σ H x y v u Q I rx ry h
 obtain ⟨i,j,rfl,rfl,q⟩:=h
 obtain ⟨t,rfl⟩:=rx
 obtain ⟨t',rfl⟩:=ry
 exact notIn_str (bY I q rfl)
theorem Eo {op:CmpOp}{r:R2}(ho:cI X (compareOp op) r)(ha:PE X a ta)(hb:PE X b tb)(hm:behindInMarks op b=false):PE X (.Compare a [op] [b] pos) (zw r ta tb):=by
 intro pins s σ H Q I h
 exact wpAny_Compare1 (CP ha hb I h fun v u s2 x y H2 I2 rx ry q=>ho pins s2 σ H2 x y v u Q I2 rx ry q) hm
def C5 (t:TE):TT:=fun σ H Q=>t σ H fun x H'=>∃k,x=.bl k/\Q k H'
theorem wX {op:CmpOp}{r:R2}(ho:cI X (compareOp op) r)(ha:PE X a ta)(hb:PE X b tb)(hm:behindInMarks op b=false):PT X (.Compare a [op] [b] pos) (C5 (zw r ta tb)):=by
 intro pins s σ H Q I h
 refine wpAny_isTrue_Compare1 (bz (ha pins s σ H _ I h) fun v s1 ⟨x,H1,I1,r1,q1⟩=>bz (hb pins s1 σ H1 _ I1 q1) fun u s2 ⟨y,H2,I2,r2,q2⟩=>
  bz (ho pins s2 σ H2 x y v u _ I2 r1 r2 q2) fun c s3 ⟨z,H3,I3,r3,k,e,q3⟩=>?_) hm
 subst e
 cases r3
 exact tqp ⟨H3,I3,q3⟩
def uF (r r':R2)(ta tb tc:TE):TE:=fun σ H Q=>ta σ H fun x H1=>tb σ H1 fun y H2=>r x y H2 fun z H3=>∃k,z=.bl k/\
 (if k=true then tc σ H3 fun w' H4=>r' y w' H4 Q else Q (.bl false) H3)
theorem BZ {op op':CmpOp}{r r':R2}(ho:cI X (compareOp op) r)(ho':cI X (compareOp op') r')(ha:PE X a ta)(hb:PE X b tb)(hc:PE X c tc)
 (hm:lastMarks [op,op'] [b,c]=false:=by with_unfolding_all rfl):PE X (.Compare a [op,op'] [b,c] pos) (uF r r' ta tb tc):=by
 intro pins s σ H Q I h
 refine Compare_chain (bz (ha pins s σ H _ I h) fun v s1 ⟨x,H1,I1,r1,q1⟩=>chain_link (bz (hb pins s1 σ H1 _ I1 q1) fun u s2 ⟨y,H2,I2,r2,q2⟩=>
  bz (ho pins s2 σ H2 x y v u _ I2 r1 r2 q2) fun d s3 ⟨z,H3,I3,r3,k,e,q3⟩=>?_)) hm
 subst e
 cases r3
 refine tqp ?_
 cases k with
 |false=>exact ite_ff ⟨.bl false,H3,I3,rfl,q3⟩
 |true=>exact ite_tt (chain_last (bz (hc pins s3 σ H3 _ I3 q3) fun w' s4 ⟨z',H4,I4,r4,q4⟩=>ho' pins s4 σ H4 y z' u w' Q I4 r2 r4 q4))
theorem BW {op op':CmpOp}{r r':R2}(ho:cI X (compareOp op) r)(ho':cI X (compareOp op') r')(ha:PE X a ta)(hb:PE X b tb)(hc:PE X c tc)
 (hm:lastMarks [op,op'] [b,c]=false:=by with_unfolding_all rfl):PT X (.Compare a [op,op'] [b,c] pos) (C5 (uF r r' ta tb tc)):=by
 intro pins s σ H Q I h
 refine isTrue_chain (bz (ha pins s σ H _ I h) fun v s1 ⟨x,H1,I1,r1,q1⟩=>test_link (bz (hb pins s1 σ H1 _ I1 q1) fun u s2 ⟨y,H2,I2,r2,q2⟩=>
  bz (ho pins s2 σ H2 x y v u _ I2 r1 r2 q2) fun d s3 ⟨z,H3,I3,r3,k,e,q3⟩=>?_)) hm
 subst e
 cases r3
 refine tqp ?_
 cases k with
 | false =>
   obtain ⟨k',e',q'⟩:=q3
   cases e'
   exact ite_ff ⟨H3,I3,q'⟩
 | true =>
   refine ite_tt (test_last (bz (hc pins s3 σ H3 _ I3 q3) fun w' s4 ⟨z',H4,I4,r4,q4⟩=>bz (ho' pins s4 σ H4 y z' u w' _ I4 r2 r4 q4) fun d' s5 ⟨z2,H5,I5,r5,k2,e2,q5⟩=>?_))
   subst e2
   cases r5
   exact tqp ⟨H5,I5,q5⟩
def CT (K:PySem.W.Frag)(x:V)(H:Hp)(k:Bool):Prop:=
 match x with
 |.non=>k=false
 |.bl b=>k=b
 |.int i=>k=(i != 0)
 |.str y=>y.length<=sizeLine/\k=((y.length:Int) != 0)
 |.byt y=>y.size<=sizeLine/\k=((y.size:Int) != 0)
 |.ref p=>(∃xs,dA K H p xs/\k=!xs.isEmpty)\/(∃xs,eD K H p xs/\k=!xs.isEmpty)\/∃kvs,H p=some (.dK kvs)/\k=!kvs.isEmpty
 |_=>False
theorem yI {κ:Type}{kvs:List (κ×V)}{vs:List (κ×Value)}(r:KV kvs vs):(!vs.isEmpty)=!kvs.isEmpty:=by
 cases r<;>rfl
theorem qM {xs:List V}{its:List Value}(r:Vals xs its):(!its.toArray.isEmpty)=!xs.isEmpty:=by
 cases r<;>simp
theorem lj:(sizeLine:Nat)<2^63:=by rw [sizeLine_eq];decide
theorem FJ:MX X (fun x H Q=>∃k,CT X.K x H k/\Q k H):=by
 intro pins s σ H x v Q I rx h
 obtain ⟨k,e,q⟩:=h
 have hl:=lj
 have hs:sizeLine=16777216:=sizeLine_eq
 cases x with
 | non =>
   cases rx
   have e':k=false:=e
   subst e'
   exact truthy_none ⟨H,I,q⟩
 | bl b =>
   cases rx
   have e':k=b:=e
   subst e'
   exact tqp ⟨H,I,q⟩
 | int i =>
   obtain ⟨t,rfl⟩:=rx
   have e':k=(i != 0):=e
   subst e'
   exact PySem.P.truthy_int ⟨H,I,q⟩
 | str y =>
   obtain ⟨t,rfl⟩:=rx
   obtain ⟨hy,e'⟩:y.length<=sizeLine/\k=((y.length:Int) != 0):=e
   subst e'
   exact PySem.P.truthy_str (by omega) ⟨H,I.tok _,q⟩
 | byt y =>
   obtain ⟨t,rfl⟩:=rx
   obtain ⟨hy,e'⟩:y.size<=sizeLine/\k=((y.size:Int) != 0):=e
   subst e'
   exact PySem.W.truthy_bytes (by omega) ⟨H,I.tok _,q⟩
 | ref p =>
   cases rx
   have e':(∃xs,dA X.K H p xs/\k=!xs.isEmpty)\/(∃xs,eD X.K H p xs/\k=!xs.isEmpty)\/∃kvs,H p=some (.dK kvs)/\k=!kvs.isEmpty:=e
   rcases e' with ⟨xs,hx,e'⟩|⟨xs,hx,e'⟩|⟨kvs,hx,e'⟩
   ·subst e'
    obtain ⟨its,r,pl,hz⟩:=I.list hx
    have hlen:=r.length
    exact wpAny_truthy_list pl.isList (by simp only [List.size_toArray];omega) ⟨H,I.tok _,by rw [qM r];exact q⟩
   ·subst e'
    obtain ⟨its,r,pl,hz⟩:=I.tuple hx
    have hlen:=r.length
    exact truthy_tuple pl (by simp only [List.size_toArray];omega) ⟨H,I.tok _,by rw [qM r];exact q⟩
   ·subst e'
    obtain ⟨hz,hS,vs,r,m⟩:kvs.length<=sizeLine/\(p==sysModules)=false/\∃vs,KV kvs vs/\s.heap.DictOf (mh X.prog X.w) p vs:=I.hok p _ hx
    have hlen:kvs.length=vs.length:=Paired.length r
    exact wpAny_truthy_dict hS m (by omega) ⟨H,I.tok _,by rw [yI r];exact q⟩
 |_=>exact (show False from e).elim
theorem BV (ha:PE X a ta)(he:∀whole,isTrue a X.env whole=(do let v <- whole;standAt a.pos;holding [v] (truthy v))) :
 PT X a (fun σ H Q=>ta σ H fun x H'=>∃k,CT X.K x H' k/\Q k H'):=by
 intro pins s σ H Q I h
 exact isTrue_plain (bz (ha pins s σ H _ I h) fun v s1 ⟨x,H1,I1,r1,q1⟩=>FJ pins s1 σ H1 x v Q I1 r1 q1) (he _)
theorem ya:cI X (binaryOp .Add) (fun x y H Q=>∃i j,x=.str i/\y=.str j/\i.length+j.length<=sizeLine/\Q (.str (i++j)) H):=by
 intro pins s σ H x y v u Q I rx ry h
 obtain ⟨i,j,rfl,rfl,hz,q⟩:=h
 obtain ⟨t,rfl⟩:=rx
 obtain ⟨t',rfl⟩:=ry
 exact add_str (fun t' tk=>⟨.str (i++j),H,I.tok _,⟨_,rfl⟩,q⟩) hz
theorem vals1 {x:V}{us:List Value}(r:Vals [x] us):∃u,us=[u]/\RelV x u:=by
 cases r with
 |cons r1 r2=>cases r2;exact ⟨_,rfl,r1⟩
theorem vals2 {x y:V}{us:List Value}(r:Vals [x,y] us):∃u w',us=[u,w']/\RelV x u/\RelV y w':=by
 cases r with
 | cons r1 r2 =>
   cases r2 with
   |cons r3 r4=>cases r4;exact ⟨_,_,rfl,r1,r3⟩
end
end L2
namespace L2
open PySem PySem.Spec PyProof.Rows
structure CV (h:Heap) (x dx C:Addr) (mA:Str->Option Value):Prop where
 obj:h.get? x=some (PySem.W.instObj C dx)
 ns:h.Ns1 dx mA
 ne:dx≠x
theorem sV {h:Heap}{dx:Addr}{mA:Str->Option Value}(n:h.Ns1 dx mA):∃od,h.get? dx=some od/\∀name,PySem.W.lookIn name od=some (mA name):=by
 obtain ⟨o,es,ep,ho,hd,hk,_,hm⟩:=n
 refine ⟨o,ho,fun name=>?_⟩
 have e:=hm name
 unfold nsFind findBy at e
 rw [<- Array.find?_toList] at e
 unfold PySem.W.lookIn
 rw [hd]
 dsimp only
 split
 ·rename_i y q
  rw [q] at e
  exact congrArg some e
 ·rename_i q
  rw [q] at e
  have a:es.toList.any (·.refKey)=false:=by
   rw [List.any_eq_false]
   intro y hy
   obtain ⟨z,t,hkey⟩:=hk y (Array.mem_toList_iff.mp hy)
   simp [DictEntry.refKey,hkey]
  have a':¬ es.toList.any (·.refKey)=true:=by rw [a];exact tqj
  rw [if_neg a']
  exact congrArg some e
theorem CV.look {h:Heap}{x dx C:Addr}{mA:Str->Option Value}(I:CV h x dx C mA):∃od,PySem.W.InstAt h x (PySem.W.instObj C dx) C (some od)/\∀name,PySem.W.lookIn name od=some (mA name):=
 let ⟨od,ho,hl⟩:=sV I.ns
 ⟨od,⟨I.obj,rfl,rfl,ho⟩,hl⟩
theorem sq.some_of {v:V}{o:Option Value}(r:sq (some v) o):∃u,o=some u/\RelV v u:=by
 cases o with
 |none=>exact (show False from r).elim
 |some u=>exact ⟨u,rfl,r⟩
section
variable {P:Program}{w:World}{H H':Hp}{h h':Heap}{a C dx:Addr}{fs fs':List (Str×V)}
theorem EN (hok:fF P w H h)(e:H a=some (.ins C dx fs)):∃mA,CV h a dx C mA/\(∀f,sq (fs.lookup f) (mA f))/\PySem.Within mA (fs.map (·.1))/\fs.length<=1000/\H dx=some (.own a):=by
 obtain ⟨d,z,ne,ob,mA,n,r,q⟩:=(show dC P w H h a (.ins C dx fs) from hok a _ e)
 exact ⟨mA,⟨ob,n,ne⟩,r,q,z,d⟩
end
structure I0 (K:PySem.W.Frag) (C:Addr):Prop where
 pg:PySem.W.plainGet K C Str.empty=true
 hd:PySem.W.hasDictIn K C=true
 po:PySem.W.plainOver K C=true
 sa:PySem.W.findIn K (.ref C) "__setattr__"=some (some (.builtin "object.__setattr__"))
theorem I0.get {K:PySem.W.Frag}{C:Addr}(c:I0 K C)(f:Str):PySem.W.plainGet K C f=true:=c.pg
section
variable {X:Cx}{pins:List (Addr×Obj)}{σ:St}{H:Hp}{s:Shared}{a C dx:Addr}{fs:List (Str×V)}{f:Str}{v:V}{A:Around}{E:Value->Shared->Prop}
theorem Fo {prog:Program}{w:World}{env:Env}{e:Expr}{f:Str}{pos:Pos}{s:Shared}{Q:Value->Shared->Prop}(hb:attributeBase e f env (eval e env)=eval e env)
 (h:wpAny (model prog w) A (eval e env) (fun o s₁=>wpAny (model prog w) A (getAttr o f true) Q E s₁) E s):wpAny (model prog w) A (eval (.Attribute e f pos) env) Q E s:=
 Attribute_any_ h (by rw [arm_eval_Attribute,hb])
end
section
variable {X:Cx}{pins:List (Addr×Obj)}{σ:St}{H:Hp}{s:Shared}{A:Around}{E:Value->Shared->Prop}{Q:Value->Shared->Prop}{c:Value}{b:Bool}
inductive j4 (K:PySem.W.Frag) (H:Hp):V->Value->Prop where
 |non:j4 K H .non (.type "NoneType")
 |bl (x:Bool):j4 K H (.bl x) (.type "bool")
 |int (i:Int):j4 K H (.int i) (.type "int")
 |str (x:Str):j4 K H (.str x) (.type "str")
 |flt (x:UInt64):j4 K H (.flt x) (.type "float")
 |lst {a:Addr}{xs:List V} (e:H a=some (.lst xs)):j4 K H (.ref a) (.type "list")
 |frz {a:Addr}{o:Obj}{xs:List V} (e:H a=some (.frz o (.lst xs))):j4 K H (.ref a) (.type "list")
 |tup {a:Addr}{xs:List V} (e:H a=some (.tup xs)):j4 K H (.ref a) (.type "tuple")
 |dK {a:Addr}{kvs:List (Key×V)} (e:H a=some (.dK kvs)):j4 K H (.ref a) (.type "dict")
 |dT {a:Addr}{kvs:List (List Key×V)} (e:H a=some (.dT kvs)):j4 K H (.ref a) (.type "dict")
 |ins {a C dx:Addr}{fs:List (Str×V)} (e:H a=some (.ins C dx fs)) (cl:I0 K C) (ha:PySem.W.findIn K (.ref C) "__class__"=some (some (.builtin "object.__class__")))
  (hn:PySem.W.specialIn K (.builtin "object.__class__") "__get__"=some (some (.builtin "getset_descriptor.__get__"))) (htk:PySem.W.takesIn K (.builtin "object.__class__")=some true)
  (hm:PySem.W.mroIn K C (.type "object")=some true):j4 K H (.ref a) (.ref C)
theorem lF {x:V}{u t:Value}(I:Inv X pins σ H s)(rx:RelV x u)(ty:j4 X.K H x t)(e:PySem.W.kitOne X.K t c=some b)(h:∀tk,Q (.bool b) {s with toks:=tk}) :
 wpAny (model X.prog X.w) A (call (.builtin "isinstance") [u,c]) Q E s:=by
 cases ty with
 |non=>cases (show u=Value.none from rx);exact PySem.W.kia_one PySem.W.kitx_none I.kIn True.intro e (fun z=>nomatch z) h
 |bl y=>cases (show u=Value.bool y from rx);exact PySem.W.kia_one PySem.W.kitx_bool I.kIn True.intro e (fun z=>nomatch z) h
 |int i=>obtain ⟨t,q⟩:=(show ∃t,u=Value.int i t from rx);cases q;exact PySem.W.kia_one PySem.W.kitx_int I.kIn True.intro e (fun z=>nomatch z) h
 |str y=>obtain ⟨t,q⟩:=(show ∃t,u=Value.str y t from rx);cases q;exact PySem.W.kia_one PySem.W.kitx_str I.kIn True.intro e (fun z=>nomatch z) h
 |flt y=>obtain ⟨t,q⟩:=(show ∃t,u=Value.float y t from rx);cases q;exact PySem.W.kia_one PySem.W.kitx_float I.kIn True.intro e (fun z=>nomatch z) h
 | @lst a xs ea =>
   cases (show u=Value.ref a from rx)
   obtain ⟨_,_,n,_,h1⟩:=(show dC X.prog X.w H s.heap a (.lst xs) from I.hok a _ ea)
   exact PySem.W.kia_one PySem.W.kitx_list I.kIn ⟨_,h1,rfl⟩ e (fun z=>nomatch z) h
 | @frz a ob xs ea =>
   cases (show u=Value.ref a from rx)
   obtain ⟨_,_,_,n,_,h1⟩:=(show dC X.prog X.w H s.heap a (.frz ob (.lst xs)) from I.hok a _ ea)
   exact PySem.W.kia_one PySem.W.kitx_list I.kIn ⟨_,h1,rfl⟩ e (fun z=>nomatch z) h
 | @tup a xs ea =>
   cases (show u=Value.ref a from rx)
   obtain ⟨_,_,_,p⟩:=(show dC X.prog X.w H s.heap a (.tup xs) from I.hok a _ ea)
   obtain ⟨o,h1,h2,_⟩:=p
   exact PySem.W.kia_one PySem.W.kitx_tuple I.kIn ⟨o,h1,h2⟩ e (fun z=>nomatch z) h
 | @dK a kvs ea =>
   cases (show u=Value.ref a from rx)
   obtain ⟨_,_,vs,_,p⟩:=(show dC X.prog X.w H s.heap a (.dK kvs) from I.hok a _ ea)
   obtain ⟨o,es,ep,h1,h2,_⟩:=p
   exact PySem.W.kia_one PySem.W.kitx_dict I.kIn ⟨o,h1,h2.1⟩ e (fun z=>nomatch z) h
 | @dT a kvs ea =>
   cases (show u=Value.ref a from rx)
   obtain ⟨_,_,xs,_,o,es,ep,h1,h2,_⟩:=(show dC X.prog X.w H s.heap a (.dT kvs) from I.hok a _ ea)
   exact PySem.W.kia_one PySem.W.kitx_dict I.kIn ⟨o,h1,h2.1⟩ e (fun z=>nomatch z) h
 | @ins a C dx fs ea cl ha hn htk hm =>
   cases (show u=Value.ref a from rx)
   obtain ⟨mA,O,_⟩:=EN I.hok ea
   obtain ⟨od,J,_⟩:=O.look
   exact PySem.W.kia_one (PySem.W.kitx_own (cl.get _) cl.hd ha hn htk hm) I.kIn J e (fun z=>nomatch z) h
end
end L2
namespace L2
open PySem PySem.Spec PyProof.Rows
structure cU (k:Nat) (A:Around):Prop where
 hd:A.handled=none
 dp:A.depth+3*k+5<recursionLimit
 un:A.units+16*k+200<cLine
 gd:A.guards=some []
theorem cU.mono {j k:Nat}{A:Around}(r:cU k A)(h:j<=k):cU j A:=⟨r.hd,by have:=r.dp;omega,by have:=r.un;omega,r.gd⟩
theorem cU.deeper {k:Nat}{A:Around}(r:cU (k+1) A)(env:Env):cU k (A.deeper env):=
 ⟨r.hd,by have:=r.dp;show A.depth+1+3*k+5<_;omega,by have:=r.un;show A.units+3+16*k+200<_;omega,r.gd⟩
theorem yx {A:Around}{C:Addr}{us:List Value}{kw:List (Str×Value)}:(A.under (.builtin "type.__call__" ⟨.ref C::us,kw⟩)).depth=A.depth+1:=by
 first|rfl|simp [Around.under,Code.weight,Code.isCreation,Code.isGuard,Code.isCaller,Code.frames,Code.isFrame,guardIds]
theorem yw {A:Around}{C:Addr}{us:List Value}{kw:List (Str×Value)}:(A.under (.builtin "type.__call__" ⟨.ref C::us,kw⟩)).units=A.units+1:=by
 first|rfl|simp [Around.under,Code.cUnits,Code.frames,Code.isFrame]
theorem cU.make {k:Nat}{A:Around}(r:cU (k+1) A)(C:Addr)(us:List Value)(kw:List (Str×Value)):cU k (A.under (.builtin "type.__call__" ⟨.ref C::us,kw⟩)):=
 ⟨r.hd,by have:=r.dp;rw [yx];omega,by have:=r.un;rw [yw];omega,r.gd⟩
theorem cU.depth {k:Nat}{A:Around}(r:cU k A):A.depth<recursionLimit:=by have:=r.dp;omega
theorem cU.units {k:Nat}{A:Around}(r:cU k A):A.units+64<cLine:=by have:=r.un;omega
def Lh:TA:=fun _ H Q=>Q [] H
def Jj (ta:TE)(tr:TA):TA:=fun σ H Q=>ta σ H fun x H1=>tr σ H1 fun xs H2=>Q (x::xs) H2
section
variable {X:Cx}{e:Expr}{es:List Expr}{te:TE}{t:TA}{pos:Pos}
theorem fO:PA X [] Lh:=fun _ _ _ _ H Q I h=>Calls.spliced_nil ⟨[],H,I,.nil,h⟩
theorem di (ha:PE X e te)(hr:PA X es t)(hs:starEach (e::es) X.env=(false,eval e X.env)::starEach es X.env:=by rfl):PA X (e::es) (Jj te t):=by
 intro pos pins s σ H Q I h
 rw [hs]
 show wpAny _ _ (spliced ((false,eval e X.env)::backTo pos (starEach es X.env))) _ _ s
 refine Calls.spliced_cons (bz (ha pins s σ H _ I h) fun u s1 ⟨x,H1,I1,r1,q1⟩=>?_)
 exact bz (hr pos pins s1 σ H1 _ I1 q1) fun us s2 ⟨xs,H2,I2,r2,q2⟩=>⟨x::xs,H2,I2,.cons r1 r2,q2⟩
def Ld (t:TA):TE:=fun σ H Q=>t σ H fun xs H1=>xs.length<=sizeLine/\∀p,H1 p=none->Q (.ref p) (upd H1 p (.tup xs))
def Li (t:TA):TE:=fun σ H Q=>t σ H fun xs H1=>xs.length<=sizeLine/\∀p,H1 p=none->Q (.ref p) (upd H1 p (.lst xs))
theorem GC {x1}(h:PA X es t):PE X (.Tuple es x1 pos) (Ld t):=by
 intro pins s σ H Q I hq
 refine wpAny_Tuple_spliced (bz (h pos pins s σ H _ I hq) fun us s1 ⟨xs,H1,I1,r,z,q⟩=>⟨by rw [<- r.length];exact z,?_⟩)
 have hf:H1 s1.heap.objs.size=none:=I1.hok.fresh (tqg _)
 refine ⟨.ref s1.heap.objs.size,upd H1 s1.heap.objs.size (.tup xs),I1.laid (t':=s1.toks) (fun b u e=>tqc _ e) (tqg _) ?_,rfl,q _ hf⟩
 exact ⟨z,us,r,⟨_,tqe _ rfl,rfl,_,rfl⟩⟩
theorem GJ (h:PA X es t):PE X (.List es pos) (Li t):=by
 intro pins s σ H Q I hq
 refine wpAny_List_spliced (bz (h pos pins s σ H _ I hq) fun us s1 ⟨xs,H1,I1,r,z,q⟩=>⟨by rw [<- r.length];exact z,?_⟩)
 have hf:H1 s1.heap.objs.size=none:=I1.hok.fresh (tqg _)
 refine ⟨.ref s1.heap.objs.size,upd H1 s1.heap.objs.size (.lst xs),I1.laid (t':=s1.toks) (fun b u e=>tqc _ e) (tqg _) ?_,rfl,q _ hf⟩
 exact ⟨z,us,0,r,tqe _ rfl⟩
end
abbrev Sp:=List V->Hp->VK->XK->Prop
abbrev ph:=List Env->Hp->Shared->XK->Value->Shared->Prop
structure pW (P:Program) (w:World) (K:PySem.W.Frag) (mg:Str->Option Value) (base:Heap) (A:Around) (outer:List Env) (s:Shared) (H:Hp):Prop where
 frames:A.frames=some outer
 mod:Mod K mg base
 bs:∀b o,base.get? b=some o->s.heap.get? b=some o/\H b=none
 bsz:base.objs.size<=s.heap.objs.size
 funs:s.heap.FunFrames base outer
 frf:∀b∈g7 outer,H b=none
 hok:fF P w H s.heap
 bare:AllBare s.gens
def CE (outer:List Env)(P:Program)(w:World)(H:Hp)(s:Shared)(Q:VK)(u:Value)(s':Shared):Prop:=
 ∃v H',s'.os=s.os/\AllBare s'.gens/\Un (g7 outer) [] H H' s.heap s'.heap/\fF P w H' s'.heap/\RelV v u/\Q v H'
def CR (CX:ph)(outer:List Env)(P:Program)(w:World)(H:Hp)(s:Shared)(Q:VK)(E:XK)(r:Result)(s':Shared):Prop:=
 match r with
 |.ok (.ret u)=>CE outer P w H s Q u s'
 |.ok _=>False
 |.error e=>CX outer H s E e s'
structure lX (P:Program) (w:World) (K:PySem.W.Frag) (mg:Str->Option Value) (base:Heap) (CX:ph) (k:Nat) (f:Addr) (fd:FuncData) (ps:List Str) (sp:Sp):Prop where
 len:∀vs H Q E,sp vs H Q E->vs.length=ps.length
 run:∀(A:Around) (outer:List Env) (s:Shared) (H:Hp) (args:Args) (us:List Value) (vs:List V) (Q:VK) (E:XK),cU k A->pW P w K mg base A outer s H->BindsTo s fd args (ps.zip us)->Vals vs us->sp vs H Q E->
  codeAny (model P w) A (.call (.ref f) args) (CR CX outer P w H s Q E) s
theorem pW.make {P:Program}{w:World}{K:PySem.W.Frag}{mg:Str->Option Value}{base:Heap}{A:Around}{outer:List Env}{s:Shared}{H:Hp}(e:pW P w K mg base A outer s H)(C:Addr)(us:List Value)(kw:List (Str×Value)) :
 pW P w K mg base (A.under (.builtin "type.__call__" ⟨.ref C::us,kw⟩)) outer s H:=⟨by first|exact e.frames|(simpa [Around.under,Code.envs,Code.isFrame,pushEnvs] using e.frames),e.mod,e.bs,e.bsz,e.funs,e.frf,e.hok,e.bare⟩
section
variable {X:Cx}{pins:List (Addr×Obj)}{σ:St}{H:Hp}{s s':Shared}
theorem Inv.env0 (I:Inv X pins σ H s):pW X.prog X.w X.K X.mg X.base X.A X.stack s H:=
 ⟨I.ok.frames,I.ok.mod,I.bs,tqh I.ok.bsz I.sz,I.stack,I.stkFree,I.hok,I.bare⟩
theorem Inv.after {Q:VK}{u:Value}(I:Inv X pins σ H s)(h:CE X.stack X.prog X.w H s Q u s'):EP X pins σ Q u s':=by
 obtain ⟨v,H',os,bare,un,hok,r,q⟩:=h
 obtain ⟨hh,g,d,t,os'⟩:=s'
 obtain rfl:os'=s.os:=os
 exact ⟨v,H',I.call (h':=hh) (g':=g) (d':=d) (t':=t) (ch:=[]) un hok bare (fun b z=>absurd z (by simp)),r,q⟩
end
def C7 (sp:Sp)(dvs:List V)(E:XK)(t:TA):TE:=fun σ H Q=>t σ H fun vs H1=>sp (vs++dvs) H1 Q E
def Binds (K:PySem.W.Frag)(fd:FuncData)(ps:List Str)(ds:List Value):Prop:=
 ∀(s:Shared) (us:List Value),K.In s.heap->(us++ds).length=ps.length->BindsTo s fd ⟨us,[]⟩ (ps.zip (us++ds))
theorem Binds.all {K:PySem.W.Frag}{fd:FuncData}{ps:List Str}(h:∀us:List Value,us.length=ps.length->bindArgs fd ⟨us,[]⟩=pure (ps.zip us)):Binds K fd ps []:=fun s us _ hl=>by
 rw [List.append_nil] at hl ⊢
 exact .of_eq (h us hl)
def Passes (CX:ph)(X:Cx)(E:XK):Prop:=∀(pins:List (Addr×Obj)) (σ:St) (H:Hp) (s:Shared) (e:Value) (s':Shared),Inv X pins σ H s->CX X.stack H s E e s'->X.xe e s'
section
variable {X:Cx}{CX:ph}{k:Nat}{f C:Addr}{fd:FuncData}{ps:List Str}{sp:Sp}{dvs:List V}{ds:List Value}{E:XK}{x m:Str}{p pos apos:Pos}{e o:Expr}{es:List Expr}{ta:TE}{t:TA}
theorem zU {pins:List (Addr×Obj)}{σ:St}{H:Hp}{s:Shared}{Q:VK}{us:List Value}{vs:List V}(F:lX X.prog X.w X.K X.mg X.base CX k f fd ps sp)(hr:cU k X.A)(hb:Binds X.K fd ps ds)(hd:Vals dvs ds)(hx:Passes CX X E)
 (I:Inv X pins σ H s) (r:Vals vs us) (h:sp (vs++dvs) H Q E):wpAny (model X.prog X.w) X.A (call (.ref f) us) (EP X pins σ Q) X.xe s:=by
 have r2:Vals (vs++dvs) (us++ds):=r.append hd
 have hl:(us++ds).length=ps.length:=by rw [<- r2.length];exact F.len _ _ _ _ h
 refine wpAny_call (codeAny_mono (F.run X.A X.stack s H ⟨us,[]⟩ (us++ds) (vs++dvs) Q E hr I.env0 (hb s us I.kIn hl) r2 h) fun r s' hq=>?_)
 cases r with
 |error e=>exact hx pins σ H s e s' I hq
 | ok fl =>
   cases fl with
   |ret u=>exact I.after hq
   |next=>exact False.elim hq
   |brk=>exact False.elim hq
   |cont=>exact False.elim hq
theorem Ep (F:lX X.prog X.w X.K X.mg X.base CX k f fd ps sp)(hr:cU k X.A)(hg:Gl X x)(hm:X.mg x=some (.ref f))(hk:PySem.W.keepIn X.K (.ref f)=true)(hb:Binds X.K fd ps ds)(hd:Vals dvs ds)(hx:Passes CX X E)
 (ha:PA X (e::es) t) (hdb:(x==("__debug__":Str))=false:=by decide) (he:starEach (e::es) X.env=(false,eval e X.env)::starEach es X.env:=by rfl) (hpl:(backTo pos (starEach es X.env)).any (·.1)=false:=by rfl) :
 PE X (.Call (.Name x p) (e::es) [] pos) (C7 sp dvs E t):=by
 intro pins s σ H Q I h
 refine wpAny_Call_Name_kw (jC I hg hm ?_ hdb)
 refine PySem.W.callWith_K (h₀:=X.base) I.ok.mod.kin hk (bz (ha pos pins s σ H _ I h) fun us s1 ⟨vs,H1,I1,r,q⟩=>⟨I1.kIn,?_⟩) he hpl
 exact zU F hr hb hd hx I1 r q
end
structure iq (N P:List Str) (sc:Scope):Prop where
 kind:sc.kind=.function
 co:sc.isCoroutine=false
 gen:sc.isGenerator=false
 nd:N.Nodup
 pre:N.take P.length=P
 par:∀x∈P,sc.names.lookup x=some .local\/sc.names.lookup x=some .cell
 nofree:∀y∈sc.names,y.2≠.free
theorem tu {kindOf:Str->Option NameKind}{x:Str}:∀{binds:List (Str×Value)}{m:Str->Option Value},(∀v,(x,v)∉binds)->bindL kindOf binds m x=m x
 |[],_,_=>rfl
 | (n, v) :: r, m, h => by
   unfold bindL
   rw [tu fun w hw=>h w (List.mem_cons_of_mem _ hw)]
   split
   ·have:x≠n:=by rintro rfl;exact h v List.mem_cons_self
    simp [this]
   ·rfl
theorem tx {kindOf:Str->Option NameKind}{x:Str}:∀{binds:List (Str×Value)}{m:Str->Option Value},(∀v,(x,v)∉binds)->bindC kindOf binds m x=m x
 |[],_,_=>rfl
 | (n, v) :: r, m, h => by
   unfold bindC
   rw [tx fun w hw=>h w (List.mem_cons_of_mem _ hw)]
   split
   ·rfl
   ·have:x≠n:=by rintro rfl;exact h v List.mem_cons_self
    simp [this]
theorem tw {kindOf:Str->Option NameKind}{x:Str}{v:Value}:∀{P:List Str}{vs:List Value}{i:Nat}{m:Str->Option Value},P.Nodup->P[i]?=some x->vs[i]?=some v->kindOf x=some .local->
 bindL kindOf (P.zip vs) m x=some v
 |[],_,_,_,_,h,_,_=>by simp at h
 |_::_,[],_,_,_,_,h,_=>by simp at h
 | p :: P, w :: vs, 0, m, nd, h1, h2, hk => by
   simp at h1 h2;subst h1;subst h2
   show bindL kindOf ((p,w)::P.zip vs) m p=_
   unfold bindL
   rw [tu fun v hv=>(List.nodup_cons.mp nd).1 (List.of_mem_zip hv).1,if_pos hk]
   simp
 | p :: P, w :: vs, i + 1, m, nd, h1, h2, hk => by
   show bindL kindOf ((p,w)::P.zip vs) m x=_
   unfold bindL
   exact tw (i:=i) (List.nodup_cons.mp nd).2 (by simpa using h1) (by simpa using h2) hk
theorem tB {kindOf:Str->Option NameKind}{x:Str}{v:Value}:∀{P:List Str}{vs:List Value}{i:Nat}{m:Str->Option Value},P.Nodup->P[i]?=some x->vs[i]?=some v->kindOf x≠some .local->
 bindC kindOf (P.zip vs) m x=some v
 |[],_,_,_,_,h,_,_=>by simp at h
 |_::_,[],_,_,_,_,h,_=>by simp at h
 | p :: P, w :: vs, 0, m, nd, h1, h2, hk => by
   simp at h1 h2;subst h1;subst h2
   show bindC kindOf ((p,w)::P.zip vs) m p=_
   unfold bindC
   rw [tx fun v hv=>(List.nodup_cons.mp nd).1 (List.of_mem_zip hv).1,if_neg hk]
   simp
 | p :: P, w :: vs, i + 1, m, nd, h1, h2, hk => by
   show bindC kindOf ((p,w)::P.zip vs) m x=_
   unfold bindC
   exact tB (i:=i) (List.nodup_cons.mp nd).2 (by simpa using h1) (by simpa using h2) hk
def start (N:List Str)(vs:List V):St:=vs.map some++List.replicate (N.length-vs.length) none
def gQ (CX:ph)(P:Program)(w:World)(K:PySem.W.Frag)(mg:Str->Option Value)(base:Heap)(N:List Str)(qual:Str)(scope:Scope)(f:Addr)(cd:Value)(A:Around)(outer:List Env)(s:Shared)(H:Hp)(E:XK):Cx where
 prog:=P
 w:=w
 K:=K
 mg:=mg
 base:=base
 A:=A.deeper (envOfC qual scope s.heap.objs.size f cd)
 N:=N
 s₀:=s
 H₀:=H
 env:=envOfC qual scope s.heap.objs.size f cd
 outer:=outer
 stack:=envOfC qual scope s.heap.objs.size f cd::outer
 ex:=[]
 calm:=true
 fn:=fun _=>true
 pn:=[]
 xe:=fun e s'=>wpAny (model P w) (A.deeper (envOfC qual scope s.heap.objs.size f cd)) (leaving (envOfC qual scope s.heap.objs.size f cd) e) (fun _ s''=>CX outer H s E e s'') (fun e' s''=>CX outer H s E e' s'') s'
theorem vO {sc:Scope}{n:Nat}{x:Str}(h:sc.names.lookup x=some .cell):∃c,(cellsFrom n sc.names []).lookup x=some c:=by
 have q:=PySem.W.cellsFrom_some sc.names n [] (.inl h)
 exact Option.isSome_iff_exists.mp q
theorem AF {CX:ph}{P:Program}{w:World}{K:PySem.W.Frag}{mg:Str->Option Value}{base:Heap}{N ps:List Str}{qual:Str}{scope:Scope}{f:Addr}{cd:Value}{A:Around}{outer:List Env}{s s1:Shared}{H:Hp}{E:XK}{us:List Value}{vs:List V}
 (S:iq N ps scope) (hd:A.handled=none) (e0:pW P w K mg base A outer s H) (hl:vs.length=ps.length) (r:Vals vs us)
 (x:InCallC s s.heap.objs.size (bindL (envOfC qual scope s.heap.objs.size f cd).kindOf (ps.zip us) fun _=>none) (cellsFrom (s.heap.objs.size+1) scope.names []) (bindC (envOfC qual scope s.heap.objs.size f cd).kindOf (ps.zip us) fun _=>none) s1) :
 Inv (gQ CX P w K mg base N qual scope f cd A outer s H E) [] (start N vs) H s1:=by
 have hpl:ps.length<=N.length:=by have:=congrArg List.length S.pre;rw [List.length_take] at this;omega
 obtain ⟨h1,tk,rfl,hk⟩:=x.done
 have noA:∀b:Addr,b∉(gQ CX P w K mg base N qual scope f cd A outer s H E).ex:=fun b z=>absurd (show b∈([]:List Addr) from z) (by simp)
 refine ⟨⟨e0.mod,S.kind,rfl,rfl,tqg _,fun y z c h1 h2=>?_,fun y hy=>?_,fun y c _ h=>?_,fun _=>hd,Around.frames_deeper e0.frames,.inr ⟨rfl,rfl⟩,fun b z=>absurd z (noA b),e0.bs,e0.bsz,fun b _ _=>noA b,fun b z=>absurd z (noA b),e0.funs,e0.frf⟩,
  rfl,e0.bare,Un.kept hk,⟨_,x.toInCall.ns,fun i y v h1 h2 h3=>?_⟩,fun y c h=>⟨_,x.cell y c h⟩,e0.hok.fresh (tqg _),fun y c h=>?_,fun p hp=>absurd (show p∈([]:List (Addr×Obj)) from hp) (by simp),e0.hok.kept hk,?_⟩
 ·exact name_of_addr x.apart (PySem.mem_of_lookup h1) (PySem.mem_of_lookup h2)
 ·have hy:scope.names.lookup y=some .cell\/scope.names.lookup y=some .free:=hy
  rcases hy with hy|hy
  ·exact vO hy
  ·exact absurd rfl (S.nofree _ (PySem.mem_of_lookup hy))
 ·exact Nat.le_of_lt (x.above y c (PySem.mem_of_lookup h))
 ·have hi:i<vs.length:=by
   unfold start at h2
   by_cases hi:i<vs.length
   ·exact hi
   ·rw [List.getElem?_append_right (by simpa using hi)] at h2
    rw [List.getElem?_replicate] at h2
    split at h2<;>cases h2
  have ha:vs[i]?=some v:=by
   unfold start at h2
   rw [List.getElem?_append_left (by simpa using hi),List.getElem?_map] at h2
   cases e:vs[i]? with
   |none=>rw [e] at h2;cases h2
   |some a=>rw [e] at h2;cases h2;rfl
  obtain ⟨u,hu,rv⟩:=r.get ha
  have hp:ps[i]?=some y:=by
   rw [<- S.pre,List.getElem?_take_of_lt (by omega)];exact h1
  have ndP:ps.Nodup:=by rw [<- S.pre];exact S.nd.sublist (List.take_sublist _ _)
  refine ⟨u,rv,?_⟩
  rcases S.par y (List.mem_of_getElem? hp) with k|k
  ·exact .inl ⟨k,tw ndP hp hu k⟩
  ·obtain ⟨c,e⟩:=vO (n:=s.heap.objs.size+1) k
   refine .inr ⟨.inl k,c,e,?_⟩
   have q:=x.cell y c e
   rw [tB ndP hp hu (by show scope.names.lookup y≠_;rw [k];decide)] at q
   exact q
 ·exact e0.hok.fresh (Nat.le_of_lt (x.above y c (PySem.mem_of_lookup h)))
 ·unfold start
  show _=N.length
  rw [List.length_append,List.length_map,List.length_replicate]
  omega
theorem JU {CX:ph}{P:Program}{w:World}{K:PySem.W.Frag}{mg:Str->Option Value}{base:Heap}{k:Nat}{f:Addr}{name qual:Str}{params:Arguments}{body:List Stmt}{scope:Scope}{dV kV doc pm cdv ct oc:Value}{an od:Option Addr}
 {osl:Array (Option Value)}{N ps:List Str}{sp:Sp} (lk:K.lookup f=some ⟨oc,od,.func (PySem.W.fnOf name qual params body scope dV kV doc pm an cdv ct),osl⟩) (hcd:PySem.W.codeIn K cdv qual=true) (S:iq N ps scope)
 (len:∀vs H Q E,sp vs H Q E->vs.length=ps.length)
 (hbody:∀(A:Around) (outer:List Env) (s:Shared) (H:Hp) (vs:List V) (Q:VK) (E:XK),cU k (A.deeper (envOfC qual scope s.heap.objs.size f cdv))->sp vs H Q E->
  ∃t,oa (gQ CX P w K mg base N qual scope f cdv A outer s H E) body t/\t {nx:=fun _ H'=>Q .non H',rt:=Q} (start N vs) H) :
 lX P w K mg base CX (k+1) f (PySem.W.fnOf name qual params body scope dV kV doc pm an cdv ct) ps sp:=by
 refine ⟨len,fun A outer s H args us vs Q E hr e0 hb r hsp=>?_⟩
 have hl:=len _ _ _ _ hsp
 have KX:K.In s.heap:=e0.mod.kin.keeps fun b o e=>(e0.bs b o e).1
 have lim:s.heap.NoLimit:=e0.mod.nolimit.keeps fun b o e=>(e0.bs b o e).1
 have hkind:∀y∈ps.zip us,scope.names.lookup y.1=some .local\/(scope.names.lookup y.1=some .cell/\((cellsFrom (s.heap.objs.size+1) scope.names []).lookup y.1).isSome=true):=fun ⟨n,v⟩ hy=>by
  rcases S.par n (List.of_mem_zip hy).1 with q|q
  ·exact .inl q
  ·exact .inr ⟨q,PySem.W.cellsFrom_some _ _ _ (.inl q)⟩
 refine codeAny_call_function hr.depth (KX _ _ lk) rfl S.co S.gen rfl (PySem.W.codeRec_of KX hcd) (hb _ _ _ _ ?_)
 refine wpAny_newFunctionEnv_cells S.kind hkind fun env he s1 x=>?_
 subst he
 refine ⟨lim.keeps x.toInCall.keep,codeAny_func ?_⟩
 obtain ⟨t,ht,hq⟩:=hbody A outer s H vs Q E (hr.deeper _) hsp
 have I:Inv (gQ CX P w K mg base N qual scope f cdv A outer s H E) [] (start N vs) H s1:=AF S hr.hd e0 hl r x
 refine wpAny_mono (ht [] s1 (start N vs) H _ I hq) (fun fl s' hs=>?_) fun e s' hs=>hs
 have fin:∀{σ':St}{H':Hp}{v:V}{u:Value},Inv (gQ CX P w K mg base N qual scope f cdv A outer s H E) [] σ' H' s'->RelV v u->Q v H'->CE outer P w H s Q u s':=
  fun {σ' H' v u} J rv q=>⟨v,H',J.os,J.bare,J.base,J.hok,rv,q⟩
 cases fl with
 | ret u =>
   obtain ⟨v,σ',H',J,rv,q⟩:=hs
   exact fin J rv q
 | next =>
   obtain ⟨σ',H',J,q⟩:=hs
   exact fin (v:=V.non) (u:=Value.none) J rfl q
 | brk =>
   obtain ⟨_,_,_,q⟩:=hs
   exact False.elim q
 | cont =>
   obtain ⟨_,_,_,q⟩:=hs
   exact False.elim q
end L2
namespace L2
open PySem PySem.Spec PyProof.Rows
section
variable {X:Cx}{x:Str}{p pos:Pos}{e:Expr}{es:List Expr}{t:TA}{id T:String}{r:List V->Hp->VK->Prop}
def Kw (r:List V->Hp->VK->Prop)(t:TA):TE:=fun σ H Q=>t σ H fun vs H1=>r vs H1 Q
theorem mQ (hc:dN X (.builtin id) r)(hg:Gl X x)(hm:X.mg x=none)(hv:bootBuiltins x=some (.builtin id))(ha:PA X (e::es) t)(hn:x≠"__name__":=by decide)(hdb:(x==("__debug__":Str))=false:=by decide)
 (he:starEach (e::es) X.env=(false,eval e X.env)::starEach es X.env:=by rfl) (hpl:(backTo pos (starEach es X.env)).any (·.1)=false:=by rfl):PE X (.Call (.Name x p) (e::es) [] pos) (Kw r t):=by
 intro pins s σ H Q I h
 refine wpAny_Call_Name_kw (jP I hg hm hv ?_ hn hdb)
 exact PyProof.Rows.callWith_builtin1 (bz (ha pos pins s σ H _ I h) fun us s1 ⟨vs,H1,I1,r1,q1⟩=>hc pins s1 σ H1 vs us Q I1 r1 q1) he hpl
theorem Ab (hc:dN X (.type T) r)(hg:Gl X x)(hm:X.mg x=none)(hv:bootBuiltins x=some (.type T))(ha:PA X (e::es) t)(hn:x≠"__name__":=by decide)(hdb:(x==("__debug__":Str))=false:=by decide)
 (he:starEach (e::es) X.env=(false,eval e X.env)::starEach es X.env:=by rfl) (hpl:(backTo pos (starEach es X.env)).any (·.1)=false:=by rfl):PE X (.Call (.Name x p) (e::es) [] pos) (Kw r t):=by
 intro pins s σ H Q I h
 refine wpAny_Call_Name_kw (jP I hg hm hv ?_ hn hdb)
 exact PyProof.Rows.callWith_type1 (bz (ha pos pins s σ H _ I h) fun us s1 ⟨vs,H1,I1,r1,q1⟩=>hc pins s1 σ H1 vs us Q I1 r1 q1) he hpl
end
end L2
namespace HT
open PySem PyProof.Rows
section
variable {prog:Program}{w:World}{A:Around}{E:Value->Shared->Prop}{s:Shared}
theorem Fi {t b:Addr}{vs ws:List Value}{Q:Value->Shared->Prop}(ht:IsTup s.heap t vs.toArray)(hb:IsTup s.heap b ws.toArray)(hv:vs≠[])
 (h1:ws=[]->Q (.ref t) s) (h2:ws≠[]->Q (.ref s.heap.objs.size) {s with heap:=s.heap.push {cls:=.type "tuple",data:=.seq (vs++ws).toArray}})
 (hsz:vs.length+ws.length<=sizeLine):wpAny (model prog w) A (binaryOp .Add (.ref t) (.ref b)) Q E s:=by
 obtain ⟨⟨cls,dd,data,sl⟩,ho,hc,n,hd⟩:=id ht
 obtain ⟨⟨cls2,dd2,data2,sl2⟩,ho2,hc2,n2,hd2⟩:=id hb
 simp only at hc hd hc2 hd2
 subst hc hd hc2 hd2
 have e:vs.toArray++ws.toArray=(vs++ws).toArray:=by simp
 by_cases hw:ws=[]
 ·exact concat_meets ⟨_,ho,rfl⟩ ⟨_,ho2,rfl⟩ noFill_tuple_add seq_tuple_add PySem.F.slot_tuple_add PySem.F.entry_tuple_add (PySem.F.args_tuple_add_2 _ _)
   (tuple_addW1 t b vs.toArray ws.toArray n n2 dd dd2 sl sl2 (by simpa using hv) (by simp [hw])) ⟨ho,ho2,h1 hw⟩
 ·refine concat_meets ⟨_,ho,rfl⟩ ⟨_,ho2,rfl⟩ noFill_tuple_add seq_tuple_add PySem.F.slot_tuple_add PySem.F.entry_tuple_add (PySem.F.args_tuple_add_2 _ _)
   (tuple_addW2 t b vs.toArray ws.toArray n n2 dd dd2 sl sl2 (by simpa using hv) (by simpa using hw) (by rw [List.size_toArray,List.size_toArray];exact hsz)) ⟨ho,ho2,?_⟩
  rw [e]
  exact h2 hw
def a9 (n d:Nat):Option Int->Nat
 |none=>d
 |some v=>if v<0 then (v+(n:Int)).toNat else min v.toNat n
theorem FZ (n d:Nat)(hd:d<=n)(o:Option Int):a9 n d o<=n:=by
 cases o with
 |none=>exact hd
 | some v =>
   show (if v<0 then (v+(n:Int)).toNat else min v.toNat n)<=n
   by_cases hv:v<0
   ·rw [if_pos hv];omega
   ·rw [if_neg hv];exact Nat.min_le_right _ _
theorem xC (v:Int)(n d:Nat):(if v<0 then max (v+(n:Int)) 0 else min v (n:Int))=((a9 n d (some v):Nat):Int):=by
 show (if v<0 then max (v+(n:Int)) 0 else min v (n:Int))=(((if v<0 then (v+(n:Int)).toNat else min v.toNat n):Nat):Int)
 by_cases hv:v<0
 ·simp only [if_pos hv];omega
 ·simp only [if_neg hv];omega
theorem yV (lo hi:Option Int)(n:Nat):Builtin.Slice.sliceAdjust lo hi 1 (n:Int)=(((a9 n 0 lo:Nat):Int),((a9 n n hi:Nat):Int)):=by
 have h1:¬ ((1:Int)<0):=by omega
 unfold Builtin.Slice.sliceAdjust
 simp only [h1,if_false]
 refine Prod.ext ?_ ?_
 ·cases lo with
  |none=>rfl
  |some v=>exact xC v n 0
 ·cases hi with
  |none=>rfl
  |some v=>exact xC v n n
theorem xS (i j:Nat):Builtin.Slice.slicePlaces (i:Int) (j:Int) 1=j-i:=by
 unfold Builtin.Slice.slicePlaces
 have h1:(1:Int) > 0:=by omega
 simp only [h1,if_true,Int.ediv_one]
 split<;>omega
theorem qg {v:Value}{o:Option Int}{Q:Option Int->Shared->Prop}(p:IsPart v o)(h:Q o s):wpAny (model prog w) A (Builtin.Slice.slicePartIndex v) Q E s:=by
 cases p with
 |none=>exact slicePart_none h
 |int i t=>exact slicePart_int h
theorem kT {sl:Addr}{vl vu:Value}{lo hi:Option Int}{n:Nat}{Q:Int×Int×Nat->Shared->Prop}(hs:s.heap.IsSliceOf sl vl vu .none)(pl:IsPart vl lo)(pu:IsPart vu hi)
 (h:Q (((a9 n 0 lo:Nat):Int),1,a9 n n hi-a9 n 0 lo) s):wpAny (model prog w) A (Builtin.Slice.sliceApplied (.ref sl) (pure (n:Int))) Q E s:=by
 obtain ⟨os,hos,hcs,hds⟩:=id hs
 unfold Builtin.Slice.sliceApplied Builtin.Slice.sliceFields
 refine tqa (tqa (tqf hos hds (x:=vl) rfl (tqa (tqf hos hds (x:=vu) rfl (tqa (tqf hos hds (x:=.none) rfl (tqb ?_)))))))
 refine tqa (slicePart_none ?_)
 show wpAny _ _ (if ((1:Int)==0)=true then _ else _) _ _ s
 rw [if_neg (by decide)]
 refine tqa (qg pl (tqa (qg pu (tqa (tqb ?_)))))
 show wpAny _ _ (match Builtin.Slice.sliceAdjust lo hi 1 (n:Int) with|(lo,hi)=>pure (lo,(1:Int),Builtin.Slice.slicePlaces lo hi 1)) _ _ s
 rw [yV lo hi n]
 show wpAny _ _ (pure (((a9 n 0 lo:Nat):Int),(1:Int),Builtin.Slice.slicePlaces ((a9 n 0 lo:Nat):Int) ((a9 n n hi:Nat):Int) 1)) _ _ s
 rw [xS]
 exact tqb h
theorem BX (xs:Array Value)(i k:Nat):((List.range k).filterMap fun (m:Nat)=>xs[((i:Int)+(m:Int)*1).toNat]?).toArray=((xs.toList.drop i).take k).toArray:=by
 have e:(fun (m:Nat)=>xs[((i:Int)+(m:Int)*1).toNat]?)=fun m=>xs[i+m]?:=by
  funext m
  have:((i:Int)+(m:Int)*1).toNat=i+m:=by omega
  rw [this]
 rw [e]
 have:=pick_run xs i k
 rw [List.filterMap_map] at this
 have e2:((fun x=>xs[x]?)∘fun x=>i+x)=fun m=>xs[i+m]?:=rfl
 rw [e2] at this
 rw [this]
theorem oY {t sl:Addr}{items:Array Value}{vl vu:Value}{lo hi:Option Int}{Q:Value->Shared->Prop}(ht:IsTup s.heap t items)(hs:s.heap.IsSliceOf sl vl vu .none)(pl:IsPart vl lo)(pu:IsPart vu hi)
 (hw:¬ (a9 items.size 0 lo=0/\a9 items.size items.size hi=items.size))
 (h:Q (.ref s.heap.objs.size) {s with heap:=s.heap.push {cls:=.type "tuple",data:=.seq ((items.toList.drop (a9 items.size 0 lo)).take (a9 items.size items.size hi-a9 items.size 0 lo)).toArray}})
 (hsz:items.size<=sizeLine):wpAny (model prog w) A (getItem (.ref t) (.ref sl)) Q E s:=by
 have htake:sizeOk (.seq ((items.toList.drop (a9 items.size 0 lo)).take (a9 items.size items.size hi-a9 items.size 0 lo)).toArray):=by
  show ((items.toList.drop (a9 items.size 0 lo)).take (a9 items.size items.size hi-a9 items.size 0 lo)).toArray.size<=sizeLine
  rw [List.size_toArray,List.length_take,List.length_drop,Array.length_toList]
  omega
 have hj:a9 items.size items.size hi<=items.size:=FZ _ _ (tqg _) hi
 obtain ⟨os,hos,hcs,hds⟩:=id hs
 have hTs:s.TypeIs (.ref sl) "slice":=⟨os,hos,hcs⟩
 unfold getItem
 try with_reducible refine tqo ?_
 first|refine tqa (tqb ?_)|skip
 refine tqa (wpAny_sequenceKey ht.typeIs (by decide) ?_)
 refine tqa (wpAny_callSpecial?_slot (name:=Str.ofString "__getitem__") ht.typeIs PyProof.Rows.slot_tuple_getitem
  (wpAny_call_entry PyProof.Rows.slot_tuple_getitem ht.typeIs entry_tuple_getitem ?_ (args_tuple_getitem _ _)))
 show wpAny _ _ (Builtin.Tuple.tupleItemsOf (.ref t) >>= _) _ _ s
 refine tqa (tupleItemsOf_ ht ?_)
 refine tqa (wpAny_typeOf hTs ?_)
 rw [if_pos (by decide)]
 refine tqa (kT hs pl pu ?_)
 have hno:¬ ((((a9 items.size 0 lo:Nat):Int)==0&&(1:Int)==1&&(a9 items.size items.size hi-a9 items.size 0 lo)==items.size)=true):=by
  intro q
  rw [Bool.and_eq_true,Bool.and_eq_true] at q
  have q1:((a9 items.size 0 lo:Nat):Int)=0:=eq_of_beq q.1.1
  have q2:a9 items.size items.size hi-a9 items.size 0 lo=items.size:=eq_of_beq q.2
  exact hw ⟨by omega,by omega⟩
 show wpAny _ _ (if (((a9 items.size 0 lo:Nat):Int)==0&&(1:Int)==1&&(a9 items.size items.size hi-a9 items.size 0 lo)==items.size)=true then _ else _) _ _ s
 rw [if_neg hno,BX]
 first
  |exact tqa (m:=Builtin.Tuple.tupleExact _) (wpAny_newObj_type (tqb ⟨_,rfl,tqb h⟩) htake)
  |exact tqa (m:=Builtin.Tuple.tupleExact _) (wpAny_newObj_type (tqa (tqb (tqb ⟨_,rfl,tqb h⟩))) htake)
  |exact tqa (tqa (m:=Builtin.Tuple.tupleExact _) (wpAny_newObj_type (tqb (tqb ⟨_,rfl,tqb h⟩)) htake))
  |exact tqa (tqa (m:=Builtin.Tuple.tupleExact _) (wpAny_newObj_type (tqb ⟨_,rfl,tqb h⟩) htake))
end
end HT
namespace L2
open PySem PySem.Spec PyProof.Rows
abbrev TO:=St->Hp->(Option Int->Hp->Prop)->Prop
def PO (X:Cx)(e:Option Expr)(t:TO):Prop:=
 ∀(pins:List (Addr×Obj)) (s:Shared) (σ:St) (H:Hp) (Q:Option Int->Hp->Prop),Inv X pins σ H s->t σ H Q->
  wpAny (model X.prog X.w) X.A (evalPart e X.env) (fun u s'=>∃o H',Inv X pins σ H' s'/\IsPart u o/\Q o H') X.xe s
def DP:TO:=fun _ H Q=>Q none H
def Jg (t:TE):TO:=fun σ H Q=>t σ H fun x H1=>∃i,x=.int i/\Q (some i) H1
section
variable {X:Cx}{e:Expr}{te:TE}{lo hi:Option Expr}{tl th:TO}{pos p2:Pos}
theorem El:PO X none DP:=by
 intro pins s σ H Q I h
 rw [evalPart_none]
 exact tqb ⟨none,H,I,.none,h⟩
theorem Ek (h:PE X e te):PO X (some e) (Jg te):=by
 intro pins s σ H Q I hw
 rw [evalPart_some]
 refine bz (h pins s σ H _ I hw) fun u s1 ⟨x,H1,I1,r1,q1⟩=>?_
 obtain ⟨i,rfl,q⟩:=q1
 obtain ⟨t,rfl⟩:=r1
 exact ⟨some i,H1,I1,.int i t,q⟩
def nt (X:Cx)(r:V->Option Int->Option Int->Hp->VK->Prop):Prop:=
 ∀(pins:List (Addr×Obj)) (s:Shared) (σ:St) (H:Hp) (x:V) (v vl vu:Value) (lo hi:Option Int) (sl:Addr) (Q:VK),Inv X pins σ H s->RelV x v->s.heap.IsSliceOf sl vl vu .none->IsPart vl lo->IsPart vu hi->r x lo hi H Q->
  ∃T id,typeLookup (.type T) "__getitem__"=pure (some (.builtin id))/\s.TypeIs v T/\wpAny (model X.prog X.w) X.A (getItem v (.ref sl)) (EP X pins σ Q) X.xe s
theorem nt.or {r r':V->Option Int->Option Int->Hp->VK->Prop}(h:nt X r)(h':nt X r'):nt X (fun x lo hi H Q=>r x lo hi H Q\/r' x lo hi H Q):=by
 intro pins s σ H x v vl vu lo hi sl Q I rx hs pl pu q
 rcases q with q|q
 ·exact h pins s σ H x v vl vu lo hi sl Q I rx hs pl pu q
 ·exact h' pins s σ H x v vl vu lo hi sl Q I rx hs pl pu q
def tSl (r:V->Option Int->Option Int->Hp->VK->Prop)(te:TE)(tl th:TO):TE:=fun σ H Q=>te σ H fun x H1=>tl σ H1 fun l H2=>th σ H2 fun u H3=>r x l u H3 Q
theorem u5 {r:V->Option Int->Option Int->Hp->VK->Prop}(hr:nt X r)(he:PE X e te)(hl:PO X lo tl)(hu:PO X hi th):PE X (.Subscript e (.Slice lo hi none p2) pos) (tSl r te tl th):=by
 intro pins s σ H Q I h
 refine Subscript_ (bz (he pins s σ H _ I h) fun v s1 ⟨x,H1,I1,r1,q1⟩=>?_)
 refine wpAny_Slice (bz (hl pins s1 σ H1 _ I1 q1) fun vl s2 ⟨l,H2,I2,pl,q2⟩=>bz (hu pins s2 σ H2 _ I2 q2) fun vu s3 ⟨u,H3,I3,pu,q3⟩=>?_)
 rw [evalPart_none]
 refine tqb ?_
 have I4:Inv X pins σ H3 {s3 with heap:=s3.heap.push {cls:=.type "slice",data:=.fields #[vl,vu,.none]}}:=I3.kept (t':=s3.toks) fun b ob q=>tqc _ q
 obtain ⟨T,id,hT,ht,hg⟩:=hr pins {s3 with heap:=s3.heap.push {cls:=.type "slice",data:=.fields #[vl,vu,.none]}} σ H3 x v vl vu l u s3.heap.objs.size Q I4 r1 (Heap.IsSliceOf.new ..) pl pu q3
 show wpAny (model X.prog X.w) X.A (subscriptTail e (.Slice lo hi none p2) v (.ref s3.heap.objs.size)) (EP X pins σ Q) X.xe {s3 with heap:=s3.heap.push {cls:=.type "slice",data:=.fields #[vl,vu,.none]}}
 exact tail_any (ops:=[.ref s3.heap.objs.size,v]) ht hT hg (by with_unfolding_all rfl)
def n4 (xs:List V)(lo hi:Option Int):List V:=(xs.drop (HT.a9 xs.length 0 lo)).take (HT.a9 xs.length xs.length hi-HT.a9 xs.length 0 lo)
theorem pb (xs:List V)(lo hi:Option Int):(n4 xs lo hi).length<=xs.length:=by
 unfold n4
 rw [List.length_take,List.length_drop]
 omega
def Gg (K:PySem.W.Frag):V->Option Int->Option Int->Hp->VK->Prop:=fun x lo hi H Q=>∃a xs,x=.ref a/\eD K H a xs/\
 ¬ (HT.a9 xs.length 0 lo=0/\HT.a9 xs.length xs.length hi=xs.length)/\∀p,H p=none->Q (.ref p) (upd H p (.tup (n4 xs lo hi)))
theorem FQ:nt X (Gg X.K):=by
 intro pins s σ H x v vl vu lo hi sl Q I rx hs pl pu h
 obtain ⟨a,xs,rfl,hx,hw,q⟩:=h
 cases rx
 obtain ⟨its,r,ht,hz⟩:=I.tuple hx
 have hlen:its.toArray.size=xs.length:=by rw [List.size_toArray];exact r.length.symm
 refine ⟨"tuple",_,PyProof.Rows.slot_tuple_getitem.lookup,ht.typeIs,?_⟩
 refine HT.oY ht hs pl pu (by rw [hlen];exact hw) ?_ (by rw [hlen];exact hz)
 rw [hlen]
 refine ⟨.ref s.heap.objs.size,_,I.laid (t':=s.toks) (o:=.tup (n4 xs lo hi)) (fun b ob q=>tqc _ q) (tqg _) ?_,rfl,q _ (I.hok.fresh (tqg _))⟩
 exact ⟨tqh (pb xs lo hi) hz,_,(r.drop (HT.a9 xs.length 0 lo)).take (HT.a9 xs.length xs.length hi-HT.a9 xs.length 0 lo),IsTup.new _ _⟩
def Ju (K:PySem.W.Frag):R2:=fun x y H Q=>∃a b xs ys,x=.ref a/\y=.ref b/\eD K H a xs/\eD K H b ys/\xs≠[]/\xs.length+ys.length<=sizeLine/\
 (ys=[]->Q (.ref a) H)/\(ys≠[]->∀p,H p=none->Q (.ref p) (upd H p (.tup (xs++ys))))
theorem Vals.nil_iff {xs:List V}{us:List Value}(r:Vals xs us):us=[]↔xs=[]:=by
 cases r with
 |nil=>simp
 |cons _ _=>simp
theorem Ey:cI X (binaryOp .Add) (Ju X.K):=by
 intro pins s σ H x y v u Q I rx ry h
 obtain ⟨a,b,xs,ys,rfl,rfl,ha,hb,hx,hz,q1,q2⟩:=h
 cases rx
 cases ry
 obtain ⟨its,r1,p1,_⟩:=I.tuple ha
 obtain ⟨its2,r2,p2,_⟩:=I.tuple hb
 refine HT.Fi p1 p2 (fun z=>hx (r1.nil_iff.mp z)) (fun z=>⟨.ref a,H,I,rfl,q1 (r2.nil_iff.mp z)⟩) (fun z=>?_) (by rw [<- r1.length,<- r2.length];exact hz)
 refine ⟨.ref s.heap.objs.size,_,I.laid (t':=s.toks) (o:=.tup (xs++ys)) (fun b ob q=>tqc _ q) (tqg _) ?_,rfl,q2 (fun w=>z (r2.nil_iff.mpr w)) _ (I.hok.fresh (tqg _))⟩
 exact ⟨by rw [List.length_append];exact hz,_,r1.append r2,IsTup.new _ _⟩
end
end L2
namespace L2
open PySem PySem.Spec PyProof.Rows
def cb (n:Nat)(i:Int):Option Nat:=if 0<=i then (if i<n then some i.toNat else none) else if -(n:Int)<=i then some (i+n).toNat else none
def tH {α:Type}(xs:List α)(i:Int):Option α:=(cb xs.length i).bind fun j=>xs[j]?
theorem xk {n:Nat}{i:Int}{j:Nat}(h:cb n i=some j):seqIndex? i n=some j/\j<n/\-(n:Int)<=i/\i<n:=by
 unfold cb at h
 by_cases h0:0<=i
 ·rw [if_pos h0] at h
  by_cases h1:i<n
  ·rw [if_pos h1] at h
   have e:i.toNat=j:=Option.some.inj h
   exact ⟨by rw [seqIndex_of h0 h1,e],by omega,by omega,h1⟩
  ·rw [if_neg h1] at h;cases h
 ·rw [if_neg h0] at h
  by_cases h1:-(n:Int)<=i
  ·rw [if_pos h1] at h
   have e:(i+n).toNat=j:=Option.some.inj h
   exact ⟨by rw [seqIndex_neg (by omega) h1,e],by omega,h1,by omega⟩
  ·rw [if_neg h1] at h;cases h
theorem sk {α:Type}{xs:List α}{i:Int}{v:α}(h:tH xs i=some v):∃j,seqIndex? i xs.length=some j/\xs[j]?=some v/\j<xs.length/\-(xs.length:Int)<=i/\i<xs.length:=by
 unfold tH at h
 cases e:cb xs.length i with
 |none=>rw [e] at h;cases h
 | some j =>
   rw [e] at h
   obtain ⟨h1,h2,h3,h4⟩:=xk e
   exact ⟨j,h1,h,h2,h3,h4⟩
def mv (b:Expr):Prop:=∀o i,subscripted b false o i=operate [o,i] (getItem o i)
def mw (X:Cx)(r:R2):Prop:=
 ∀(value slice:Expr) (pins:List (Addr×Obj)) (s:Shared) (σ:St) (H:Hp) (x y:V) (v u:Value) (Q:VK),Inv X pins σ H s->RelV x v->RelV y u->r x y H Q->
  subscripted slice false v u=operate [v,u] (getItem v u)->wpAny (model X.prog X.w) X.A (subscriptTail value slice v u) (EP X pins σ Q) X.xe s
def IV (X:Cx)(id:String)(r:V->List V->Hp->VK->Prop):Prop:=
 ∀(pins:List (Addr×Obj)) (s:Shared) (σ:St) (H:Hp) (x:V) (xs:List V) (v:Value) (us:List Value) (Q:VK),Inv X pins σ H s->RelV x v->Vals xs us->r x xs H Q->
  wpAny (model X.prog X.w) X.A (call (.builtin id) (v::us)) (EP X pins σ Q) X.xe s
section
variable {X:Cx}{a b:Expr}{ta tb:TE}{pos:Pos}
theorem mw.or {r r':R2}(h:mw X r)(h':mw X r'):mw X (fun x y H Q=>r x y H Q\/r' x y H Q):=by
 intro value slice pins s σ H x y v u Q I rx ry q hs
 rcases q with q|q
 ·exact h value slice pins s σ H x y v u Q I rx ry q hs
 ·exact h' value slice pins s σ H x y v u Q I rx ry q hs
theorem De {r:R2}(hr:mw X r)(ha:PE X a ta)(hb:PE X b tb)(hs:mv b):PE X (.Subscript a b pos) (zw r ta tb):=by
 intro pins s σ H Q I h
 exact Subscript_ (CP ha hb I h fun v u s2 x y H2 I2 rx ry q=>hr a b pins s2 σ H2 x y v u Q I2 rx ry q (hs _ _))
def Gm (K:PySem.W.Frag):R2:=fun x y H Q=>∃p xs i v,x=.ref p/\y=.int i/\dA K H p xs/\tH xs i=some v/\Q v H
def Gj (K:PySem.W.Frag):R2:=fun x y H Q=>∃p xs i v,x=.ref p/\y=.int i/\eD K H p xs/\tH xs i=some v/\Q v H
def Gk:R2:=fun x y H Q=>∃z i c,x=.str z/\y=.int i/\z.length<=sizeLine/\tH z.cps.toList i=some c/\Q (.str ⟨#[c]⟩) H
theorem EL:mw X (Gm X.K):=by
 intro value slice pins s σ H x y v u Q I rx ry h hs
 obtain ⟨p,xs,i,z,rfl,rfl,hq,he,q⟩:=h
 cases rx
 obtain ⟨t,rfl⟩:=ry
 obtain ⟨its,r,pl,hz⟩:=I.list hq
 obtain ⟨j,h1,h2,h3,h4,h5⟩:=sk he
 obtain ⟨w,ew,rw'⟩:=r.get h2
 have hl:=r.length
 have hn:=lj
 have fin:EP X pins σ Q w s:=⟨z,H,I,rw',q⟩
 by_cases h0:0<=i
 ·have hj:i.toNat=j:=by
   rw [seqIndex_of h0 h5] at h1
   exact Option.some.inj h1
  exact item_listR pl.isList h0 (by omega) (by rw [hj];simpa using ew) fin hs
 ·have hj:(i+(its.toArray.size:Int)).toNat=j:=by
   rw [seqIndex_neg (by omega) h4] at h1
   rw [List.size_toArray,<- hl]
   exact Option.some.inj h1
  exact subscriptTail_builtinR (x:=w) pl.isList.typeIs slot_list_getitem.lookup
   (wpAny_getItem_list_neg (Q:=fun r s'=>r=w/\EP X pins σ Q r s') pl.isList (by omega) (by rw [List.size_toArray]<;>omega) (by omega) (by rw [hj];simpa using ew) ⟨rfl,fin⟩) hs
theorem HW:mw X (Gj X.K):=by
 intro value slice pins s σ H x y v u Q I rx ry h hs
 obtain ⟨p,xs,i,z,rfl,rfl,hq,he,q⟩:=h
 cases rx
 obtain ⟨t,rfl⟩:=ry
 obtain ⟨its,r,pl,hz⟩:=I.tuple hq
 obtain ⟨j,h1,h2,h3,h4,h5⟩:=sk he
 obtain ⟨w,ew,rw'⟩:=r.get h2
 have hl:=r.length
 have hn:=lj
 have fin:EP X pins σ Q w s:=⟨z,H,I,rw',q⟩
 exact subscriptTail_builtinR (x:=w) pl.typeIs slot_tuple_getitem.lookup
  (getItem_tuple (j:=j) (Q:=fun r s'=>r=w/\EP X pins σ Q r s') pl (by omega) (by omega) (by rw [List.size_toArray,<- hl];exact h1) (by simpa using ew) ⟨rfl,fin⟩) hs
theorem HX:mw X Gk:=by
 intro value slice pins s σ H x y v u Q I rx ry h hs
 obtain ⟨z,i,c,rfl,rfl,hz,he,q⟩:=h
 obtain ⟨t,rfl⟩:=rx
 obtain ⟨t',rfl⟩:=ry
 obtain ⟨j,h1,h2,h3,h4,h5⟩:=sk he
 have hl:z.cps.toList.length=z.length:=by simp [Str.length]
 rw [hl] at h1 h4 h5
 have hn:=lj
 exact tail_any (typeIs_str s z t) slot_str_getitem.lookup (getItem_str (c:=c) (by
  have e1:decide (i < -(2^63:Int))=false:=decide_eq_false (by omega)
  have e2:decide (i≥2^63)=false:=decide_eq_false (by omega)
  rw [e1,e2,Bool.or_false]) (by rw [h1];simpa using h2) ⟨.str ⟨#[c]⟩,H,I.tok _,⟨_,rfl⟩,q⟩) hs
def Gn (K:PySem.W.Frag):R2:=fun x y H Q=>Gm K x y H Q\/Gj K x y H Q\/Gk x y H Q
theorem HY:mw X (Gn X.K):=EL.or (HW.or HX)
theorem yv (its:List Value)(n j:Nat)(u:Value):Obj.mapSeq (·.setIfInBounds j u) {cls:=.type "list",data:=.seq its.toArray n}={cls:=.type "list",data:=.seq (its.set j u).toArray n}:=by
 simp [Obj.mapSeq]
theorem Inv.lst {pins:List (Addr×Obj)}{σ:St}{H:Hp}{s:Shared}{p:Addr}{xs:List V}(I:Inv X pins σ H s)(h:H p=some (.lst xs)) :
 ∃(its:List Value) (n:Nat),Vals xs its/\s.heap.get? p=some {cls:=.type "list",data:=.seq its.toArray n}/\xs.length<=sizeLine:=by
 obtain ⟨z,its,n,r,e⟩:=I.hok p _ h
 exact ⟨its,n,r,e,z⟩
theorem Inv.lstUpd {pins:List (Addr×Obj)}{σ:St}{H:Hp}{s:Shared}{p:Addr}{xs ys:List V}{its its':List Value}{n n':Nat}{f:Obj->Obj}(I:Inv X pins σ H s)(h:H p=some (.lst xs))
 (ho:s.heap.get? p=some {cls:=.type "list",data:=.seq its.toArray n}) (hf:f {cls:=.type "list",data:=.seq its.toArray n}={cls:=.type "list",data:=.seq its'.toArray n'}) (r:Vals ys its') (hz:ys.length<=sizeLine) (t:Nat) :
 Inv X pins σ (upd H p (.lst ys)) {s with heap:=s.heap.update p f,toks:=t}:=by
 have e:(s.heap.update p f).get? p=some {cls:=.type "list",data:=.seq its'.toArray n'}:=by
  rw [tqm f ho (by rw [hf]<;>rfl),hf]
 refine I.write (x:=p) (e:=p) (by rw [h];trivial) (.inl rfl) (fun b u hb q=>(tql _ _ (Ne.symm hb)).trans q) ⟨_,e⟩ ?_
 exact ⟨hz,its',n',r,e⟩
def Dc:V->V->V->Hp->(Hp->Prop)->Prop:=fun o i v H Q=>∃p xs k j,o=.ref p/\i=.int k/\H p=some (.lst xs)/\cb xs.length k=some j/\Q (upd H p (.lst (xs.set j v)))
theorem set_list:IU X Dc:=by
 intro pins s σ H o i v ov iv u Q I ro ri rv h
 obtain ⟨p,xs,k,j,rfl,rfl,hp,hj,q⟩:=h
 cases ro
 obtain ⟨t,rfl⟩:=ri
 obtain ⟨its,n,r,ho,hz⟩:=I.lst hp
 obtain ⟨h1,h2,h3,h4⟩:=xk hj
 have hl:=r.length
 have hn:=lj
 have I':Inv X pins σ (upd H p (.lst (xs.set j v))) {s with heap:=s.heap.update p (Obj.mapSeq (·.setIfInBounds j u))}:=
  I.lstUpd hp ho (yv its n j u) (r.set rv j) (by rw [List.length_set];exact hz) s.toks
 by_cases h0:0<=k
 ·have hk:k.toNat=j:=by
   rw [seqIndex_of h0 h4] at h1
   exact Option.some.inj h1
  exact PySem.W.ki_setAt ho h0 (by omega) (by rw [List.size_toArray,<- hl];exact h4) (by rw [hk];exact ⟨_,I',q⟩)
 ·have hk:(k+(its.toArray.size:Int)).toNat=j:=by
   rw [seqIndex_neg (by omega) h3] at h1
   rw [List.size_toArray,<- hl]
   exact Option.some.inj h1
  exact PySem.W.ki_setBack ho (by omega) (by rw [List.size_toArray,<- hl];exact h3) (by omega) (by rw [hk];exact ⟨_,I',q⟩)
theorem uO (lo hi:Option Int)(n:Nat):(sliceBounds lo hi none n).1=((HT.a9 n 0 lo:Nat):Int)/\(sliceBounds lo hi none n).2.1=((HT.a9 n n hi:Nat):Int)/\(sliceBounds lo hi none n).2.2=1:=by
 refine ⟨?_,?_,rfl⟩
 ·cases lo with
  |none=>simp [sliceBounds,HT.a9]
  | some i =>
    simp only [sliceBounds,HT.a9,Option.getD_none,show (1:Int) > 0 by decide,if_true]
    by_cases h:i<0
    ·simp only [h,if_true]<;>omega
    ·simp only [h,if_false]<;>omega
 ·cases hi with
  |none=>simp [sliceBounds,HT.a9]
  | some i =>
    simp only [sliceBounds,HT.a9,Option.getD_none,show (1:Int) > 0 by decide,if_true]
    by_cases h:i<0
    ·simp only [h,if_true]<;>omega
    ·simp only [h,if_false]<;>omega
theorem tN (its:List Value)(lo hi:Option Int):slicePick its.toArray lo hi none=((its.drop (HT.a9 its.length 0 lo)).take (HT.a9 its.length its.length hi-HT.a9 its.length 0 lo)).toArray:=by
 obtain ⟨h1,h2,h3⟩:=uO lo hi its.toArray.size
 unfold slicePick
 rw [h1,h2,h3]
 simp only [sliceRange_one,pick_run,List.size_toArray]<;>rfl
def Gh (K:PySem.W.Frag):V->Option Int->Option Int->Hp->VK->Prop:=fun x lo hi H Q=>∃a xs,x=.ref a/\dA K H a xs/\∀p,H p=none->Q (.ref p) (upd H p (.lst (n4 xs lo hi)))
theorem D5:nt X (Gh X.K):=by
 intro pins s σ H x v vl vu lo hi sl Q I rx hs pl pu h
 obtain ⟨a,xs,rfl,hx,q⟩:=h
 cases rx
 obtain ⟨its,r,ht,hz⟩:=I.list hx
 have hlen:=r.length
 refine ⟨"list",_,slot_list_getitem.lookup,ht.isList.typeIs,?_⟩
 refine wpAny_getItem_list_slice ht.isList hs pl pu .none (by simp) ?_ (by rw [List.size_toArray]<;>omega)
 rw [tN,<- hlen]
 refine ⟨.ref s.heap.objs.size,_,I.laid (t':=s.toks) (o:=.lst (n4 xs lo hi)) (fun b ob q=>tqc _ q) (tqg _) ?_,rfl,q _ (I.hok.fresh (tqg _))⟩
 exact ⟨tqh (pb xs lo hi) hz,_,0,(r.drop (HT.a9 xs.length 0 lo)).take (HT.a9 xs.length xs.length hi-HT.a9 xs.length 0 lo),tqe _ rfl⟩
theorem vR:dN X (.builtin "len") (fun xs H Q=>∃p ys,xs=[.ref p]/\(dA X.K H p ys\/eD X.K H p ys)/\Q (.int ys.length) H):=by
 intro pins s σ H xs us Q I r h
 obtain ⟨p,ys,rfl,hq,q⟩:=h
 obtain ⟨u,rfl,rx⟩:=vals1 r
 cases rx
 have hn:=lj
 rcases hq with hq|hq
 ·obtain ⟨its,r',pl,hz⟩:=I.list hq
  have hlen:=r'.length
  exact Calls.call_len_list pl.isList (by simp only [List.size_toArray]<;>omega) ⟨.int ys.length,H,I.tok _,⟨s.toks+1,by rw [List.size_toArray,hlen]⟩,q⟩
 ·obtain ⟨its,r',pl,hz⟩:=I.tuple hq
  have hlen:=r'.length
  exact len_tuple pl (by simp only [List.size_toArray]<;>omega) ⟨.int ys.length,H,I.tok _,⟨s.toks+1,by rw [List.size_toArray,hlen]⟩,q⟩
theorem vQ:dN X (.builtin "len") (fun xs H Q=>∃z,xs=[.str z]/\z.length<=sizeLine/\Q (.int z.length) H):=by
 intro pins s σ H xs us Q I r h
 obtain ⟨z,rfl,hz,q⟩:=h
 obtain ⟨u,rfl,t,rfl⟩:=vals1 r
 have hn:=lj
 exact len_str (by omega) ⟨.int z.length,H,I.tok _,⟨_,rfl⟩,q⟩
theorem dN.or {f:Value}{r r':List V->Hp->VK->Prop}(h:dN X f r)(h':dN X f r'):dN X f (fun xs H Q=>r xs H Q\/r' xs H Q):=by
 intro pins s σ H xs us Q I rs q
 rcases q with q|q
 ·exact h pins s σ H xs us Q I rs q
 ·exact h' pins s σ H xs us Q I rs q
theorem vP:dN X (.type "list") (fun xs H Q=>∃p ys,xs=[.ref p]/\(dA X.K H p ys\/eD X.K H p ys)/\∀l,H l=none->Q (.ref l) (upd H l (.lst ys))):=by
 intro pins s σ H xs us Q I r h
 obtain ⟨p,ys,rfl,hq,q⟩:=h
 obtain ⟨u,rfl,rx⟩:=vals1 r
 cases rx
 have fin:∀(its:List Value),Vals ys its->ys.length<=sizeLine->∀(h':Heap) (c':Nat),(∀b o',s.heap.get? b=some o'->h'.get? b=some o')->
  h'.get? s.heap.objs.size=some {cls:=.type "list",dict:=none,data:=.seq its.toArray c',slots:=#[]}->EP X pins σ Q (.ref s.heap.objs.size) {s with heap:=h'}:=fun its r' hz h' c' kp e=>
  ⟨.ref s.heap.objs.size,_,I.laid (t':=s.toks) kp (tqg _) (show dC X.prog X.w _ h' _ (.lst ys) from ⟨hz,its,c',r',e⟩),rfl,q _ (I.hok.fresh (tqg _))⟩
 rcases hq with hq|hq
 ·obtain ⟨its,r',pl,hz⟩:=I.list hq
  have hlen:=r'.length
  obtain ⟨o,ho,hc,n,hd⟩:=pl.isList
  exact call_list_seq p (.inl rfl) ho hc hd (fun h' c' kp e=>fin its r' hz h' c' kp e) (by simp only [List.size_toArray]<;>omega)
 ·obtain ⟨its,r',pl,hz⟩:=I.tuple hq
  have hlen:=r'.length
  obtain ⟨o,ho,hc,n,hd⟩:=pl
  exact call_list_seq p (.inr rfl) ho hc hd (fun h' c' kp e=>fin its r' hz h' c' kp e) (by simp only [List.size_toArray]<;>omega)
theorem tV:dN X (.type "tuple") (fun xs H Q=>∃p ys,xs=[.ref p]/\((dA X.K H p ys/\∀l,H l=none->Q (.ref l) (upd H l (.tup ys)))\/(eD X.K H p ys/\Q (.ref p) H))):=by
 intro pins s σ H xs us Q I r h
 obtain ⟨p,ys,rfl,h⟩:=h
 obtain ⟨u,rfl,rx⟩:=vals1 r
 cases rx
 rcases h with ⟨hq,q⟩|⟨hq,q⟩
 ·obtain ⟨its,r',pl,hz⟩:=I.list hq
  have hlen:=r'.length
  refine call_tuple_list pl.isList (fun h' kp=>?_) (by simp only [List.size_toArray]<;>omega)
  have I1:Inv X pins σ H {s with heap:=h'}:=I.kept (t':=s.toks) kp
  have I2:Inv X pins σ (upd H h'.objs.size (.tup ys)) {s with heap:=h'.push {cls:=.type "tuple",data:=.seq its.toArray}}:=
   I1.laid (t':=s.toks) (fun b o e=>tqc _ e) (tqg _) (show dC X.prog X.w _ _ _ (.tup ys) from ⟨hz,its,r',IsTup.new _ _⟩)
  exact ⟨.ref h'.objs.size,_,I2,rfl,q _ (I1.hok.fresh (tqg _))⟩
 ·obtain ⟨its,r',pl,hz⟩:=I.tuple hq
  exact call_tuple_same pl ⟨.ref p,H,I,rfl,q⟩
def Kr (K:PySem.W.Frag)(T:String)(x:V)(H:Hp):Prop:=match x with
 |.str _=>T="str"
 |.int _=>T="int"
 |.ref p=>(T="list"/\∃xs,dA K H p xs)\/(T="tuple"/\∃o,K.lookup p=some o/\o.cls=.type "tuple"/\o.dict=none)\/
  (T="dict"/\((∃kvs,H p=some (.dK kvs))\/∃kvs,H p=some (.dT kvs)))\/(T="set"/\∃S n,H p=some (.set S n))
 |_=>False
theorem FI {pins:List (Addr×Obj)}{σ:St}{H:Hp}{s:Shared}{T:String}{x:V}{v:Value}(I:Inv X pins σ H s)(r:RelV x v)(ty:Kr X.K T x H) :
 s.TypeIs v T/\∀a,v=.ref a->∃ob,s.heap.get? a=some ob/\ob.dict=none:=by
 cases x with
 | str z =>
   obtain ⟨t,rfl⟩:=r
   cases (show T="str" from ty)
   exact ⟨typeIs_str s z t,fun _ e=>nomatch e⟩
 | int i =>
   obtain ⟨t,rfl⟩:=r
   cases (show T="int" from ty)
   exact ⟨typeIs_int s i t,fun _ e=>nomatch e⟩
 | ref p =>
   cases r
   rcases ty with ⟨rfl,xs,hq⟩|⟨rfl,o,hk,hc,hd⟩|⟨rfl,hk⟩|⟨rfl,S,n,hk⟩
   ·obtain ⟨its,_,pl,_⟩:=I.list hq
    refine ⟨pl.isList.typeIs,fun a e=>?_⟩
    cases e
    obtain ⟨o,n,e,c,hd,_⟩:=pl
    exact ⟨o,e,hd⟩
   ·refine ⟨⟨o,I.kIn p o hk,hc⟩,fun a e=>?_⟩
    cases e
    exact ⟨o,I.kIn _ o hk,hd⟩
   ·have z:∃o,s.heap.get? p=some o/\o.ExactDict:=by
     rcases hk with ⟨kvs,hk⟩|⟨kvs,hk⟩
     ·obtain ⟨_,_,_,_,o,_,_,e,ex,_⟩:=I.hok p _ hk
      exact ⟨o,e,ex⟩
     ·obtain ⟨_,_,_,_,o,_,_,e,ex,_⟩:=I.hok p _ hk
      exact ⟨o,e,ex⟩
    obtain ⟨o,e,ex⟩:=z
    refine ⟨⟨o,e,ex.1⟩,fun a e2=>?_⟩
    cases e2
    exact ⟨o,e,ex.2.1⟩
   ·obtain ⟨o,_,_,_,e,ex,_⟩:=I.hok p _ hk
    refine ⟨⟨o,e,ex.1⟩,fun a e2=>?_⟩
    cases e2
    exact ⟨o,e,ex.2.1⟩
 |_=>exact False.elim ty
def tBM (K:PySem.W.Frag)(T:String)(r:V->List V->Hp->VK->Prop)(to:TE)(t:TA):TE:=fun σ H Q=>to σ H fun x H1=>Kr K T x H1/\t σ H1 fun xs H2=>r x xs H2 Q
variable {o e:Expr}{es:List Expr}{to:TE}{t:TA}{name:Str}{apos cpos:Pos}{T id:String}{r:V->List V->Hp->VK->Prop}
theorem xT (pa:PlainAttrs T)(slot:Slot T name id)(hty:typeOf (.builtin id)=pure (.type "method_descriptor"))(hm:IV X id r)(ho:PE X o to)(ha:PA X (e::es) t)
 (hbase:attributeBase o name X.env (eval o X.env)=eval o X.env:=by rfl)
 (hfew:((backTo cpos (starEach (e::es) X.env)).all (fun x=>!x.1)&&(backToKw cpos (keywordEach [] X.env)).all (fun x=>x.1.isSome)
  && decide ((e::es).length+([]:List Keyword).length+(if ([]:List Keyword).isEmpty then 0 else 1)<30))=true:=by rfl)
 (hline:(apos.endLine==cpos.line)=true:=by rfl) (hs:starEach (e::es) X.env=(false,eval e X.env)::starEach es X.env:=by rfl) (hplain:(backTo cpos (starEach es X.env)).any (·.1)=false:=by rfl) :
 PE X (.Call (.Attribute o name apos) (e::es) [] cpos) (tBM X.K T r to t):=by
 intro pins s σ H Q I h
 refine wpAny_Call_method_late hbase hfew hline rfl (bz (ho pins s σ H _ I h) fun v s1 ⟨x,H1,I1,r1,ty,q1⟩=>?_)
 obtain ⟨h1,h2⟩:=FI I1 r1 ty
 refine ⟨T,id,pa,slot,hty,h1,h2,?_⟩
 have hA:=ha cpos pins s1 σ H1 _ I1 q1
 rw [hs] at hA ⊢
 refine Calls.callWith_builtin (by show (false||(backTo cpos (starEach es X.env)).any (·.1))=false;rw [hplain]<;>rfl) (Calls.evalArgs_plain ?_)
 exact bz hA fun us s2 ⟨vs,H2,I2,r2,q2⟩=>hm pins s2 σ H2 x vs v us Q I2 r1 r2 q2
end
end L2
namespace L2
open PySem PySem.Spec PyProof.Rows
def KY (X:Cx)(id:String)(r:V->List V->Hp->VK->Prop):Prop:=
 ∀(pins:List (Addr×Obj)) (s:Shared) (σ:St) (H:Hp) (x:V) (xs:List V) (v:Value) (us:List Value) (Q:VK),Inv X pins σ H s->RelV x v->Vals xs us->r x xs H Q->
  wpAny (model X.prog X.w) X.A (call (.builtin id) (v::us)) (EP X pins σ Q) X.xe s
theorem Vals.one:∀{x:V}{us:List Value},Vals [x] us->∃u,us=[u]/\RelV x u
 |_,_,.cons r .nil=>⟨_,rfl,r⟩
theorem Vals.rep {xs:List V}{us:List Value}(h:Vals xs us):∀k:Nat,Vals (List.replicate k xs).flatten (List.replicate k us).flatten
 |0=>.nil
 | k + 1 => by
   rw [List.replicate_succ,List.replicate_succ,List.flatten_cons,List.flatten_cons]
   exact Vals.append h (Vals.rep h k)
theorem foldl_rep (its:List Value):∀(k:Nat) (acc:List Value),
 List.foldl (fun x1 x2=>x1++x2) acc.toArray (List.replicate k its.toArray)=(acc++(List.replicate k its).flatten).toArray
 |0,acc=>by simp
 | k + 1, acc => by
   have e:acc.toArray++its.toArray=(acc++its).toArray:=by simp
   have e2:(acc++its)++(List.replicate k its).flatten=acc++(List.replicate (k+1) its).flatten:=by
    rw [List.replicate_succ,List.flatten_cons,List.append_assoc]
   rw [<- e2,<- foldl_rep its k (acc++its),<- e,List.replicate_succ,List.foldl_cons]
section
variable {X:Cx}{pins:List (Addr×Obj)}{σ:St}{H:Hp}{s:Shared}{l b:Addr}{xs ys zs:List V}
theorem Inv.lset {its its':List Value}{n:Nat}{f:Array Value->Array Value}{t':Nat}(I:Inv X pins σ H s)(hH:H l=some (.lst xs))
 (e:s.heap.get? l=some {cls:=.type "list",data:=.seq its.toArray n}) (hf:f its.toArray=its'.toArray) (hv:Vals ys its') (hz:ys.length<=sizeLine) :
 Inv X pins σ (upd H l (.lst ys)) {s with heap:=s.heap.update l (Obj.mapSeq f),toks:=t'}:=by
 have q:=PySem.IsL.update e f
 rw [hf] at q
 refine I.write (x:=l) (e:=l) (by rw [hH];exact trivial) (.inl rfl) (fun b' u hb hu=>(tql s.heap (Obj.mapSeq f) (Ne.symm hb)).trans hu) ⟨_,q⟩ ?_
 exact ⟨hz,its',_,hv,q⟩
theorem Inv.lnew {its:List Value}{t':Nat}(I:Inv X pins σ H s)(hv:Vals ys its)(hz:ys.length<=sizeLine) :
 Inv X pins σ (upd H s.heap.objs.size (.lst ys)) {s with heap:=s.heap.push {cls:=.type "list",data:=.seq its.toArray},toks:=t'}:=
 I.laid (fun _ _ q=>tqc _ q) (tqg _) ⟨hz,its,0,hv,tqe _ rfl⟩
theorem Inv.fresh (I:Inv X pins σ H s):H s.heap.objs.size=none:=I.hok.fresh (tqg _)
theorem Inv.lstM (I:Inv X pins σ H s)(hH:H l=some (.lst xs)):xs.length<=sizeLine/\∃(its:List Value) (n:Nat),Vals xs its/\xs.length=its.length/\s.heap.get? l=some {cls:=.type "list",data:=.seq its.toArray n}:=by
 obtain ⟨z,its,n,r,e⟩:=I.hok l _ hH
 exact ⟨z,its,n,r,r.length,e⟩
theorem vn {n:Nat}(h:n<=sizeLine):Builtin.List.listTooLong n=false:=by
 unfold Builtin.List.listTooLong
 exact decide_eq_false (by omega)
end
section
variable {X:Cx}
def Ee:V->List V->Hp->VK->Prop:=fun x vs H Q=>∃l xs y,x=.ref l/\vs=[y]/\H l=some (.lst xs)/\xs.length<sizeLine/\Q .non (upd H l (.lst (xs++[y])))
theorem sU:KY X "list.append" Ee:=by
 intro pins s σ H x vs v us Q I rx rv h
 obtain ⟨l,xs,y,rfl,rfl,hH,hz,q⟩:=h
 cases rx
 obtain ⟨u,rfl,ru⟩:=rv.one
 obtain ⟨z,its,n,r,hl,e⟩:=I.lstM hH
 refine call_meets F.slot_list_append ⟨_,e,rfl⟩ F.entry_list_append (F.args_list_append_2 _ _) (PySem.list_append l its.toArray n u (by rw [List.size_toArray];omega)) ⟨e,?_⟩
 refine ⟨.non,_,I.lset (its':=its++[u]) hH e (by simp) (r.append (.cons ru .nil)) ?_,rfl,q⟩
 rw [List.length_append,List.length_singleton]
 omega
def Ed:V->List V->Hp->VK->Prop:=fun x vs H Q=>∃l b xs zs,x=.ref l/\vs=[.ref b]/\H l=some (.lst xs)/\H b=some (.lst zs)/\xs.length+zs.length<=sizeLine/\Q .non (upd H l (.lst (xs++zs)))
theorem KU:KY X "list.extend" Ed:=by
 intro pins s σ H x vs v us Q I rx rv h
 obtain ⟨l,b,xs,zs,rfl,rfl,hH,hB,hz,q⟩:=h
 cases rx
 obtain ⟨u,rfl,ru⟩:=rv.one
 cases ru
 obtain ⟨z,its,n,r,hl,e⟩:=I.lstM hH
 obtain ⟨z2,its2,n2,r2,hl2,e2⟩:=I.lstM hB
 have hsz:its.toArray.size+its2.toArray.size<=sizeLine:=by rw [List.size_toArray,List.size_toArray];omega
 have hlong:¬ (!its.toArray.isEmpty&&Builtin.List.listTooLong (its.toArray.size+its2.toArray.size))=true:=by
  rw [vn hsz,Bool.and_false]
  exact tqj
 refine call_meets F.slot_list_extend ⟨_,e,rfl⟩ F.entry_list_extend (F.args_list_extend_2 _ _)
  (AutoSeq1.list_extend_list_list_0 l its.toArray n b its2.toArray n2 hlong (by rw [List.size_toArray];omega) (by omega)) ⟨e,e2,?_⟩
 refine ⟨.non,_,I.lset (its':=its++its2) hH e (by simp) (r.append r2) ?_,rfl,q⟩
 rw [List.length_append]
 omega
def Lv:R2:=fun x y H Q=>∃l b xs zs,x=.ref l/\y=.ref b/\H l=some (.lst xs)/\H b=some (.lst zs)/\xs.length+zs.length<=sizeLine/\∀p,H p=none->Q (.ref p) (upd H p (.lst (xs++zs)))
theorem GX:cI X (binaryOp .Add) Lv:=by
 intro pins s σ H x y v u Q I rx ry h
 obtain ⟨l,b,xs,zs,rfl,rfl,hH,hB,hz,q⟩:=h
 cases rx
 cases ry
 obtain ⟨z,its,n,r,hl,e⟩:=I.lstM hH
 obtain ⟨z2,its2,n2,r2,hl2,e2⟩:=I.lstM hB
 refine PySem.P.add_list e e2 ?_ (by rw [List.size_toArray,List.size_toArray];omega)
 have ea:its.toArray++its2.toArray=(its++its2).toArray:=by simp
 rw [ea]
 exact ⟨.ref _,_,I.lnew (t':=s.toks) (r.append r2) (by rw [List.length_append];omega),rfl,q _ I.fresh⟩
def Lr:R2:=fun x y H Q=>∃l k xs,x=.ref l/\y=.int k/\H l=some (.lst xs)/\-(2^63)<=k/\k<2^63/\xs.length*k.toNat<=sizeLine/\
 ∀p,H p=none->Q (.ref p) (upd H p (.lst (List.replicate k.toNat xs).flatten))
theorem len_rep {α:Type}(xs:List α)(k:Nat):(List.replicate k xs).flatten.length=k*xs.length:=by
 induction k with
 |zero=>simp
 |succ k ih=>rw [List.replicate_succ,List.flatten_cons,List.length_append,ih,Nat.succ_mul,Nat.add_comm]
theorem GP:cI X (binaryOp .Mult) Lr:=by
 intro pins s σ H x y v u Q I rx ry h
 obtain ⟨l,k,xs,rfl,rfl,hH,h1,h2,hz,q⟩:=h
 cases rx
 obtain ⟨t,rfl⟩:=ry
 obtain ⟨z,its,n,r,hl,e⟩:=I.lstM hH
 have hlen:its.toArray.size*k.toNat<=sizeLine:=by rw [List.size_toArray,<- hl];exact hz
 have hcap:¬ its.toArray.size*k.toNat > (2^63-1) / 8:=by
  have:(sizeLine:Nat)<=(2^63-1) / 8:=by decide
  omega
 have hfit:¬ (!Builtin.List.listFitsIndex k)=true:=by
  rw [fitsIndex_both h1 h2]
  exact tqj
 have hlong:¬ Builtin.List.listTooLong (its.toArray.size*k.toNat)=true:=by
  rw [vn hlen]
  exact tqj
 have hnew:List.foldl (fun x1 x2=>x1++x2) #[] (List.replicate (if its.toArray.isEmpty=true then 0 else k.toNat) its.toArray)=(List.replicate k.toNat its).flatten.toArray:=by
  have f0:∀m:Nat,List.foldl (fun x1 x2=>x1++x2) #[] (List.replicate m its.toArray)=(List.replicate m its).flatten.toArray:=fun m=>by
   have:=foldl_rep its m []
   rw [List.nil_append] at this
   exact this
  rw [f0]
  cases its with
  |nil=>simp
  |cons a r'=>rw [if_neg (by simp)]
 refine wpAny_binaryOp_repeat_ref (T:="list") (U:="int") (by decide) ⟨_,e,rfl⟩ (fun s'=>typeIs_int s' k t) noFill_list_mul F.fills_int_mul F.slot_int_rmul repeat_list F.slot_int_index.lookup
  (call_meets F.slot_int_rmul (typeIs_int s k t) F.entry_int_rmul (F.args_int_rmul_2 _ _) (int___rmul___int_list k t l its.toArray n)
   ⟨e,rfl,⟨_,e,rfl⟩,call_meets F.slot_list_mul ⟨_,e,rfl⟩ F.entry_list_mul (F.args_list_mul_2 _ _) (AutoListH.list___mul___list_int_3 l its.toArray n k t hfit hcap hlong) ⟨e,?_⟩⟩)
 rw [hnew]
 exact ⟨.ref _,_,I.lnew (t':=s.toks) (r.rep k.toNat) (by rw [len_rep,Nat.mul_comm];exact hz),rfl,q _ I.fresh⟩
end
end L2
namespace Att
open PySem PySem.W PySem.Calls PyProof.Rows
theorem qN {P:Params}{h:Heap}:∀(ns:List Int) (vs:List Value),WellAll P h vs (ns.map WData.int)->IntsAre vs ns:=by
 intro ns
 induction ns with
 | nil =>
   intro vs w
   rw [List.map_nil] at w
   cases w
   exact .nil
 | cons n ns ih =>
   intro vs w
   rw [List.map_cons] at w
   cases w with
   | cons a b =>
     cases a
     exact .cons _ _ (ih _ b)
theorem zR {l:OpenLaw}{n:Nat}(hn:l.most=some n){P:Params}{h:Heap}{args:List WData}{vals:List Value}
 (hpre:l.row.toRowW.claim.pre args=true) (hwl:WellAll P h vals args) :
 ∃a vs ns,vals=[Value.ref a]/\args=[WData.list (ns.map WData.int)]/\h.get? a=some {cls:=.type "list",data:=.seq vs.toArray}/\IntsAre vs ns/\ns.length<=n:=by
 have hsh:WShape.hasAll [] args [.list .int]=true:=(pre_splitW hpre).1
 have hc:l.pre.holds [] {args:=args}=true:=(pre_splitW hpre).2
 obtain ⟨d,r,rfl,h1,h2⟩:=hasAllW_cons hsh
 obtain rfl:=hasAllW_nil h2
 obtain ⟨xs,rfl,h3⟩:=hasW_list h1
 obtain ⟨ns,rfl⟩:=items_int h3
 have hlen:ns.length<=n:=by
  unfold OpenLaw.pre at hc
  have h4:(WTm.not (.lt (.lit (.int (n:Int))) (.len (.arg 0)))).holds [] {args:=[.list (ns.map .int)]}=true:=by
   have h4:=(holds_andW hc).1
   rw [hn] at h4
   exact h4
  have h5:=condW_of h4 (w_not (w_lt w_lit (w_len_list (w_arg rfl))))
  rw [List.length_map] at h5
  refine Nat.le_of_not_lt fun q=>?_
  have q':(n:Int)<((ns.length:Nat):Int):=by omega
  first
   |(rw [decide_eq_true q'] at h5;exact absurd h5 (by decide))
   |(simp at h5;omega)
 cases hwl with
 | cons w1 w2 =>
   cases w2
   cases w1 with
   |list ho hall=>exact ⟨_,_,ns,rfl,rfl,ho,qN ns _ hall,hlen⟩
theorem zX (l:OpenLaw)(args:List WData):l.row.toRowW.claim.post args (.bool true) args=true:=
 postW_of (r:=l.row.toRowW) (X:=(true==true))
  (show WShape.has [] (.bool true) .bool=true by first|rfl|decide|simp [WShape.has,WShape.arms,WShape.armsAll])
  (show (WTm.eq .res (.lit (.bool true))).value [] {args:=args,res:=some (.bool true),after:=args}=some (.bool (true==true)) from w_eq_bool (w_res rfl) w_lit) rfl
theorem attach_call {l:OpenLaw}{n:Nat}{q:Program}{loose:List Str}{XP:(Str->Option Value)->Heap->Prop}{YP:World->Heap->Prop}{d:DefRec}
 (hn:l.most=some n) (hdf:d.params.defaults=[])
 (call:∀(w:World) (s₀ s₁:Shared) (mg mb:Str->Option Value) (fa:Addr) (o:Obj) (pm cd doc:Value) (a:Addr) (vs:List Value) (ns:List Int),
  Ground q loose [] XP w s₀ mg mb s₁.heap->YP w s₁.heap->
  s₁.heap.get? fa=some o->o.data=.func (docDef d.name d.params d.body d.scope pm cd doc)->s₁.heap.CodeRec cd d.name->mg d.name=some (.ref fa)->
  s₁.heap.get? a=some {cls:=.type "list",data:=.seq vs.toArray}->IntsAre vs ns->ns.length<=n->s₁.gens=#[]->
  codeAny (model l.prog w) callerA (.call (.ref fa) ⟨[.ref a],[]⟩) (fun r s'=>r=.ok (.ret (.bool true))/\OldK s₁.heap s'.heap/\s'.os=s₁.os/\AllBare s'.gens) s₁) :
 WalkO q loose XP YP l.row.toRowW d [] (fun f vs=>PySem.call f vs):=by
 intro w s₀ s₁ mg mb G Y fa o pm cd doc dV kV ho hd hcd hD hmg hg args vals as hpre hlay hrd hwl hlo
 obtain rfl:dV=.none:=Dflts.none hD hdf
 obtain rfl:kV=.none:=Dflts.noKw hD
 obtain ⟨a,vs,ns,rfl,rfl,hobj,hints,hlen⟩:=zR hn hpre hwl
 refine enter_call (codeAny_mono (call w s₀ s₁ mg mb fa o pm cd doc a vs ns G Y ho (fd_plain hd) hcd hmg hobj hints hlen hg) fun r s' hq=>?_)
 obtain ⟨rfl,h2,h3,h4⟩:=hq
 exact ⟨.inl ⟨.bool true,.bool true,[],rfl,fun _=>rfl,.bool true,zX l _,fun _=>⟨List.Pairwise.nil,fun _ hm=>(nomatch hm)⟩⟩,h2,h3,h4⟩
end Att
namespace L2
open PySem PySem.Spec PyProof.Rows
theorem sC:∀{vs:List Value}{ns:List Int},IntsAre vs ns->Vals (ns.map V.int) vs
 |_,_,.nil=>.nil
 |_,_,.cons n t h=>.cons ⟨t,rfl⟩ (sC h)
def yZ (H:Hp):Prop:=∀b,H b=none\/∃o xs,H b=some (.frz o (.lst xs))
theorem Cr {P:Program}{w:World}{K:PySem.W.Frag}{mg mb:Str->Option Value}{CX:ph}{k:Nat}{fa a:Addr}{fd:FuncData}{x:Str}{sp:Sp}{s₁:Shared}{vs:List Value}{ns:List Int}
 (KX:K.In s₁.heap) (hns:s₁.heap.Ns mainGlobals mg) (hb:s₁.heap.Ns builtinsNs mb) (hbb:∀x:Str,x≠"__name__"->mb x=bootBuiltins x) (hlim:s₁.heap.NoLimit) (hg:s₁.gens=#[])
 (ha:s₁.heap.get? a=some {cls:=.type "list",data:=.seq vs.toArray}) (hi:IntsAre vs ns) (hl:ns.length<=sizeLine) (hr:cU k callerA)
 (F:∀base:Heap,K.In base->base.Ns mainGlobals mg->lX P w K mg base CX k fa fd [x] sp) (hbind:∀(s:Shared) (u:Value),BindsTo s fd ⟨[u],[]⟩ [(x,u)])
 (hsp:∀H:Hp,yZ H->dA K H a (ns.map V.int)->sp [.ref a] H (fun v _=>v=.bl true) fun _ _ _=>False)
 (hCX:∀H e s',CX [] H s₁ (fun _ _ _=>False) e s'->False) :
 codeAny (model P w) callerA (.call (.ref fa) ⟨[.ref a],[]⟩) (fun r s'=>r=.ok (.ret (.bool true))/\OldK s₁.heap s'.heap/\s'.os=s₁.os/\AllBare s'.gens) s₁:=by
 have rv:=sC hi
 have lenV:=hi.length
 have core:∀H:Hp,yZ H->dA K H a (ns.map V.int)->fF P w H s₁.heap->(∀b,H b≠none->b=a)->(H a≠none->K.lookup a=none)->
  codeAny (model P w) callerA (.call (.ref fa) ⟨[.ref a],[]⟩) (fun r s'=>r=.ok (.ret (.bool true))/\OldK s₁.heap s'.heap/\s'.os=s₁.os/\AllBare s'.gens) s₁:=by
  intro H hO hS hok hA hK
  have base_of:∀{b:Addr}{o:Obj},s₁.heap.get? b=some o->H b=none->(mV s₁.heap H).get? b=some o:=fun e n=>Cz e n
  have noA:∀{b:Addr}{o:Obj}{es:Array DictEntry}{ep:Nat},s₁.heap.get? b=some o->o.data=.dict es ep->H b=none:=fun {b o es ep} e d=>by
   cases q:H b with
   |none=>rfl
   | some u =>
     have e':b=a:=hA b (by rw [q];simp)
     subst e'
     rw [ha] at e;cases e
     have d':Data.seq vs.toArray _=Data.dict es ep:=d
     cases d'
  have nsK:∀{b:Addr}{m:Str->Option Value},s₁.heap.Ns b m->(mV s₁.heap H).Ns b m:=fun {b m} ⟨o,es,ep,e,d,r⟩=>⟨o,es,ep,base_of e (noA e d),d,r⟩
  have hKb:K.In (mV s₁.heap H):=fun b o e=>base_of (KX b o e) (by
   cases q:H b with
   |none=>rfl
   | some u =>
     have e':b=a:=hA b (by rw [q];simp)
     subst e'
     rw [hK (by rw [q];simp)] at e;cases e)
  have hM:Mod K mg (mV s₁.heap H):=⟨hKb,nsK hns,⟨mb,nsK hb,hbb⟩,let ⟨mc,h1,h2⟩:=hlim;⟨mc,nsK h1,h2⟩⟩
  have e0:pW P w K mg (mV s₁.heap H) callerA [] s₁ H:=⟨rfl,hM,fun b o e=>Ez e,Nat.le_of_eq (AK _ _),trivial,fun b hb=>absurd (show b∈([]:List Addr) from hb) (by simp),hok,.of_eq hg⟩
  refine codeAny_mono ((F _ hKb (nsK hns)).run callerA [] s₁ H ⟨[.ref a],[]⟩ [.ref a] [.ref a] _ _ hr e0 (hbind s₁ (.ref a)) (.cons rfl .nil) (hsp H hO hS)) fun r s' h=>?_
  cases r with
  |error e=>exact (hCX H e s' h).elim
  | ok fl =>
    cases fl with
    |next=>exact False.elim h
    |brk=>exact False.elim h
    |cont=>exact False.elim h
    | ret u =>
      obtain ⟨v,H',os,bare,un,hok',r',q⟩:=h
      have q':v=.bl true:=q
      subst q'
      obtain rfl:u=Value.bool true:=r'
      refine ⟨rfl,OldK.of_keep fun b o e=>?_,os,bare⟩
      cases q:H b with
      |none=>exact un.keep b o e q (by intro z;exact absurd (show b∈([]:List Addr) from z) (by simp)) (by simp)
      | some u =>
        rcases hO b with z|⟨ob,xs,z⟩
        ·rw [q] at z;cases z
        ·have z2:=un.frzs b ob _ z
         obtain ⟨e1,_⟩:=hok b _ z
         obtain ⟨e2,_⟩:=hok' b _ z2
         rw [e] at e1;cases e1
         exact e2
 cases hk:K.lookup a with
 | some o =>
   have e:=KX a o hk
   rw [ha] at e
   cases e
   refine core (fun _=>none) (fun _=>.inl rfl) (.inr ⟨_,vs.toArray,_,hk,rfl,rfl,rfl,by rw [List.size_toArray,lenV];exact hl,by simpa using rv⟩) (fun b u z=>by have z':(none:Option HO)=some u:=z;cases z') (fun b z=>absurd rfl z) fun z=>absurd rfl z
 | none =>
   refine core (fun b=>if b=a then some (.frz {cls:=.type "list",data:=.seq vs.toArray} (.lst (ns.map V.int))) else none) (fun b=>?_) (.inl (.inr ⟨{cls:=.type "list",data:=.seq vs.toArray},if_pos rfl⟩)) (fun b u z=>?_) (fun b z=>?_) fun _=>hk
   ·by_cases hb:b=a
    ·exact .inr ⟨_,_,if_pos hb⟩
    ·exact .inl (if_neg hb)
   ·by_cases hb:b=a
    ·have z':=(if_pos hb).symm.trans z
     cases z'
     subst hb
     exact ⟨ha,by rw [List.length_map];exact hl,vs,_,rv,ha⟩
    ·have z':=(if_neg hb).symm.trans z
     cases z'
   ·by_cases hb:b=a
    ·exact hb
    ·exact absurd (if_neg hb) z
end L2
namespace L2
open PySem PySem.Spec PyProof.Rows
theorem DL {l:PySem.W.OpenLaw}{n k:Nat}{q:Program}{loose:List Str}{XP:(Str->Option Value)->Heap->Prop}{YP:World->Heap->Prop}{d:DefRec}{K:Params->PySem.W.Frag}{CX:World->ph}{sp:World->Sp}{x:Str}
 (hn:l.most=some n) (hn2:n<=sizeLine) (hdf:d.params.defaults=[]) (hr:cU k callerA)
 (hY:∀(w:World) (h:Heap),YP w h->(K w.params).In h)
 (F:∀(w:World) (mg:Str->Option Value) (fa:Addr) (h:Heap),(K w.params).In h->h.Ns mainGlobals mg->mg d.name=some (.ref fa)->
  ∃fd:FuncData,(∀(s:Shared) (u:Value),BindsTo s fd ⟨[u],[]⟩ [(x,u)])/\
   ∀base:Heap,(K w.params).In base->base.Ns mainGlobals mg->lX l.prog w (K w.params) mg base (CX w) k fa fd [x] (sp w))
 (hsp:∀(w:World) (H:Hp) (a:Addr) (ns:List Int),ns.length<=n->yZ H->dA (K w.params) H a (ns.map V.int)->sp w [.ref a] H (fun v _=>v=.bl true) fun _ _ _=>False)
 (hCX:∀(w:World) (H:Hp) (s:Shared) (e:Value) (s':Shared),CX w [] H s (fun _ _ _=>False) e s'->False) :
 PySem.W.WalkO q loose XP YP l.row.toRowW d [] (fun f vs=>PySem.call f vs):=by
 refine Att.attach_call hn hdf fun w s₀ s₁ mg mb fa o pm cd doc a vs ns G Y ho hd hcd hmg hobj hints hlen hg=>?_
 have KX:=hY w _ Y
 obtain ⟨fd,hb,hF⟩:=F w mg fa _ KX G.T.g hmg
 exact Cr KX G.T.g G.T.b G.T.builtins G.T.nolimit hg hobj hints (tqh hlen hn2) hr hF hb (fun H hO hS=>hsp w H a ns hlen hO hS) fun H e s'=>hCX w H s₁ e s'
end L2
namespace L2
open PySem PySem.Spec PyProof.Rows
def gK (s:Stmt):Arguments:=match s with
 |.FunctionDef _ a _ _ _ _ _ _ _ _=>a
 |_=>{posonlyargs:=[],args:=[],vararg:=none,kwonlyargs:=[],kw_defaults:=[],kwarg:=none,defaults:=[]}
def dH (s:Stmt):List Stmt:=match s with
 |.FunctionDef _ _ b _ _ _ _ _ _ _=>b
 |_=>[]
def aT (s:Stmt):Scope:=match s with
 |.FunctionDef _ _ _ _ _ _ sc _ _ _=>sc
 |_=>{kind:=.function,names:=[],isGenerator:=false,isCoroutine:=false}
abbrev E0:XK:=fun _ _ _=>False
structure pe (K:PySem.W.Frag) (x qual:Str) (st:Stmt) (f:Addr) (fd:FuncData):Prop where
 ex:∃(oc:Value) (od:Option Addr) (kV doc pm:Value) (an:Option Addr) (cdv ct:Value) (osl:Array (Option Value)),
  fd=PySem.W.fnOf x qual (gK st) (dH st) (aT st) .none kV doc pm an cdv ct/\K.lookup f=some ⟨oc,od,.func fd,osl⟩/\PySem.W.codeIn K cdv qual=true
 kp:PySem.W.keepIn K (.ref f)=true
section
variable {P:Program}{w:World}{K:PySem.W.Frag}{mg:Str->Option Value}{base:Heap}
theorem pe.binds {x qual:Str}{st:Stmt}{f:Addr}{fd:FuncData}{ps:List Str}(F:pe K x qual st f fd)
 (h:∀(kV doc pm:Value) (an:Option Addr) (cdv ct:Value) (us:List Value),us.length=ps.length->bindArgs (PySem.W.fnOf x qual (gK st) (dH st) (aT st) .none kV doc pm an cdv ct) ⟨us,[]⟩=pure (ps.zip us)):Binds K fd ps []:=by
 obtain ⟨oc,od,kV,doc,pm,an,cdv,ct,osl,rfl,lk,hcd⟩:=F.ex
 exact .all (h kV doc pm an cdv ct)
theorem AM {x qual:Str}{st:Stmt}{f:Addr}{oc:Value}{od an:Option Addr}{osl:Array (Option Value)}{kV doc pm cdv ct:Value}(l:K.lookup f=some ⟨oc,od,.func (PySem.W.fnOf x qual (gK st) (dH st) (aT st) .none kV doc pm an cdv ct),osl⟩)
 (c:PySem.W.codeIn K cdv qual=true) (k:PySem.W.keepIn K (.ref f)=true):pe K x qual st f (PySem.W.fnOf x qual (gK st) (dH st) (aT st) .none kV doc pm an cdv ct):=⟨⟨oc,od,kV,doc,pm,an,cdv,ct,osl,rfl,l,c⟩,k⟩
end
theorem cK {A:Around}{k:Nat}(hr:cU k A):A.units+1<cLine:=Nat.lt_of_le_of_lt (Nat.add_le_add_left (by decide:1<=64) _) hr.units
end L2
namespace LD
open PySem
inductive D where
 |non|bl (b:Bool)|int (i:Int)|str (x:Str)|tup (ds:List D)|lst (ds:List D)|frz (ds:List D)|cell (k:Nat)|fn (f:Nat)|exc (c:Nat) (p:Option Int)
 deriving Inhabited
abbrev Mem:=List (List D)
abbrev Env:=List (Option D)
inductive Res (α:Type) where
 |ok (a:α) (M:Mem)
 |err (x:D) (M:Mem)
 |bad
def Res.bind {α β:Type}(r:Res α)(f:α->Mem->Res β):Res β:=match r with
 |.ok a M=>f a M
 |.err x M=>.err x M
 |.bad=>.bad
@[simp] theorem Res.bind_ok {α β:Type}(a:α)(M:Mem)(f:α->Mem->Res β):(Res.ok a M).bind f=f a M:=rfl
@[simp] theorem Res.bind_err {α β:Type}(x:D)(M:Mem)(f:α->Mem->Res β):(Res.err x M:Res α).bind f=.err x M:=rfl
@[simp] theorem Res.bind_bad {α β:Type}(f:α->Mem->Res β):(Res.bad:Res α).bind f=.bad:=rfl
inductive nv where
 |add|sub|mul|fdiv|mod|pow
 deriving DecidableEq
inductive iW where
 |eq|ne|lt|le|gt|ge|isN|notN|isin|notin
 deriving DecidableEq
inductive Ty where
 |int|bool|str|tuple|list|own (c:Str)
 deriving DecidableEq
inductive vZ where
 |len|tuple|list (m:Bool)|listR (m:Bool)|all|sum|repr
 deriving DecidableEq
inductive dD where
 |one (i:Nat)
 |tup (l:List Nat)
def sz:Nat:=16777216
def cf (m:Bool)(ds:List D)(M:Mem):Res D:=if ds.length<=sz then (if m then .ok (.cell M.length) (M++[ds]) else .ok (.lst ds) M) else .bad
def mT (ds:List D)(M:Mem):Res D:=if ds.length<=sz then .ok (.tup ds) M else .bad
def de (M:Mem):D->Option (List D)
 |.lst ds=>some ds
 |.tup ds=>some ds
 |.frz ds=>some ds
 |.cell k=>M[k]?
 |_=>none
def gW (M:Mem):D->Option (List D)
 |.lst ds=>some ds
 |.frz ds=>some ds
 |.cell k=>M[k]?
 |_=>none
def lh (M:Mem):D->Option (List D)
 |.lst ds=>some ds
 |.cell k=>M[k]?
 |_=>none
def aN:Nat->D->Bool
 |_,.non=>true
 |_,.bl _=>true
 |_,.int _=>true
 |_,.str x=>x.cps.all (· < 0x110000)
 |n+1,.tup ds=>ds.all (aN n)
 |n+1,.lst ds=>ds.all (aN n)
 |0,.tup _=>false
 |0,.lst _=>false
 |_,.frz _=>false
 |_,.cell _=>false
 |_,.fn _=>false
 |_,.exc _ _=>false
mutual
def bu:D->D->Bool
 |.non,.non=>true
 |.bl a,.bl b=>a==b
 |.bl a,.int b=>(if a then 1 else 0)==b
 |.int a,.bl b=>a==(if b then 1 else 0)
 |.int a,.int b=>a==b
 |.str a,.str b=>a==b
 |.tup a,.tup b=>lU a b
 |.lst a,.lst b=>lU a b
 |_,_=>false
def lU:List D->List D->Bool
 |[],[]=>true
 |a::r,b::t=>bu a b&&lU r t
 |[],_::_=>false
 |_::_,[]=>false
end
def jt:D->Bool
 |.str _=>true
 |_=>false
def qT (a b:D):Option Bool:=if jt a&&jt b||aN 64 a&&aN 64 b then some (bu a b) else none
def view (M:Mem):D->D
 | .cell k => match M[k]? with
   |some ds=>.lst ds
   |none=>.cell k
 |.frz ds=>.lst ds
 |d=>d
def d4:Nat->Mem->D->D
 |0,_,d=>d
 | n + 1, M, .cell k => match M[k]? with
   |some ds=>.lst (ds.map (d4 n M))
   |none=>.cell k
 |n+1,M,.frz ds=>.lst (ds.map (d4 n M))
 |n+1,M,.lst ds=>.lst (ds.map (d4 n M))
 |n+1,M,.tup ds=>.tup (ds.map (d4 n M))
 |_+1,_,d=>d
def nr (M:Mem)(a b:D):Option Bool:=match qT (view M a) (view M b) with
 |some r=>some r
 |none=>qT (d4 64 M a) (d4 64 M b)
def lN (M:Mem):D->Option Bool
 |.non=>some false
 |.bl b=>some b
 |.int i=>some (i != 0)
 |.str x=>if x.cps.size<=sz then some (x.cps.size != 0) else none
 |.tup ds=>some (!ds.isEmpty)
 |.lst ds=>some (!ds.isEmpty)
 |.frz ds=>some (!ds.isEmpty)
 |.cell k=>(M[k]?).map fun ds=>!ds.isEmpty
 |.fn _=>none
 |.exc _ _=>none
def cb (n:Nat)(i:Int):Option Nat:=if 0<=i then (if i<n then some i.toNat else none) else if -(n:Int)<=i then some (i+n).toNat else none
def fR (m:Bool)(o:nv)(a b:D)(M:Mem):Res D:=match o,a,b with
 |.add,.int i,.int j=>.ok (.int (i+j)) M
 |.add,.str x,.str y=>if x.cps.size+y.cps.size<=sz then .ok (.str ⟨x.cps++y.cps⟩) M else .bad
 |.add,.tup x,.tup y=>mT (x++y) M
 | .add, a, b => match lh M a, lh M b with
   |some x,some y=>cf m (x++y) M
   |_,_=>.bad
 |.sub,.int i,.int j=>.ok (.int (i-j)) M
 |.mul,.int i,.int j=>if (-(2^64)<i/\i<2^64)\/(-(2^64)<j/\j<2^64) then .ok (.int (i*j)) M else .bad
 |.mul,.tup x,.int j=>if x.length*j.toNat<=sz/\-(2^63)<=j/\j<2^63 then .ok (.tup (List.replicate j.toNat x).flatten) M else .bad
 | .mul, a, .int j => match lh M a with
   |some x=>if x.length*j.toNat<=sz/\-(2^63)<=j/\j<2^63 then cf m (List.replicate j.toNat x).flatten M else .bad
   |none=>.bad
 |.fdiv,.int i,.int j=>if 0<j/\j<1073741824 then .ok (.int (i / j)) M else .bad
 |.mod,.int i,.int j=>if 0<j then .ok (.int (i % j)) M else .bad
 |.pow,.int i,.int j=>if 0<=j/\j<=1000000/\i.natAbs<2^64 then .ok (.int (i^j.toNat)) M else .bad
 |_,_,_=>.bad
def jg (x:D)(ds:List D):Option Bool:=if aN 64 x&&ds.all (aN 63) then some (ds.any fun y=>bu y x) else none
def kB (x y:Str):Bool:=!(Builtin.Str.occurrences y x 0 y.length 1).isEmpty
def cW:D->Bool
 |.non=>true
 |_=>false
def bN (o:iW)(a b:D)(M:Mem):Option Bool:=match o,a,b with
 |.eq,a,b=>nr M a b
 |.ne,a,b=>(nr M a b).map (!·)
 |.lt,.int i,.int j=>some (decide (i<j))
 |.le,.int i,.int j=>some (decide (i<=j))
 |.gt,.int i,.int j=>some (decide (j<i))
 |.ge,.int i,.int j=>some (decide (j<=i))
 |.isN,a,.non=>some (cW a)
 |.notN,a,.non=>some (!cW a)
 |.isin,.str x,.str y=>some (kB x y)
 |.notin,.str x,.str y=>some (!kB x y)
 |.isin,a,b=>(de M b).bind (jg (view M a))
 |.notin,a,b=>((de M b).bind (jg (view M a))).map (!·)
 |_,_,_=>none
def cY (a i:D)(M:Mem):Option D:=match a,i with
 |.str x,.int i=>if x.cps.size<=sz then (cb x.cps.size i).bind fun j=>(x.cps[j]?).map fun c=>.str ⟨#[c]⟩ else none
 |a,.int i=>(de M a).bind fun ds=>(cb ds.length i).bind fun j=>ds[j]?
 |_,_=>none
def a9 (n d:Nat):D->Option Nat
 |.non=>some d
 |.int v=>some (if v<0 then (v+(n:Int)).toNat else min v.toNat n)
 |_=>none
def cL:Bool->D->Bool
 |true,.int _=>true
 |false,.non=>true
 |_,_=>false
def cut {α:Type}(xs:List α)(lo hi:Nat):List α:=(xs.drop lo).take (hi-lo)
def eG (m:Bool)(a lo hi:D)(M:Mem):Res D:=match a with
 | .tup xs => match a9 xs.length 0 lo, a9 xs.length xs.length hi with
   |some l,some h=>.ok (.tup (cut xs l h)) M
   |_,_=>.bad
 | a => match gW M a with
   | some xs => match a9 xs.length 0 lo, a9 xs.length xs.length hi with
     |some l,some h=>cf m (cut xs l h) M
     |_,_=>.bad
   |none=>.bad
def cx (t:Ty):D->Option Bool
 |.non=>some false
 |.bl _=>some (t==.bool||t==.int)
 |.int _=>some (t==.int)
 |.str _=>some (t==.str)
 |.tup _=>some (t==.tuple)
 |.lst _=>some (t==.list)
 |.frz _=>some (t==.list)
 |.cell _=>some (t==.list)
 |.fn _=>none
 |.exc _ _=>none
def boolsOf:List D->Option (List Bool)
 |[]=>some []
 |.bl b::r=>(boolsOf r).map (b::·)
 |_=>none
def intsOf:List D->Option (List Int)
 |[]=>some []
 |.int b::r=>(intsOf r).map (b::·)
 |_=>none
def gp (f:vZ)(ds:List D)(M:Mem):Res D:=match f,ds with
 |.len,[.str x]=>if x.cps.size<=sz then .ok (.int x.cps.size) M else .bad
 | .len, [d] => match de M d with
   |some xs=>.ok (.int xs.length) M
   |none=>.bad
 |.tuple,[.tup xs]=>.ok (.tup xs) M
 | .tuple, [d] => match gW M d with
   |some xs=>.ok (.tup xs) M
   |none=>.bad
 | .list m, [d] => match de M d with
   |some xs=>cf m xs M
   |none=>.bad
 |.listR m,[.int n]=>if n<2^20 then cf m ((List.range n.toNat).map fun (k:Nat)=>D.int (k:Int)) M else .bad
 | .all, [d] => match gW M d with
   | some xs => match boolsOf xs with
     |some bs=>.ok (.bl (bs.all id)) M
     |none=>.bad
   |none=>.bad
 | .sum, [d] => match gW M d with
   | some xs => match intsOf xs with
     |some is=>.ok (.int is.sum) M
     |none=>.bad
   |none=>.bad
 |_,_=>.bad
def gX:List Nat->List D->Env->Option Env
 |[],[],Z=>some Z
 |i::l,d::ds,Z=>gX l ds (Z.set i (some d))
 |_,_,_=>none
def c7 (t:dD)(d:D)(Z:Env):Option Env:=match t,d with
 |.one i,d=>some (Z.set i (some d))
 |.tup l,.tup ds=>gX l ds Z
 |.tup _,_=>none
abbrev Walk:=Mem->Option (List D)
def eJ:Nat->List D->List D
 |_,[]=>[]
 |k,d::r=>.tup [.int k,d]::eJ (k+1) r
def dJ:List D->List D->List D
 |a::r,b::t=>.tup [a,b]::dJ r t
 |_,_=>[]
def Dr {α:Type}(f:α->D->Mem->Res α):List D->α->Mem->Res α
 |[],a,M=>.ok a M
 |d::r,a,M=>(f a d M).bind (Dr f r)
def gj {α:Type}(f:α->D->Mem->Res α)(w:Walk):Nat->Nat->α->Mem->Res α
 |0,_,_,_=>.bad
 | n + 1, i, a, M => match w M with
   |none=>.bad
   | some ds => match ds[i]? with
     |none=>.ok a M
     |some d=>(f a d M).bind (gj f w n (i+1))
def eF {α:Type}(f:α->D->Mem->Res α)(w:Walk)(a:α)(M:Mem):Res α:=gj f w (((w M).getD []).length+1) 0 a M
def dv {α:Type}(M:Mem):Option α->Res α
 |some a=>.ok a M
 |none=>.bad
@[simp] theorem B8 {α:Type}(M:Mem)(a:α):dv M (some a)=.ok a M:=rfl
@[simp] theorem Lw {α:Type}(M:Mem):(dv M none:Res α)=.bad:=rfl
inductive Fl where
 |next (Z:Env)
 |ret (d:D)
 |exc (x:D) (Z:Env)
end LD
namespace LD
open PySem PySem.Spec PyProof.Rows L2
structure Mu where
 pub:Nat->Option Addr
 priv:List Addr
def Mu.Mt (μ:Mu)(a:Addr):Prop:=(∃k,μ.pub k=some a)\/a∈μ.priv
abbrev Fa:=Nat->Option Addr
def KL (K:PySem.W.Frag)(a:Addr)(xs:List V):Prop:=
 ∃(o:Obj) (its:Array Value) (n:Nat),K.lookup a=some o/\o.cls=.type "list"/\o.dict=none/\o.data=.seq its n/\its.size<=sizeLine/\Vals xs its.toList
def xE (C:Addr)(dx:Option Addr)(a:Addr)(h:Heap):Prop:=∃o vs,h.get? a=some o/\o.cls=.ref C/\o.dict=dx/\o.data=.fields vs/\1<vs.size
def gO (c:Nat):Str:=if c=1 then "number" else "place"
def yW (H:Hp)(c:Nat)(dx:Option Addr):Option Int->Prop
 |none=>dx=none
 |some i=>∃d,dx=some d/\H d=some (.xd [(gO c,.int i)])
def fu (c:Nat):Nat:=1000+c
section
variable (fa:Fa)(K:PySem.W.Frag)(μ:Mu)(H:Hp)
mutual
def Rep:D->V->Prop
 |.non,v=>v=.non
 |.bl b,v=>v=.bl b
 |.int i,v=>v=.int i
 |.str x,v=>v=.str x
 |.tup ds,v=>∃a vs,v=.ref a/\eD K H a vs/\bf ds vs
 |.lst ds,v=>∃a vs,v=.ref a/\(H a=some (.lst vs)/\¬ μ.Mt a)/\bf ds vs
 |.frz ds,v=>∃a vs,v=.ref a/\((∃ob,H a=some (.frz ob (.lst vs)))\/KL K a vs)/\bf ds vs
 |.cell k,v=>∃a,v=.ref a/\μ.pub k=some a
 |.fn f,v=>∃a,v=.ref a/\fa f=some a
 |.exc c p,v=>∃a C dx,v=.ref a/\fa (fu c)=some C/\H a=some (.ext (xE C dx a))/\yW H c dx p
def bf:List D->List V->Prop
 |[],vs=>vs=[]
 |d::ds,vs=>∃v r,vs=v::r/\Rep d v/\bf ds r
end
end
def IsX (o:HO):Prop:=(∃φ,o=.ext φ)\/∃fs,o=.xd fs
structure ExtW (μ:Mu) (H:Hp) (μ':Mu) (H':Hp):Prop where
 mu:∀k a,μ.pub k=some a->μ'.pub k=some a
 tups:∀a vs,Rd H a (.tup vs)->Rd H' a (.tup vs)
 lsts:∀a vs,H a=some (.lst vs)->¬ μ.Mt a->H' a=some (.lst vs)/\¬ μ'.Mt a
 frzs:∀a ob u,H a=some (.frz ob u)->H' a=some (.frz ob u)
 exts:∀a o,IsX o->H a=some o->H' a=some o
structure Ext (μ:Mu) (H:Hp) (μ':Mu) (H':Hp):Prop extends ExtW μ H μ' H' where
 pr:μ'.priv=μ.priv
 pk:∀a∈μ.priv,H' a=H a
theorem ExtW.refl {μ:Mu}{H:Hp}:ExtW μ H μ H:=⟨fun _ _ h=>h,fun _ _ h=>h,fun _ _ h n=>⟨h,n⟩,fun _ _ _ h=>h,fun _ _ _ h=>h⟩
theorem ExtW.trans {μ μ1 μ2:Mu}{H H1 H2:Hp}(a:ExtW μ H μ1 H1)(b:ExtW μ1 H1 μ2 H2):ExtW μ H μ2 H2:=
 ⟨fun k x h=>b.mu k x (a.mu k x h),fun x vs h=>b.tups x vs (a.tups x vs h),fun x vs h n=>b.lsts x vs (a.lsts x vs h n).1 (a.lsts x vs h n).2,fun x ob u h=>b.frzs x ob u (a.frzs x ob u h),fun x o i h=>b.exts x o i (a.exts x o i h)⟩
theorem Ext.refl {μ:Mu}{H:Hp}:Ext μ H μ H:=⟨.refl,rfl,fun _ _=>rfl⟩
theorem Ext.trans {μ μ1 μ2:Mu}{H H1 H2:Hp}(a:Ext μ H μ1 H1)(b:Ext μ1 H1 μ2 H2):Ext μ H μ2 H2:=
 ⟨a.toExtW.trans b.toExtW,b.pr.trans a.pr,fun x hx=>(b.pk x (by rw [a.pr];exact hx)).trans (a.pk x hx)⟩
section
variable {fa:Fa}{K:PySem.W.Frag}{μ μ':Mu}{H H':Hp}
theorem ExtW.sqT {a:Addr}{vs:List V}(x:ExtW μ H μ' H')(h:eD K H a vs):eD K H' a vs:=h.elim (fun z=>.inl (x.tups a vs z)) .inr
mutual
theorem Rep.extW (x:ExtW μ H μ' H'):∀{d:D}{v:V},Rep fa K μ H d v->Rep fa K μ' H' d v
 |.non,v,h=>h
 |.bl b,v,h=>h
 |.int i,v,h=>h
 |.str y,v,h=>h
 | .tup ds, v, h => by
   obtain ⟨a,vs,e,s,r⟩:=h
   exact ⟨a,vs,e,x.sqT s,bf.extW x r⟩
 | .lst ds, v, h => by
   obtain ⟨a,vs,e,s,r⟩:=h
   exact ⟨a,vs,e,x.lsts a vs s.1 s.2,bf.extW x r⟩
 | .frz ds, v, h => by
   obtain ⟨a,vs,e,s,r⟩:=h
   exact ⟨a,vs,e,s.elim (fun ⟨ob,z⟩=>.inl ⟨ob,x.frzs a ob _ z⟩) .inr,bf.extW x r⟩
 | .cell k, v, h => by
   obtain ⟨a,e,m⟩:=h
   exact ⟨a,e,x.mu k a m⟩
 |.fn f,v,h=>h
 | .exc c p, v, h => by
   obtain ⟨a,C,dx,e,f,g,n⟩:=h
   refine ⟨a,C,dx,e,f,x.exts _ _ (.inl ⟨_,rfl⟩) g,?_⟩
   cases p with
   |none=>exact n
   |some i=>exact let ⟨d,h1,h2⟩:=n;⟨d,h1,x.exts _ _ (.inr ⟨_,rfl⟩) h2⟩
theorem bf.extW (x:ExtW μ H μ' H'):∀{ds:List D}{vs:List V},bf fa K μ H ds vs->bf fa K μ' H' ds vs
 |[],vs,h=>h
 | d :: ds, vs, h => by
   obtain ⟨v,r,e,p,q⟩:=h
   exact ⟨v,r,e,Rep.extW x p,bf.extW x q⟩
end
theorem Rep.ext (x:Ext μ H μ' H'){d:D}{v:V}(h:Rep fa K μ H d v):Rep fa K μ' H' d v:=Rep.extW x.toExtW h
theorem bf.ext (x:Ext μ H μ' H'){d:List D}{v:List V}(h:bf fa K μ H d v):bf fa K μ' H' d v:=bf.extW x.toExtW h
theorem bf.length:∀{ds:List D}{vs:List V},bf fa K μ H ds vs->vs.length=ds.length
 | [], vs, h => by
   have h:vs=[]:=h
   subst h;rfl
 | d :: ds, vs, h => by
   obtain ⟨v,r,e,p,q⟩:=h
   subst e
   simp [bf.length q]
theorem bf.get:∀{ds:List D}{vs:List V}{i:Nat}{d:D},bf fa K μ H ds vs->ds[i]?=some d->∃v,vs[i]?=some v/\Rep fa K μ H d v
 |[],_,_,_,_,e=>by simp at e
 | d :: ds, vs, 0, d', h, e => by
   obtain ⟨v,r,rfl,p,q⟩:=h
   simp at e;subst e
   exact ⟨v,rfl,p⟩
 | d :: ds, vs, i + 1, d', h, e => by
   obtain ⟨v,r,rfl,p,q⟩:=h
   obtain ⟨u,h1,h2⟩:=bf.get (i:=i) q (by simpa using e)
   exact ⟨u,by simpa using h1,h2⟩
theorem bf.append:∀{ds es:List D}{vs ws:List V},bf fa K μ H ds vs->bf fa K μ H es ws->bf fa K μ H (ds++es) (vs++ws)
 | [], _, vs, _, h, g => by
   have h:vs=[]:=h
   subst h;exact g
 | d :: ds, es, vs, ws, h, g => by
   obtain ⟨v,r,rfl,p,q⟩:=h
   exact ⟨v,r++ws,rfl,p,bf.append q g⟩
theorem bf.one {d:D}{v:V}(h:Rep fa K μ H d v):bf fa K μ H [d] [v]:=⟨v,[],rfl,h,rfl⟩
theorem bf.drop:∀(n:Nat) {ds:List D}{vs:List V},bf fa K μ H ds vs->bf fa K μ H (ds.drop n) (vs.drop n)
 |0,_,_,h=>h
 | n + 1, [], vs, h => by
   have h:vs=[]:=h
   subst h;exact rfl
 | n + 1, d :: ds, vs, h => by
   obtain ⟨v,r,rfl,p,q⟩:=h
   exact bf.drop n q
theorem bf.take:∀(n:Nat) {ds:List D}{vs:List V},bf fa K μ H ds vs->bf fa K μ H (ds.take n) (vs.take n)
 |0,_,_,h=>rfl
 | n + 1, [], vs, h => by
   have h:vs=[]:=h
   subst h;exact rfl
 | n + 1, d :: ds, vs, h => by
   obtain ⟨v,r,rfl,p,q⟩:=h
   exact ⟨v,r.take n,rfl,p,bf.take n q⟩
theorem bf.set:∀(n:Nat) {ds:List D}{vs:List V}{d:D}{v:V},bf fa K μ H ds vs->Rep fa K μ H d v->bf fa K μ H (ds.set n d) (vs.set n v)
 | _, [], vs, _, _, h, _ => by
   have h:vs=[]:=h
   subst h;exact rfl
 | 0, d :: ds, vs, _, v', h, g => by
   obtain ⟨v,r,rfl,p,q⟩:=h
   exact ⟨v',r,rfl,g,q⟩
 | n + 1, d :: ds, vs, _, v', h, g => by
   obtain ⟨v,r,rfl,p,q⟩:=h
   exact ⟨v,r.set n v',rfl,p,bf.set n q g⟩
theorem bf.reverse:∀{ds:List D}{vs:List V},bf fa K μ H ds vs->bf fa K μ H ds.reverse vs.reverse
 | [], vs, h => by
   have h:vs=[]:=h
   subst h;exact rfl
 | d :: ds, vs, h => by
   obtain ⟨v,r,rfl,p,q⟩:=h
   rw [List.reverse_cons,List.reverse_cons]
   exact bf.append (bf.reverse q) (.one p)
theorem bf.rep:∀(n:Nat) {ds:List D}{vs:List V},bf fa K μ H ds vs->bf fa K μ H (List.replicate n ds).flatten (List.replicate n vs).flatten
 |0,_,_,_=>rfl
 | n + 1, ds, vs, h => by
   rw [List.replicate_succ,List.replicate_succ,List.flatten_cons,List.flatten_cons]
   exact h.append (bf.rep n h)
theorem bf.ints:∀(ns:List Int),bf fa K μ H (ns.map D.int) (ns.map V.int)
 |[]=>rfl
 |n::ns=>⟨.int n,ns.map V.int,rfl,rfl,bf.ints ns⟩
end
structure RelM (fa:Fa) (K:PySem.W.Frag) (μ:Mu) (H:Hp) (M:Mem):Prop where
 at':∀(k:Nat) (ds:List D),M[k]?=some ds->∃a vs,μ.pub k=some a/\H a=some (.lst vs)/\bf fa K μ H ds vs
 out:∀(k:Nat),M.length<=k->μ.pub k=none
 inj:∀j k a,μ.pub j=some a->μ.pub k=some a->j=k
 pv:∀a∈μ.priv,(∃vs,H a=some (.lst vs))/\∀k,μ.pub k≠some a
structure bL (fa:Fa) (K:PySem.W.Frag) (μ:Mu) (H:Hp) (σ:L2.St) (Z:Env):Prop where
 len:σ.length=Z.length
 at':∀(i:Nat) (d:D),Z[i]?=some (some d)->∃v,σ[i]?=some (some v)/\Rep fa K μ H d v
section
variable {fa:Fa}{K:PySem.W.Frag}{μ μ':Mu}{H H':Hp}{σ:L2.St}{Z:Env}{M:Mem}
theorem bL.ext (h:bL fa K μ H σ Z)(x:Ext μ H μ' H'):bL fa K μ' H' σ Z:=
 ⟨h.len,fun i d e=>let ⟨v,h1,h2⟩:=h.at' i d e;⟨v,h1,h2.ext x⟩⟩
theorem bL.set (h:bL fa K μ H σ Z){i:Nat}{d:D}{v:V}(r:Rep fa K μ H d v):bL fa K μ H (σ.set i (some v)) (Z.set i (some d)):=by
 refine ⟨by simp [h.len],fun j d' e=>?_⟩
 by_cases hj:j=i
 ·subst hj
  have hl:j<Z.length:=by
   have:=(List.getElem?_eq_some_iff.mp e).1
   simpa using this
  rw [List.getElem?_set_self hl] at e
  cases e
  exact ⟨v,List.getElem?_set_self (by rw [h.len];exact hl),r⟩
 ·rw [List.getElem?_set_ne (Ne.symm hj)] at e
  obtain ⟨u,h1,h2⟩:=h.at' j d' e
  exact ⟨u,by rw [List.getElem?_set_ne (Ne.symm hj)];exact h1,h2⟩
theorem bL.extW (h:bL fa K μ H σ Z)(x:ExtW μ H μ' H'):bL fa K μ' H' σ Z:=
 ⟨h.len,fun i d e=>let ⟨v,h1,h2⟩:=h.at' i d e;⟨v,h1,h2.extW x⟩⟩
theorem RelM.mu_lt (h:RelM fa K μ H M){k:Nat}{a:Addr}(e:μ.pub k=some a):∃ds vs,M[k]?=some ds/\H a=some (.lst vs)/\bf fa K μ H ds vs:=by
 by_cases hk:k<M.length
 ·obtain ⟨a',vs,h1,h2,h3⟩:=h.at' k M[k] (by simp [hk])
  rw [e] at h1;cases h1
  exact ⟨_,vs,by simp [hk],h2,h3⟩
 ·rw [h.out k (by omega)] at e;cases e
theorem RelM.fresh (h:RelM fa K μ H M){p:Addr}(hp:H p=none):¬ μ.Mt p:=fun e=>by
 rcases e with ⟨k,e⟩|e
 ·obtain ⟨ds,vs,_,h2,_⟩:=h.mu_lt e
  rw [hp] at h2;cases h2
 ·obtain ⟨⟨vs,h2⟩,_⟩:=h.pv p e
  rw [hp] at h2;cases h2
theorem RelM.pne (h:RelM fa K μ H M){p a:Addr}(hp:H p=none)(ha:a∈μ.priv):a≠p:=fun e=>by
 obtain ⟨⟨vs,h2⟩,_⟩:=h.pv a ha
 rw [e,hp] at h2;cases h2
theorem Ext.alloc {p:Addr}{o:HO}(h:RelM fa K μ H M)(hp:H p=none):Ext μ H μ (upd H p o):=by
 have rd:∀a u,Rd H a u->Rd (upd H p o) a u:=fun a u h=>by
  rcases h with h|⟨ob,h⟩
  ·exact .inl (by rw [aX (bA h hp)];exact h)
  ·exact .inr ⟨ob,by rw [aX (bA h hp)];exact h⟩
 exact ⟨⟨fun _ _ h=>h,fun a vs h=>rd a _ h,fun a vs h n=>⟨by rw [aX (bA h hp)];exact h,n⟩,fun a ob u h=>by rw [aX (bA h hp)];exact h,fun a o _ h=>by rw [aX (bA h hp)];exact h⟩,rfl,fun a ha=>by rw [aX (h.pne hp ha)]⟩
theorem RelM.alloc (h:RelM fa K μ H M){p:Addr}{o:HO}(hp:H p=none):RelM fa K μ (upd H p o) M:=
 ⟨fun k ds e=>let ⟨a,vs,h1,h2,h3⟩:=h.at' k ds e;⟨a,vs,h1,by rw [aX (bA h2 hp)];exact h2,h3.ext (Ext.alloc h hp)⟩,h.out,h.inj,fun a ha=>⟨let ⟨⟨vs,e⟩,_⟩:=h.pv a ha;⟨vs,by rw [aX (h.pne hp ha)];exact e⟩,(h.pv a ha).2⟩⟩
def ie (μ:Mu)(n:Nat)(p:Addr):Mu:=⟨fun k=>if k=n then some p else μ.pub k,μ.priv⟩
theorem Ext.cell {p:Addr}{o:HO}(h:RelM fa K μ H M)(hp:H p=none):Ext μ H (ie μ M.length p) (upd H p o):=by
 have rd:∀a u,Rd H a u->Rd (upd H p o) a u:=fun a u h=>by
  rcases h with h|⟨ob,h⟩
  ·exact .inl (by rw [aX (bA h hp)];exact h)
  ·exact .inr ⟨ob,by rw [aX (bA h hp)];exact h⟩
 refine ⟨⟨fun k a e=>?_,fun a vs g=>rd a _ g,fun a vs g n=>⟨by rw [aX (bA g hp)];exact g,fun e=>?_⟩,fun a ob u h=>by rw [aX (bA h hp)];exact h,fun a o _ h=>by rw [aX (bA h hp)];exact h⟩,rfl,fun a ha=>by rw [aX (h.pne hp ha)]⟩
 ·show (if k=M.length then some p else μ.pub k)=some a
  split
  ·next q=>rw [q,h.out _ (tqg _)] at e;cases e
  ·exact e
 ·rcases e with ⟨k,e⟩|e
  ·have e:(if k=M.length then some p else μ.pub k)=some a:=e
   split at e
   ·cases e;exact bA g hp rfl
   ·exact n (.inl ⟨k,e⟩)
  ·exact n (.inr e)
theorem RelM.cell (h:RelM fa K μ H M){p:Addr}{ds:List D}{vs:List V}(hp:H p=none)(r:bf fa K μ H ds vs) :
 RelM fa K (ie μ M.length p) (upd H p (.lst vs)) (M++[ds]):=by
 have x:Ext μ H (ie μ M.length p) (upd H p (.lst vs)):=Ext.cell h hp
 have np:=h.fresh hp
 refine ⟨fun k ds' e=>?_,fun k hk=>?_,fun j k a h1 h2=>?_,fun a ha=>?_⟩
 ·by_cases hk:k<M.length
  ·rw [List.getElem?_append_left hk] at e
   obtain ⟨a,ws,h1,h2,h3⟩:=h.at' k ds' e
   exact ⟨a,ws,x.mu k a h1,by rw [aX (bA h2 hp)];exact h2,h3.ext x⟩
  ·have hk':k=M.length:=by
    have:=(List.getElem?_eq_some_iff.mp e).1
    simp at this;omega
   subst hk'
   rw [List.getElem?_append_right (tqg _)] at e
   simp at e
   subst e
   exact ⟨p,vs,by simp [ie],cE,r.ext x⟩
 ·simp at hk
  show (if k=M.length then some p else μ.pub k)=none
  rw [if_neg (by omega)]
  exact h.out k (by omega)
 ·have h1:(if j=M.length then some p else μ.pub j)=some a:=h1
  have h2:(if k=M.length then some p else μ.pub k)=some a:=h2
  split at h1<;>split at h2
  ·omega
  ·cases h1;exact absurd (.inl ⟨k,h2⟩) np
  ·cases h2;exact absurd (.inl ⟨j,h1⟩) np
  ·exact h.inj j k a h1 h2
 ·obtain ⟨⟨ws,e⟩,n⟩:=h.pv a ha
  refine ⟨⟨ws,by rw [aX (h.pne hp ha)];exact e⟩,fun k e2=>?_⟩
  have e2:(if k=M.length then some p else μ.pub k)=some a:=e2
  split at e2
  ·cases e2;exact h.pne hp ha rfl
  ·exact n k e2
theorem ExtW.write {a:Addr}{vs ws:List V}(h2:H a=some (.lst vs))(e:μ.Mt a):ExtW μ H μ (upd H a (.lst ws)):=by
 have ne:∀b u,Rd H b u->(∀xs,u≠.lst xs)->b≠a:=fun b u g nu q=>by
  subst q
  rcases g with g|⟨ob,g⟩
  ·rw [h2] at g;cases g;exact nu _ rfl
  ·rw [h2] at g;cases g
 have rd:∀b u,b≠a->Rd H b u->Rd (upd H a (.lst ws)) b u:=fun b u nb g=>by
  rcases g with g|⟨ob,g⟩
  ·exact .inl (by rw [aX nb];exact g)
  ·exact .inr ⟨ob,by rw [aX nb];exact g⟩
 exact ⟨fun _ _ q=>q,fun b us g=>rd b _ (ne b _ g (fun xs q=>by cases q)) g,fun b us g n=>⟨by rw [aX (fun q=>n (by rw [q];exact e))];exact g,n⟩,fun b ob u g=>by rw [aX (fun q=>by rw [q,h2] at g;cases g)];exact g,fun b o i g=>by rw [aX (fun q=>by rw [q,h2] at g;cases g;rcases i with ⟨_,i⟩|⟨_,i⟩<;>cases i)];exact g⟩
theorem Ext.write {k:Nat}{a:Addr}{vs ws:List V}(h:RelM fa K μ H M)(e:μ.pub k=some a):Ext μ H μ (upd H a (.lst ws)):=by
 obtain ⟨ds,vs,_,h2,_⟩:=h.mu_lt e
 exact ⟨ExtW.write h2 (.inl ⟨k,e⟩),rfl,fun b hb=>by rw [aX (fun q=>(h.pv b hb).2 k (by rw [q];exact e))]⟩
theorem RelM.write (h:RelM fa K μ H M){k:Nat}{a:Addr}{ds:List D}{ws:List V}(e:μ.pub k=some a)(r:bf fa K μ H ds ws):RelM fa K μ (upd H a (.lst ws)) (M.set k ds):=by
 have x:Ext μ H μ (upd H a (.lst ws)):=Ext.write (vs:=ws) h e
 refine ⟨fun j es q=>?_,fun j hj=>h.out j (by simpa using hj),h.inj,fun b hb=>⟨let ⟨⟨vs,g⟩,_⟩:=h.pv b hb;⟨vs,by rw [x.pk b hb];exact g⟩,(h.pv b hb).2⟩⟩
 by_cases hj:j=k
 ·subst hj
  have hl:j<M.length:=by have:=(List.getElem?_eq_some_iff.mp q).1;simpa using this
  rw [List.getElem?_set_self hl] at q
  cases q
  exact ⟨a,ws,e,cE,r.ext x⟩
 ·rw [List.getElem?_set_ne (Ne.symm hj)] at q
  obtain ⟨b,vs,h1,h2,h3⟩:=h.at' j es q
  have nb:b≠a:=fun z=>hj (h.inj j k a (z ▸ h1) e)
  exact ⟨b,vs,h1,by rw [aX nb];exact h2,h3.ext x⟩
end
def au {α:Type}(r:Res α)(k:α->Mem->Prop):Prop:=match r with
 |.ok a M=>k a M
 |_=>False
theorem bq {α β:Type}{r:Res α}{f:α->Mem->Res β}{k:β->Mem->Prop}(h:au (r.bind f) k):∃a M,r=.ok a M/\au (f a M) k:=by
 cases r with
 |ok a M=>exact ⟨a,M,rfl,h⟩
 |err=>exact h.elim
 |bad=>exact h.elim
theorem oy {α:Type}{M:Mem}{o:Option α}{k:α->Mem->Prop}(h:au (dv M o) k):∃a,o=some a/\k a M:=by
 cases o with
 |none=>exact h.elim
 |some a=>exact ⟨a,rfl,h⟩
theorem a7 {α:Type}{r:Res α}{k k':α->Mem->Prop}(h:au r k)(m:∀a M,k a M->k' a M):au r k':=by
 cases r with
 |ok a M=>exact m a M h
 |err=>exact h
 |bad=>exact h
section
variable (fa:Fa)(K:PySem.W.Frag)
def bG (μ:Mu)(H:Hp)(Q:VK)(d:D)(M':Mem):Prop:=∀v H' μ',Ext μ H μ' H'->RelM fa K μ' H' M'->Rep fa K μ' H' d v->Q v H'
def tE (g:Env->Mem->Res D):TE:=fun σ H Q=>∃μ Z M,bL fa K μ H σ Z/\RelM fa K μ H M/\au (g Z M) (bG fa K μ H Q)
def tT (g:Env->Mem->Res Bool):TT:=fun σ H Q=>∃μ Z M,bL fa K μ H σ Z/\RelM fa K μ H M/\au (g Z M) fun b M'=>∀H' μ',Ext μ H μ' H'->RelM fa K μ' H' M'->Q b H'
def tA (g:Env->Mem->Res (List D)):TA:=fun σ H Q=>∃μ Z M,bL fa K μ H σ Z/\RelM fa K μ H M/\au (g Z M) fun ds M'=>∀vs H' μ',Ext μ H μ' H'->RelM fa K μ' H' M'->bf fa K μ' H' ds vs->Q vs H'
end
def oh (New:Addr->Prop)(C:Addr)(dx:Option Addr)(a:Addr)(h:Heap)(H:Hp):Prop:=New a/\H a=none/\∃o vs,h.get? a=some o/\o.cls=.ref C/\o.dict=dx/\o.data=.fields vs/\
 (vs[1]?=some .none\/∃T oT ts,vs[1]?=some (.ref T)/\T≠a/\New T/\H T=none/\h.get? T=some oT/\oT.data=.fields ts/\ts[3]?=some .none)
def og (X:Cx)(b:Addr):Prop:=X.s₀.heap.get? b=none/\∀p∈X.pn,p.1≠b
def XW (fa:Fa)(X:Cx)(μ:Mu)(H:Hp)(x:D)(Z:Env)(M:Mem):Prop:=∀pins σ' H' μ' s' a C dx c p,Inv X pins σ' H' s'->Ext μ H μ' H'->bL fa X.K μ' H' σ' Z->RelM fa X.K μ' H' M->x=.exc c p->fa (fu c)=some C->yW H' c dx p->oh (og X) C dx a s'.heap H'->X.xe (.ref a) s'
def pf (fa:Fa)(X:Cx)(μ:Mu)(H:Hp)(D:Ends):Fl->Mem->Prop
 |.next ρ',M'=>∀σ' H' μ',Ext μ H μ' H'->bL fa X.K μ' H' σ' ρ'->RelM fa X.K μ' H' M'->D.nx σ' H'
 |.ret d,M'=>bG fa X.K μ H D.rt d M'
 |.exc x ρ',M'=>XW fa X μ H x ρ' M'
def tF (fa:Fa)(X:Cx)(g:Env->Mem->Res Fl):TS:=fun D σ H=>∃μ Z M,bL fa X.K μ H σ Z/\RelM fa X.K μ H M/\au (g Z M) (pf fa X μ H D)
theorem XW.ext {fa:Fa}{X:Cx}{μ μ':Mu}{H H':Hp}{x:D}{Z:Env}{M:Mem}(h:XW fa X μ H x Z M)(y:Ext μ H μ' H'):XW fa X μ' H' x Z M:=fun pins σ1 H1 μ1 s1 a C dx c p I e=>h pins σ1 H1 μ1 s1 a C dx c p I (y.trans e)
section
variable {fa:Fa}{K:PySem.W.Frag}{μ μ':Mu}{H H':Hp}{Q:VK}
theorem bG.ext {d:D}{M:Mem}(h:bG fa K μ H Q d M)(x:Ext μ H μ' H'):bG fa K μ' H' Q d M:=fun v H'' μ'' y m r=>h v H'' μ'' (x.trans y) m r
theorem md {r:Res D}(h:au r (bG fa K μ H Q))(x:Ext μ H μ' H'):au r (bG fa K μ' H' Q):=a7 h fun _ _ w=>w.ext x
end
theorem cG {X:Cx}{e:Expr}{t t':TE}(h:PE X e t)(i:∀σ H Q,t' σ H Q->t σ H Q):PE X e t':=fun pins s σ H Q I q=>h pins s σ H Q I (i σ H Q q)
theorem nM {X:Cx}{e:Expr}{t t':TT}(h:PT X e t)(i:∀σ H Q,t' σ H Q->t σ H Q):PT X e t':=fun pins s σ H Q I q=>h pins s σ H Q I (i σ H Q q)
theorem zW {X:Cx}{e:Expr}{t t':TT}(h:PW X e t)(i:∀σ H Q,t' σ H Q->t σ H Q):PW X e t':=fun w pins s σ H Q I q=>h w pins s σ H Q I (i σ H Q q)
theorem Ae {X:Cx}{e:List Expr}{t t':TA}(h:PA X e t)(i:∀σ H Q,t' σ H Q->t σ H Q):PA X e t':=fun pos pins s σ H Q I q=>h pos pins s σ H Q I (i σ H Q q)
theorem jd {X:Cx}{e:Stmt}{t t':TS}(h:PS X e t)(i:∀D σ H,t' D σ H->t D σ H):PS X e t':=fun pins s σ H D I q=>h pins s σ H D I (i D σ H q)
theorem wZ {X:Cx}{e:List Stmt}{t t':TS}(h:oa X e t)(i:∀D σ H,t' D σ H->t D σ H):oa X e t':=fun pins s σ H D I q=>h pins s σ H D I (i D σ H q)
section
variable {fa:Fa}{K:PySem.W.Frag}{μ:Mu}{H:Hp}{σ:L2.St}{Z:Env}{M:Mem}
theorem t1 {g:Env->Mem->Res D}{β:Type}{f:D->Mem->Res β}{P:β->Mem->Prop}{R:V->Hp->Prop}(hE:bL fa K μ H σ Z)(hM:RelM fa K μ H M)(h:au ((g Z M).bind f) P)
 (k:∀x M1 v H1 μ1,Ext μ H μ1 H1->bL fa K μ1 H1 σ Z->RelM fa K μ1 H1 M1->Rep fa K μ1 H1 x v->au (f x M1) P->R v H1):tE fa K g σ H R:=by
 obtain ⟨x,M1,e,q⟩:=bq h
 refine ⟨μ,Z,M,hE,hM,?_⟩
 rw [e]
 exact fun v H1 μ1 x1 m1 r1=>k x M1 v H1 μ1 x1 (hE.ext x1) m1 r1 q
theorem zv {g:Env->Mem->Res Bool}{β:Type}{f:Bool->Mem->Res β}{P:β->Mem->Prop}{R:Bool->Hp->Prop}(hE:bL fa K μ H σ Z)(hM:RelM fa K μ H M)(h:au ((g Z M).bind f) P)
 (k:∀b M1 H1 μ1,Ext μ H μ1 H1->bL fa K μ1 H1 σ Z->RelM fa K μ1 H1 M1->au (f b M1) P->R b H1):tT fa K g σ H R:=by
 obtain ⟨b,M1,e,q⟩:=bq h
 refine ⟨μ,Z,M,hE,hM,?_⟩
 rw [e]
 exact fun H1 μ1 x1 m1=>k b M1 H1 μ1 x1 (hE.ext x1) m1 q
theorem wJ {g:Env->Mem->Res (List D)}{β:Type}{f:List D->Mem->Res β}{P:β->Mem->Prop}{R:List V->Hp->Prop}(hE:bL fa K μ H σ Z)(hM:RelM fa K μ H M)(h:au ((g Z M).bind f) P)
 (k:∀ds M1 vs H1 μ1,Ext μ H μ1 H1->bL fa K μ1 H1 σ Z->RelM fa K μ1 H1 M1->bf fa K μ1 H1 ds vs->au (f ds M1) P->R vs H1):tA fa K g σ H R:=by
 obtain ⟨ds,M1,e,q⟩:=bq h
 refine ⟨μ,Z,M,hE,hM,?_⟩
 rw [e]
 exact fun v H1 μ1 x1 m1 r1=>k ds M1 v H1 μ1 x1 (hE.ext x1) m1 r1 q
end
end LD
namespace LD
open PySem PySem.Spec PyProof.Rows L2
mutual
def toPy:D->PyData
 |.non=>.none
 |.bl b=>.bool b
 |.int i=>.int i
 |.str x=>.str x
 |.tup ds=>.tuple (dB ds)
 |.lst ds=>.list (dB ds)
 |.frz _=>.none
 |.cell _=>.none
 |.fn _=>.none
 |.exc _ _=>.none
def dB:List D->List PyData
 |[]=>[]
 |d::r=>toPy d::dB r
end
theorem rh:∀(n:Nat) (d:D),aN n d=true->(toPy d).canLay0=true/\(toPy d).depth<=n:=by
 have all:∀(n:Nat),(∀d,aN n d=true->(toPy d).canLay0=true/\(toPy d).depth<=n)->∀ds:List D,ds.all (aN n)=true->PyData.canLayAll0 (dB ds)=true/\PyData.depthAll (dB ds)<=n:=by
  intro n h ds
  induction ds with
  |nil=>intro _;simp [dB,PyData.canLayAll0,PyData.depthAll]
  | cons d r ih =>
    intro q
    simp only [List.all_cons,Bool.and_eq_true] at q
    obtain ⟨h1,h2⟩:=h d q.1
    obtain ⟨h3,h4⟩:=ih q.2
    simp only [dB,PyData.canLayAll0,PyData.depthAll,h1,h3,Bool.and_self,true_and]
    omega
 intro n
 induction n with
 | zero =>
   intro d h
   cases d with
   |str x=>exact ⟨by simpa [toPy,PyData.canLay0,PyData.strOk,aN] using h,by simp [toPy,PyData.depth]⟩
   |tup _=>simp [aN] at h
   |lst _=>simp [aN] at h
   |frz _=>simp [aN] at h
   |cell _=>simp [aN] at h
   |fn _=>simp [aN] at h
   |exc y p=>simp [aN] at h
   |_=>exact ⟨by simp [toPy,PyData.canLay0],by simp [toPy,PyData.depth]⟩
 | succ n ih =>
   intro d h
   cases d with
   |str x=>exact ⟨by simpa [toPy,PyData.canLay0,PyData.strOk,aN] using h,by simp [toPy,PyData.depth]⟩
   | tup ds =>
     obtain ⟨h1,h2⟩:=all n ih ds (by simpa [aN] using h)
     simp only [toPy,PyData.canLay0,PyData.depth,h1,true_and]
     omega
   | lst ds =>
     obtain ⟨h1,h2⟩:=all n ih ds (by simpa [aN] using h)
     simp only [toPy,PyData.canLay0,PyData.depth,h1,true_and]
     omega
   |frz _=>simp [aN] at h
   |cell _=>simp [aN] at h
   |fn _=>simp [aN] at h
   |exc y p=>simp [aN] at h
   |_=>exact ⟨by simp [toPy,PyData.canLay0],by simp [toPy,PyData.depth]⟩
theorem lB {d:D}(h:aN 64 d=true):SeqAt.shaped (toPy d)=true:=by
 obtain ⟨h1,h2⟩:=rh 64 d h
 simp [SeqAt.shaped,h1,h2]
mutual
theorem oH:∀(n m:Nat) (a b:D),aN n a=true->aN m b=true->PyData.eqv (toPy a) (toPy b)=bu a b
 | n, m, .tup a, .tup b, ha, hb => by
   cases n with
   |zero=>simp [aN] at ha
   | succ n =>
     cases m with
     |zero=>simp [aN] at hb
     | succ m =>
       simp only [toPy,PyData.eqv,bu]
       exact pT n m a b (by simpa [aN] using ha) (by simpa [aN] using hb)
 | n, m, .lst a, .lst b, ha, hb => by
   cases n with
   |zero=>simp [aN] at ha
   | succ n =>
     cases m with
     |zero=>simp [aN] at hb
     | succ m =>
       simp only [toPy,PyData.eqv,bu]
       exact pT n m a b (by simpa [aN] using ha) (by simpa [aN] using hb)
 |n,m,.frz _,_,ha,hb=>by cases n<;>simp [aN] at ha
 |n,m,.cell _,_,ha,hb=>by cases n<;>simp [aN] at ha
 |n,m,.fn _,_,ha,hb=>by cases n<;>simp [aN] at ha
 |n,m,.exc _ _,_,ha,hb=>by cases n<;>simp [aN] at ha
 |n,m,_,.frz _,ha,hb=>by cases m<;>simp [aN] at hb
 |n,m,_,.cell _,ha,hb=>by cases m<;>simp [aN] at hb
 |n,m,_,.fn _,ha,hb=>by cases m<;>simp [aN] at hb
 |n,m,_,.exc _ _,ha,hb=>by cases m<;>simp [aN] at hb
 |_,_,.non,.non,_,_=>by simp [toPy,PyData.eqv,bu]
 |_,_,.non,.bl _,_,_=>by simp [toPy,PyData.eqv,bu]
 |_,_,.non,.int _,_,_=>by simp [toPy,PyData.eqv,bu]
 |_,_,.non,.str _,_,_=>by simp [toPy,PyData.eqv,bu]
 |_,_,.non,.tup _,_,_=>by simp [toPy,PyData.eqv,bu]
 |_,_,.non,.lst _,_,_=>by simp [toPy,PyData.eqv,bu]
 |_,_,.bl _,.non,_,_=>by simp [toPy,PyData.eqv,bu]
 |_,_,.bl _,.bl _,_,_=>by simp [toPy,PyData.eqv,bu]
 |_,_,.bl _,.int _,_,_=>by simp [toPy,PyData.eqv,bu]
 |_,_,.bl _,.str _,_,_=>by simp [toPy,PyData.eqv,bu]
 |_,_,.bl _,.tup _,_,_=>by simp [toPy,PyData.eqv,bu]
 |_,_,.bl _,.lst _,_,_=>by simp [toPy,PyData.eqv,bu]
 |_,_,.int _,.non,_,_=>by simp [toPy,PyData.eqv,bu]
 |_,_,.int _,.bl _,_,_=>by simp [toPy,PyData.eqv,bu]
 |_,_,.int _,.int _,_,_=>by simp [toPy,PyData.eqv,bu]
 |_,_,.int _,.str _,_,_=>by simp [toPy,PyData.eqv,bu]
 |_,_,.int _,.tup _,_,_=>by simp [toPy,PyData.eqv,bu]
 |_,_,.int _,.lst _,_,_=>by simp [toPy,PyData.eqv,bu]
 |_,_,.str _,.non,_,_=>by simp [toPy,PyData.eqv,bu]
 |_,_,.str _,.bl _,_,_=>by simp [toPy,PyData.eqv,bu]
 |_,_,.str _,.int _,_,_=>by simp [toPy,PyData.eqv,bu]
 |_,_,.str _,.str _,_,_=>by simp [toPy,PyData.eqv,bu]
 |_,_,.str _,.tup _,_,_=>by simp [toPy,PyData.eqv,bu]
 |_,_,.str _,.lst _,_,_=>by simp [toPy,PyData.eqv,bu]
 |_,_,.tup _,.non,_,_=>by simp [toPy,PyData.eqv,bu]
 |_,_,.tup _,.bl _,_,_=>by simp [toPy,PyData.eqv,bu]
 |_,_,.tup _,.int _,_,_=>by simp [toPy,PyData.eqv,bu]
 |_,_,.tup _,.str _,_,_=>by simp [toPy,PyData.eqv,bu]
 |_,_,.tup _,.lst _,_,_=>by simp [toPy,PyData.eqv,bu]
 |_,_,.lst _,.non,_,_=>by simp [toPy,PyData.eqv,bu]
 |_,_,.lst _,.bl _,_,_=>by simp [toPy,PyData.eqv,bu]
 |_,_,.lst _,.int _,_,_=>by simp [toPy,PyData.eqv,bu]
 |_,_,.lst _,.str _,_,_=>by simp [toPy,PyData.eqv,bu]
 |_,_,.lst _,.tup _,_,_=>by simp [toPy,PyData.eqv,bu]
theorem pT:∀(n m:Nat) (a b:List D),a.all (aN n)=true->b.all (aN m)=true->PyData.eqvAll (dB a) (dB b)=lU a b
 |n,m,[],[],_,_=>by simp [dB,PyData.eqvAll,lU]
 |n,m,[],_::_,_,_=>by simp [dB,PyData.eqvAll,lU]
 |n,m,_::_,[],_,_=>by simp [dB,PyData.eqvAll,lU]
 | n, m, x :: a, y :: b, ha, hb => by
   simp only [List.all_cons,Bool.and_eq_true] at ha hb
   simp only [dB,PyData.eqvAll,lU]
   rw [oH n m x y ha.1 hb.1,pT n m a b ha.2 hb.2]
end
section
variable {fa:Fa}{X:Cx}{μ:Mu}{H:Hp}{σ:L2.St}{pins:List (Addr×Obj)}{s:Shared}{M:Mem}
theorem k9 {d:D}{v:V}{ds:List D}(hM:RelM fa X.K μ H M)(h:Rep fa X.K μ H d v)(e:lh M d=some ds):∃a vs,v=.ref a/\H a=some (.lst vs)/\bf fa X.K μ H ds vs:=by
 cases d with
 | lst xs =>
   cases e
   obtain ⟨a,vs,e,s,r⟩:=h
   exact ⟨a,vs,e,s.1,r⟩
 | cell k =>
   obtain ⟨a,rfl,hk⟩:=h
   obtain ⟨b,vs,h1,h2,h3⟩:=hM.at' k ds e
   rw [hk] at h1;cases h1
   exact ⟨a,vs,rfl,h2,h3⟩
 |_=>cases e
theorem cw {d:D}{v:V}{ds:List D}(hM:RelM fa X.K μ H M)(h:Rep fa X.K μ H d v)(e:gW M d=some ds):∃a vs,v=.ref a/\dA X.K H a vs/\bf fa X.K μ H ds vs:=by
 cases d with
 | lst xs =>
   obtain ⟨a,vs,h1,h2,h3⟩:=k9 (ds:=ds) hM h e
   exact ⟨a,vs,h1,.of h2,h3⟩
 | frz xs =>
   cases e
   obtain ⟨a,vs,e,s,r⟩:=h
   exact ⟨a,vs,e,s.elim (fun z=>.inl (.inr z)) .inr,r⟩
 | cell k =>
   obtain ⟨a,vs,h1,h2,h3⟩:=k9 (ds:=ds) hM h e
   exact ⟨a,vs,h1,.of h2,h3⟩
 |_=>cases e
theorem kZ {d:D}{v:V}{ds:List D}(hM:RelM fa X.K μ H M)(h:Rep fa X.K μ H d v)(e:de M d=some ds):∃a vs,v=.ref a/\(dA X.K H a vs\/eD X.K H a vs)/\bf fa X.K μ H ds vs:=by
 cases d with
 | tup xs =>
   cases e
   obtain ⟨a,vs,rfl,h1,h2⟩:=h
   exact ⟨a,vs,rfl,.inr h1,h2⟩
 | lst xs =>
   obtain ⟨a,vs,h1,h2,h3⟩:=cw (ds:=ds) hM h e
   exact ⟨a,vs,h1,.inl h2,h3⟩
 | frz xs =>
   obtain ⟨a,vs,h1,h2,h3⟩:=cw (ds:=ds) hM h e
   exact ⟨a,vs,h1,.inl h2,h3⟩
 | cell k =>
   obtain ⟨a,vs,h1,h2,h3⟩:=cw (ds:=ds) hM h e
   exact ⟨a,vs,h1,.inl h2,h3⟩
 |_=>cases e
mutual
theorem fm (I:Inv X pins σ H s):∀(d:D) (n:Nat) (v:V) (u:Value),aN n d=true->Rep fa X.K μ H d v->RelV v u->∃as,Reads s.heap u (toPy d) as
 | .non, n, v, u, _, h, r => by
   obtain rfl:v=.non:=h
   obtain rfl:u=Value.none:=r
   exact ⟨_,.none⟩
 | .bl b, n, v, u, _, h, r => by
   obtain rfl:v=.bl b:=h
   obtain rfl:u=Value.bool b:=r
   exact ⟨_,.bool b⟩
 | .int i, n, v, u, _, h, r => by
   obtain rfl:v=.int i:=h
   obtain ⟨t,rfl⟩:=r
   exact ⟨_,.int i t⟩
 | .str x, n, v, u, _, h, r => by
   obtain rfl:v=.str x:=h
   obtain ⟨t,rfl⟩:=r
   exact ⟨_,.str x t⟩
 | .tup ds, n, v, u, hp, h, r => by
   cases n with
   |zero=>simp [aN] at hp
   | succ n =>
     obtain ⟨a,vs,rfl,h1,h2⟩:=h
     obtain rfl:u=Value.ref a:=r
     obtain ⟨its,rv,⟨o,e1,e2,k,e3⟩,_⟩:=I.tuple h1
     obtain ⟨as,q⟩:=ic I ds n vs its (by simpa [aN] using hp) h2 rv
     exact ⟨_,.tuple e1 e2 e3 (by simpa using q)⟩
 | .lst ds, n, v, u, hp, h, r => by
   cases n with
   |zero=>simp [aN] at hp
   | succ n =>
     obtain ⟨a,vs,rfl,h1,h2⟩:=h
     obtain rfl:u=Value.ref a:=r
     obtain ⟨its,rv,⟨o,k,e1,e2,e4,e3⟩,_⟩:=I.list (dA.of h1.1)
     obtain ⟨as,q⟩:=ic I ds n vs its (by simpa [aN] using hp) h2 rv
     exact ⟨_,.list e1 e2 e3 (by simpa using q)⟩
 |.frz k,n,v,u,hp,_,_=>by cases n<;>simp [aN] at hp
 |.cell k,n,v,u,hp,_,_=>by cases n<;>simp [aN] at hp
 |.fn f,n,v,u,hp,_,_=>by cases n<;>simp [aN] at hp
 |.exc _ _,n,v,u,hp,_,_=>by cases n<;>simp [aN] at hp
theorem ic (I:Inv X pins σ H s):∀(ds:List D) (n:Nat) (vs:List V) (us:List Value),ds.all (aN n)=true->bf fa X.K μ H ds vs->Vals vs us->∃as,ReadsAll s.heap us (dB ds) as
 | [], n, vs, us, _, h, r => by
   obtain rfl:vs=[]:=h
   cases r
   exact ⟨_,.nil⟩
 | d :: ds, n, vs, us, hp, h, r => by
   obtain ⟨v,vr,rfl,h1,h2⟩:=h
   simp only [List.all_cons,Bool.and_eq_true] at hp
   cases r with
   | cons r1 r2 =>
     obtain ⟨as,q1⟩:=fm I d n v _ hp.1 h1 r1
     obtain ⟨bs,q2⟩:=ic I ds n vr _ hp.2 h2 r2
     exact ⟨_,.cons q1 q2⟩
end
theorem DM {d:D}{n:Nat}(h:aN n (view M d)=true):(view M d=d/\aN n d=true)\/∃ds,gW M d=some ds/\view M d=.lst ds:=by
 cases d with
 | cell k =>
   cases e:M[k]? with
   | none =>
     have ev:view M (.cell k)=.cell k:=by simp [view,e]
     rw [ev] at h
     cases n<;>simp [aN] at h
   |some ds=>exact .inr ⟨ds,e,by simp [view,e]⟩
 |frz ds=>exact .inr ⟨ds,rfl,rfl⟩
 |_=>exact .inl ⟨rfl,h⟩
theorem mE (I:Inv X pins σ H s)(hM:RelM fa X.K μ H M){d:D}{v:V}{u:Value}(hp:aN 64 (view M d)=true)(h:Rep fa X.K μ H d v)(r:RelV v u):∃as,Reads s.heap u (toPy (view M d)) as:=by
 rcases DM hp with ⟨e,hp'⟩|⟨ds,e,ev⟩
 ·rw [e];exact fm I _ 64 v u hp' h r
 ·rw [ev] at hp ⊢
  obtain ⟨a,vs,rfl,h1,h2⟩:=cw (ds:=ds) hM h e
  obtain rfl:u=Value.ref a:=r
  obtain ⟨its,rv,⟨o,k,e1,e2,e4,e3⟩,_⟩:=I.list h1
  obtain ⟨as,q⟩:=ic I ds 63 vs its (by simpa [aN] using hp) h2 rv
  exact ⟨_,.list e1 e2 e3 (by simpa using q)⟩
theorem lM (I:Inv X pins σ H s)(hM:RelM fa X.K μ H M):∀(n m:Nat) (d:D) (v:V) (u:Value),aN m (d4 n M d)=true->Rep fa X.K μ H d v->RelV v u->∃as,Reads s.heap u (toPy (d4 n M d)) as
 |0,m,d,v,u,hp,h,r=>fm I d m v u hp h r
 | n + 1, m, d, v, u, hp, h, r => by
   have ih:=lM I hM n
   have all:∀(m:Nat) (ds:List D) (vs:List V) (us:List Value),(ds.map (d4 n M)).all (aN m)=true->bf fa X.K μ H ds vs->Vals vs us->∃as,ReadsAll s.heap us (dB (ds.map (d4 n M))) as:=by
    intro m ds
    induction ds with
    | nil =>
      intro vs us _ h r
      obtain rfl:vs=[]:=h
      cases r
      exact ⟨_,.nil⟩
    | cons d ds ihl =>
      intro vs us hp h r
      obtain ⟨v,vr,rfl,h1,h2⟩:=h
      simp only [List.map_cons,List.all_cons,Bool.and_eq_true] at hp
      cases r with
      | cons r1 r2 =>
        obtain ⟨as,q1⟩:=ih m d v _ hp.1 h1 r1
        obtain ⟨bs,q2⟩:=ihl vr _ hp.2 h2 r2
        exact ⟨_,.cons q1 q2⟩
   have lst:∀(ds:List D) (a:Addr) (vs:List V),aN m (.lst (ds.map (d4 n M)))=true->dA X.K H a vs->bf fa X.K μ H ds vs->u=.ref a->∃as,Reads s.heap u (toPy (.lst (ds.map (d4 n M)))) as:=by
    intro ds a vs hp h1 h2 e
    subst e
    cases m with
    |zero=>simp [aN] at hp
    | succ m =>
      obtain ⟨its,rv,⟨o,k,e1,e2,e4,e3⟩,_⟩:=I.list h1
      obtain ⟨as,q⟩:=all m ds vs its (by simpa [aN] using hp) h2 rv
      exact ⟨_,.list e1 e2 e3 (by simpa using q)⟩
   cases d with
   | cell k =>
     cases e:M[k]? with
     | none =>
       have ev:d4 (n+1) M (.cell k)=.cell k:=by simp [d4,e]
       rw [ev] at hp
       cases m<;>simp [aN] at hp
     | some ds =>
       have ev:d4 (n+1) M (.cell k)=.lst (ds.map (d4 n M)):=by simp [d4,e]
       rw [ev] at hp ⊢
       obtain ⟨a,vs,rfl,h1,h2⟩:=cw (ds:=ds) hM h e
       exact lst ds a vs hp h1 h2 r
   | frz ds =>
     obtain ⟨a,vs,rfl,h1,h2⟩:=cw (ds:=ds) hM h rfl
     exact lst ds a vs hp h1 h2 r
   | lst ds =>
     obtain ⟨a,vs,rfl,h1,h2⟩:=cw (ds:=ds) hM h rfl
     exact lst ds a vs hp h1 h2 r
   | tup ds =>
     have hp:aN m (.tup (ds.map (d4 n M)))=true:=hp
     cases m with
     |zero=>simp [aN] at hp
     | succ m =>
       obtain ⟨a,vs,rfl,h1,h2⟩:=h
       obtain rfl:u=Value.ref a:=r
       obtain ⟨its,rv,⟨o,e1,e2,k,e3⟩,_⟩:=I.tuple h1
       obtain ⟨as,q⟩:=all m ds vs its (by simpa [aN] using hp) h2 rv
       exact ⟨_,.tuple e1 e2 e3 (by simpa using q)⟩
   |non=>exact fm I .non m v u hp h r
   |bl b=>exact fm I (.bl b) m v u hp h r
   |int i=>exact fm I (.int i) m v u hp h r
   |str x=>exact fm I (.str x) m v u hp h r
   |fn f=>exact fm I (.fn f) m v u hp h r
   |exc y p=>exact fm I (.exc y p) m v u hp h r
abbrev Rm (X:Cx):Prop:=X.A.units+100<cLine
def jc (fa:Fa)(K:PySem.W.Frag)(o:iW):R2:=fun x y H Q=>∃μ M dx dy b,RelM fa K μ H M/\Rep fa K μ H dx x/\Rep fa K μ H dy y/\bN o dx dy M=some b/\Q (.bl b) H
theorem vI {a b:D}{k:Bool}(hs:(jt a&&jt b)=false)(h:qT a b=some k):aN 64 a=true/\aN 64 b=true/\k=bu a b:=by
 unfold qT at h
 rw [hs,Bool.false_or] at h
 split at h
 ·next q=>
  simp only [Bool.and_eq_true] at q
  exact ⟨q.1,q.2,(Option.some.inj h).symm⟩
 ·cases h
theorem vD (d:D):jt (view M d)=jt d:=by
 cases d with
 |cell k=>cases e:M[k]?<;>simp [view,e,jt]
 |_=>rfl
theorem sW (n:Nat)(d:D):jt (d4 n M d)=jt d:=by
 cases n with
 |zero=>rfl
 | succ n =>
   cases d with
   |cell k=>cases e:M[k]?<;>simp [d4,e,jt]
   |_=>rfl
theorem td (I:Inv X pins σ H s)(hM:RelM fa X.K μ H M){a b:D}{x y:V}{v u:Value}{k:Bool}(hs:(jt a&&jt b)=false)(h:nr M a b=some k)(h1:Rep fa X.K μ H a x)(h2:Rep fa X.K μ H b y)(rx:RelV x v)(ry:RelV y u) :
 ∃c e as bs,aN 64 c=true/\aN 64 e=true/\k=bu c e/\Reads s.heap v (toPy c) as/\Reads s.heap u (toPy e) bs:=by
 unfold nr at h
 cases q:qT (view M a) (view M b) with
 | some r =>
   rw [q] at h
   cases h
   obtain ⟨p1,p2,e⟩:=vI (by rw [vD,vD];exact hs) q
   obtain ⟨as,r1⟩:=mE I hM p1 h1 rx
   obtain ⟨bs,r2⟩:=mE I hM p2 h2 ry
   exact ⟨_,_,as,bs,p1,p2,e,r1,r2⟩
 | none =>
   rw [q] at h
   obtain ⟨p1,p2,e⟩:=vI (by rw [sW,sW];exact hs) h
   obtain ⟨as,r1⟩:=lM I hM 64 64 a x v p1 h1 rx
   obtain ⟨bs,r2⟩:=lM I hM 64 64 b y u p2 h2 ry
   exact ⟨_,_,as,bs,p1,p2,e,r1,r2⟩
theorem uG {a b:D}(h:(jt a&&jt b)=true):∃x y,a=.str x/\b=.str y:=by
 cases a with
 | str x =>
   cases b with
   |str y=>exact ⟨x,y,rfl,rfl⟩
   |_=>cases h
 |_=>cases h
theorem xu {x y:Str}:nr M (.str x) (.str y)=some (x==y):=by
 have e:bu (.str x) (.str y)=(x==y):=by simp [bu]
 rw [<- e];rfl
theorem MT (hu:Rm X):cI X (compareOp .Eq) (jc fa X.K .eq):=by
 intro pins s σ H x y v u Q I rx ry h
 obtain ⟨μ,M,dx,dy,b,hM,h1,h2,e,q⟩:=h
 cases hs:jt dx&&jt dy with
 | true =>
   obtain ⟨i,j,rfl,rfl⟩:=uG hs
   obtain rfl:x=.str i:=h1
   obtain rfl:y=.str j:=h2
   obtain rfl:(i==j)=b:=Option.some.inj (xu.symm.trans e)
   exact JJ pins s σ H _ _ v u Q I rx ry ⟨rfl,by rw [oK];exact q⟩
 | false =>
   obtain ⟨_,_,as,bs,p1,p2,rfl,r1,r2⟩:=td I hM hs (show nr M dx dy=some b from e) h1 h2 rx ry
   refine SeqAt.compareEq_shaped r1 r2 (lB p1) (lB p2) (by unfold Rm at hu;omega) ?_
   rw [oH 64 64 _ _ p1 p2]
   exact ⟨.bl _,H,I,rfl,q⟩
theorem MN (hu:Rm X):cI X (compareOp .NotEq) (jc fa X.K .ne):=by
 intro pins s σ H x y v u Q I rx ry h
 obtain ⟨μ,M,dx,dy,b,hM,h1,h2,e,q⟩:=h
 have e:(nr M dx dy).map (!·)=some b:=e
 cases e':nr M dx dy with
 |none=>rw [e'] at e;cases e
 | some k =>
   rw [e'] at e
   obtain rfl:(!k)=b:=Option.some.inj e
   cases hs:jt dx&&jt dy with
   | true =>
     obtain ⟨i,j,rfl,rfl⟩:=uG hs
     obtain rfl:x=.str i:=h1
     obtain rfl:y=.str j:=h2
     obtain rfl:(i==j)=k:=Option.some.inj (xu.symm.trans e')
     exact JE pins s σ H _ _ v u Q I rx ry ⟨rfl,by rw [oK];exact q⟩
   | false =>
     obtain ⟨_,_,as,bs,p1,p2,rfl,r1,r2⟩:=td I hM hs e' h1 h2 rx ry
     refine SeqAt.compareNe_shaped r1 r2 (lB p1) (lB p2) (by unfold Rm at hu;omega) ?_
     rw [oH 64 64 _ _ p1 p2]
     exact ⟨.bl _,H,I,rfl,q⟩
end
end LD
namespace LD
open PySem PySem.Spec PyProof.Rows L2
section
variable {fa:Fa}{X:Cx}{μ:Mu}{H:Hp}{σ:L2.St}{pins:List (Addr×Obj)}{s:Shared}{M:Mem}
theorem jO {f:Value->Value->Sem Value}{r r':R2}(h:cI X f r)(i:∀x y H Q,r' x y H Q->r x y H Q):cI X f r':=fun pins s σ H x y v u Q I rx ry q=>h pins s σ H x y v u Q I rx ry (i x y H Q q)
theorem mZ {f:Value}{r r':List V->Hp->VK->Prop}(h:dN X f r)(i:∀xs H Q,r' xs H Q->r xs H Q):dN X f r':=fun pins s σ H xs us Q I rx q=>h pins s σ H xs us Q I rx (i xs H Q q)
theorem oM {o:iW}{g:Int->Int->Bool}(ho:o=.lt\/o=.le\/o=.gt\/o=.ge)(hg:∀i j,bN o (.int i) (.int j) []=some (g i j)){x y:V}{Q:VK}(h:jc fa X.K o x y H Q) :
 ∃i j,x=.int i/\y=.int j/\Q (.bl (g i j)) H:=by
 obtain ⟨μ,M,dx,dy,b,hM,h1,h2,e,q⟩:=h
 have key:∀i j,dx=.int i->dy=.int j->∃i j,x=.int i/\y=.int j/\Q (.bl (g i j)) H:=fun i j e1 e2=>by
  subst e1 e2
  have e3:bN o (.int i) (.int j) M=some (g i j):=by
   have:=hg i j
   rcases ho with rfl|rfl|rfl|rfl<;>exact this
  rw [e] at e3
  have e4:=Option.some.inj e3
  subst e4
  exact ⟨i,j,h1,h2,q⟩
 rcases ho with rfl|rfl|rfl|rfl<;>
 ·cases dx with
  |int i=>cases dy<;>first|exact key _ _ rfl rfl|cases e
  |_=>cases e
theorem MO:cI X (compareOp .Lt) (jc fa X.K .lt):=jO JF fun x y H Q h=>oM (.inl rfl) (fun _ _=>rfl) h
theorem MP:cI X (compareOp .LtE) (jc fa X.K .le):=jO JG fun x y H Q h=>oM (.inr (.inl rfl)) (fun _ _=>rfl) h
theorem MR:cI X (compareOp .Gt) (jc fa X.K .gt):=jO JH fun x y H Q h=>oM (.inr (.inr (.inl rfl))) (fun _ _=>rfl) h
theorem MS:cI X (compareOp .GtE) (jc fa X.K .ge):=jO JI fun x y H Q h=>oM (.inr (.inr (.inr rfl))) (fun _ _=>rfl) h
theorem wW {d:D}{v:V}{K:PySem.W.Frag}(h:Rep fa K μ H d v):decide (v=.non)=cW d:=by
 cases d with
 |non=>obtain rfl:v=.non:=h;rfl
 |bl b=>obtain rfl:v=.bl b:=h;rfl
 |int b=>obtain rfl:v=.int b:=h;rfl
 |str b=>obtain rfl:v=.str b:=h;rfl
 |tup b=>obtain ⟨a,vs,rfl,_⟩:=h;rfl
 |lst b=>obtain ⟨a,vs,rfl,_⟩:=h;rfl
 |frz b=>obtain ⟨a,vs,rfl,_⟩:=h;rfl
 |cell b=>obtain ⟨a,rfl,_⟩:=h;rfl
 |fn b=>obtain ⟨a,rfl,_⟩:=h;rfl
 |exc y p=>obtain ⟨a,_,_,rfl,_⟩:=h;rfl
theorem Ki:cI X (compareOp .Is) (jc fa X.K .isN):=jO GV fun x y H Q h=>by
 obtain ⟨μ,M,dx,dy,b,hM,h1,h2,e,q⟩:=h
 cases dy<;>first|cases (show (none:Option Bool)=some b from e)|skip
 refine ⟨h2,?_⟩
 rw [wW h1]
 have e:some (cW dx)=some b:=e
 rw [Option.some.inj e];exact q
theorem IL:cI X (compareOp .IsNot) (jc fa X.K .notN):=jO Eu fun x y H Q h=>by
 obtain ⟨μ,M,dx,dy,b,hM,h1,h2,e,q⟩:=h
 cases dy<;>first|cases (show (none:Option Bool)=some b from e)|skip
 refine ⟨h2,?_⟩
 rw [wW h1]
 have e:some (!cW dx)=some b:=e
 rw [Option.some.inj e];exact q
theorem vV (x:D)(hx:aN 64 x=true):∀(ds:List D),ds.all (aN 63)=true->((dB ds).any fun y=>PyData.eqv y (toPy x))=ds.any fun y=>bu y x
 |[],_=>rfl
 | d :: r, h => by
   simp only [List.all_cons,Bool.and_eq_true] at h
   simp only [dB,List.any_cons,oH 63 64 d x h.1 hx,vV x hx r h.2]
theorem uB (n:Nat):∀ds:List D,ds.all (aN n)=true->PyData.canLayAll0 (dB ds)=true/\PyData.depthAll (dB ds)<=n
 |[],_=>by simp [dB,PyData.canLayAll0,PyData.depthAll]
 | d :: r, h => by
   simp only [List.all_cons,Bool.and_eq_true] at h
   obtain ⟨h1,h2⟩:=rh n d h.1
   obtain ⟨h3,h4⟩:=uB n r h.2
   simp only [dB,PyData.canLayAll0,PyData.depthAll,h1,h3,Bool.and_self,true_and]
   omega
theorem zQ (I:Inv X pins σ H s)(hM:RelM fa X.K μ H M){d:D}{v:V}{u:Value}{ds:List D}(hp:ds.all (aN 63)=true)(h:Rep fa X.K μ H d v)(r:RelV v u)(e:de M d=some ds) :
 (∃as,Reads s.heap u (.list (dB ds)) as)\/∃as,Reads s.heap u (.tuple (dB ds)) as:=by
 obtain ⟨a,vs,rfl,h1,h2⟩:=kZ (ds:=ds) hM h e
 obtain rfl:u=Value.ref a:=r
 rcases h1 with h1|h1
 ·obtain ⟨its,rv,⟨o,k,e1,e2,e4,e3⟩,_⟩:=I.list h1
  obtain ⟨as,q⟩:=ic I ds 63 vs its hp h2 rv
  exact .inl ⟨_,.list e1 e2 e3 (by simpa using q)⟩
 ·obtain ⟨its,rv,⟨o,e1,e2,k,e3⟩,_⟩:=I.tuple h1
  obtain ⟨as,q⟩:=ic I ds 63 vs its hp h2 rv
  exact .inr ⟨_,.tuple e1 e2 e3 (by simpa using q)⟩
theorem AH (hu:Rm X){x y:V}{v u:Value}{dx dy:D}{ds:List D}{b:Bool}{Q:Value->Shared->Prop}(I:Inv X pins σ H s)(hM:RelM fa X.K μ H M)(h1:Rep fa X.K μ H dx x)(h2:Rep fa X.K μ H dy y)(rx:RelV x v)(ry:RelV y u)
 (e1:de M dy=some ds) (e2:jg (view M dx) ds=some b) (neg:Bool) (q:Q (.bool (if neg then !b else b)) s):wpAny (model X.prog X.w) X.A (compareOp (if neg then .NotIn else .In) v u) Q X.xe s:=by
 unfold jg at e2
 split at e2
 ·next z=>
  simp only [Bool.and_eq_true] at z
  obtain ⟨p1,p2⟩:=z
  have e3:=Option.some.inj e2
  subst e3
  obtain ⟨as,r1⟩:=mE I hM p1 h1 rx
  obtain ⟨c1,d1⟩:=rh 64 _ p1
  obtain ⟨c2,d2⟩:=uB 63 ds p2
  have hu':X.A.units+1+min (PyData.depthAll (dB ds)) (toPy (view M dx)).depth<cLine:=by unfold Rm at hu;omega
  rw [<- vV _ p1 ds p2] at q
  rcases zQ I hM p2 h2 ry e1 with ⟨bs,r2⟩|⟨bs,r2⟩
  ·cases neg
   ·exact SeqAt.in_list_reads r2 r1 c2 c1 hu' q
   ·exact SeqAt.notIn_list_reads r2 r1 c2 c1 hu' q
  ·cases neg
   ·exact SeqAt.in_tuple_reads r2 r1 c2 c1 hu' q
   ·exact SeqAt.notIn_tuple_reads r2 r1 c2 c1 hu' q
 ·cases e2
theorem MQ (hu:Rm X):cI X (compareOp .In) (jc fa X.K .isin):=by
 intro pins s σ H x y v u Q I rx ry h
 obtain ⟨μ,M,dx,dy,b,hM,h1,h2,e,q⟩:=h
 have gen:(de M dy).bind (jg (view M dx))=some b->wpAny (model X.prog X.w) X.A (compareOp .In v u) (EP X pins σ Q) X.xe s:=fun e=>by
  cases e1:de M dy with
  |none=>rw [e1] at e;cases e
  | some ds =>
    rw [e1] at e
    exact AH hu I hM h1 h2 rx ry e1 e false ⟨.bl b,H,I,rfl,q⟩
 by_cases hs:(∃a,dx=.str a)/\∃c,dy=.str c
 ·obtain ⟨⟨a,rfl⟩,c,rfl⟩:=hs
  have e:some (kB a c)=some b:=e
  have e':=Option.some.inj e
  subst e'
  exact Ao pins s σ H x y v u Q I rx ry ⟨a,c,h1,h2,q⟩
 ·refine gen ?_
  cases dx<;>first|exact e|(cases dy<;>first|exact e|exact absurd ⟨⟨_,rfl⟩,_,rfl⟩ hs)
theorem Fn (hu:Rm X):cI X (compareOp .NotIn) (jc fa X.K .notin):=by
 intro pins s σ H x y v u Q I rx ry h
 obtain ⟨μ,M,dx,dy,b,hM,h1,h2,e,q⟩:=h
 have gen:((de M dy).bind (jg (view M dx))).map (!·)=some b->wpAny (model X.prog X.w) X.A (compareOp .NotIn v u) (EP X pins σ Q) X.xe s:=fun e=>by
  cases e1:de M dy with
  |none=>rw [e1] at e;cases e
  | some ds =>
    rw [e1] at e
    cases e2:jg (view M dx) ds with
    |none=>rw [Option.bind_some,e2] at e;cases e
    | some k =>
      rw [Option.bind_some,e2] at e
      have e':=Option.some.inj e
      subst e'
      exact AH hu I hM h1 h2 rx ry e1 e2 true ⟨.bl _,H,I,rfl,q⟩
 by_cases hs:(∃a,dx=.str a)/\∃c,dy=.str c
 ·obtain ⟨⟨a,rfl⟩,c,rfl⟩:=hs
  have e:some (!kB a c)=some b:=e
  have e':=Option.some.inj e
  subst e'
  exact vf pins s σ H x y v u Q I rx ry ⟨a,c,h1,h2,q⟩
 ·refine gen ?_
  cases dx<;>first|exact e|(cases dy<;>first|exact e|exact absurd ⟨⟨_,rfl⟩,_,rfl⟩ hs)
def dq:iW->CmpOp
 |.eq=>.Eq|.ne=>.NotEq|.lt=>.Lt|.le=>.LtE|.gt=>.Gt|.ge=>.GtE|.isN=>.Is|.notN=>.IsNot|.isin=>.In|.notin=>.NotIn
theorem oO (hu:Rm X):∀o:iW,cI X (compareOp (dq o)) (jc fa X.K o)
 |.eq=>MT hu|.ne=>MN hu|.lt=>MO|.le=>MP|.gt=>MR|.ge=>MS|.isN=>Ki|.notN=>IL|.isin=>MQ hu|.notin=>Fn hu
def nJ (fa:Fa)(K:PySem.W.Frag)(m:Bool)(o:nv):R2:=fun x y H Q=>∃μ M dx dy,RelM fa K μ H M/\Rep fa K μ H dx x/\Rep fa K μ H dy y/\au (fR m o dx dy M) (bG fa K μ H Q)
theorem bE {Q:VK}{d:D}{v:V}(hM:RelM fa X.K μ H M)(h:bG fa X.K μ H Q d M)(r:Rep fa X.K μ H d v):Q v H:=h v H μ .refl hM r
theorem iL {Q:VK}{m:Bool}{ds:List D}{vs:List V}(hM:RelM fa X.K μ H M)(r:bf fa X.K μ H ds vs)(h:au (cf m ds M) (bG fa X.K μ H Q)):ds.length<=sz/\∀p,H p=none->Q (.ref p) (upd H p (.lst vs)):=by
 unfold cf at h
 split at h
 ·next hz=>
  refine ⟨hz,fun p hp=>?_⟩
  cases m with
  | true =>
    have h:bG fa X.K μ H Q (.cell M.length) (M++[ds]):=h
    exact h (.ref p) _ (ie μ M.length p) (Ext.cell hM hp) (hM.cell hp r) ⟨p,rfl,by simp [ie]⟩
  | false =>
    have h:bG fa X.K μ H Q (.lst ds) M:=h
    exact h (.ref p) _ μ (Ext.alloc hM hp) (hM.alloc hp) ⟨p,vs,rfl,⟨cE,hM.fresh hp⟩,r.ext (Ext.alloc hM hp)⟩
 ·exact h.elim
theorem ju {Q:VK}{ds:List D}{vs:List V}(hM:RelM fa X.K μ H M)(r:bf fa X.K μ H ds vs)(h:bG fa X.K μ H Q (.tup ds) M):∀p,H p=none->Q (.ref p) (upd H p (.tup vs)):=fun p hp=>
 h (.ref p) _ μ (Ext.alloc hM hp) (hM.alloc hp) ⟨p,vs,rfl,.of cE,r.ext (Ext.alloc hM hp)⟩
theorem d5:sz=sizeLine:=by rw [sizeLine_eq];rfl
theorem B5:cI X (binaryOp .Add) (fun x y H Q=>∃a b ys,x=.ref a/\y=.ref b/\eD X.K H a []/\eD X.K H b ys/\Q (.ref b) H):=by
 intro pins s σ H x y v u Q I rx ry h
 obtain ⟨a,b,ys,rfl,rfl,ha,hb,q⟩:=h
 cases rx
 cases ry
 obtain ⟨its,r1,p1,_⟩:=I.tuple ha
 obtain ⟨its2,r2,p2,_⟩:=I.tuple hb
 cases r1
 obtain ⟨⟨cls,dd,data,sl⟩,ho,hc,n,hd⟩:=id p1
 obtain ⟨⟨cls2,dd2,data2,sl2⟩,ho2,hc2,n2,hd2⟩:=id p2
 simp only at hc hd hc2 hd2
 subst hc hd hc2 hd2
 exact concat_meets ⟨_,ho,rfl⟩ ⟨_,ho2,rfl⟩ noFill_tuple_add seq_tuple_add PySem.F.slot_tuple_add PySem.F.entry_tuple_add (PySem.F.args_tuple_add_2 _ _)
  (tuple_addW0 a b #[] its2.toArray n n2 dd dd2 sl sl2 rfl) ⟨ho,ho2,⟨.ref b,H,I,rfl,q⟩⟩
theorem CO {m:Bool}{x y:V}{v u:Value}{dx dy:D}{Q:VK}(I:Inv X pins σ H s)(hM:RelM fa X.K μ H M)(h1:Rep fa X.K μ H dx x)(h2:Rep fa X.K μ H dy y)(rx:RelV x v)(ry:RelV y u)
 (h:au (match lh M dx,lh M dy with|some x,some y=>cf m (x++y) M|_,_=>.bad) (bG fa X.K μ H Q)):wpAny (model X.prog X.w) X.A (binaryOp .Add v u) (EP X pins σ Q) X.xe s:=by
 cases e1:lh M dx with
 |none=>rw [e1] at h;exact h.elim
 | some xs =>
   cases e2:lh M dy with
   |none=>rw [e1,e2] at h;exact h.elim
   | some ys =>
     rw [e1,e2] at h
     obtain ⟨a,vs,rfl,ha,ra⟩:=k9 hM h1 e1
     obtain ⟨b,ws,rfl,hb,rb⟩:=k9 hM h2 e2
     obtain ⟨hz,k⟩:=iL hM (ra.append rb) h
     refine GX pins s σ H _ _ v u Q I rx ry ⟨a,b,vs,ws,rfl,rfl,ha,hb,?_,k⟩
     rw [ra.length,rb.length,<- List.length_append,<- d5];exact hz
theorem Kp (m:Bool):cI X (binaryOp .Add) (nJ fa X.K m .add):=by
 intro pins s σ H x y v u Q I rx ry h
 obtain ⟨μ,M,dx,dy,hM,h1,h2,h⟩:=h
 have hi:∀i j,dx=.int i->dy=.int j->wpAny (model X.prog X.w) X.A (binaryOp .Add v u) (EP X pins σ Q) X.xe s:=fun i j e1 e2=>by
  subst e1 e2
  exact GY pins s σ H x y v u Q I rx ry ⟨i,j,h1,h2,bE (v:=.int (i+j)) hM h rfl⟩
 have hs:∀i j,dx=.str i->dy=.str j->wpAny (model X.prog X.w) X.A (binaryOp .Add v u) (EP X pins σ Q) X.xe s:=fun i j e1 e2=>by
  subst e1 e2
  have h:au (if i.cps.size+j.cps.size<=sz then .ok (.str ⟨i.cps++j.cps⟩) M else .bad) (bG fa X.K μ H Q):=h
  split at h
  ·next hz=>exact ya pins s σ H x y v u Q I rx ry ⟨i,j,h1,h2,by rw [<- d5];exact hz,bE (v:=.str ⟨i.cps++j.cps⟩) hM h rfl⟩
  ·exact h.elim
 have ht:∀i j,dx=.tup i->dy=.tup j->wpAny (model X.prog X.w) X.A (binaryOp .Add v u) (EP X pins σ Q) X.xe s:=fun i j e1 e2=>by
  subst e1 e2
  have h:au (if (i++j).length<=sz then .ok (.tup (i++j)) M else .bad) (bG fa X.K μ H Q):=h
  split at h
  ·next hz=>
   have h:bG fa X.K μ H Q (.tup (i++j)) M:=h
   obtain ⟨a,vs,e1,ha,ra⟩:=id h1
   obtain ⟨b,ws,e2,hb,rb⟩:=id h2
   by_cases h0:i=[]
   ·subst h0
    obtain rfl:vs=[]:=ra
    exact B5 pins s σ H x y v u Q I rx ry ⟨a,b,ws,e1,e2,ha,hb,bE hM h ⟨b,ws,rfl,hb,rb⟩⟩
   ·have hv:vs≠[]:=fun z=>h0 (by have:=ra.length;rw [z] at this;exact List.length_eq_zero_iff.mp this.symm)
    refine Ey pins s σ H x y v u Q I rx ry ⟨a,b,vs,ws,e1,e2,ha,hb,hv,?_,fun z=>?_,fun _=>ju hM (ra.append rb) h⟩
    ·rw [ra.length,rb.length,<- List.length_append,<- d5];exact hz
    ·subst z
     have ej:j=[]:=List.length_eq_zero_iff.mp rb.length.symm
     subst ej
     exact bE hM h ⟨a,vs,rfl,ha,by simpa using ra⟩
  ·exact h.elim
 cases dx<;>cases dy<;>first|exact hi _ _ rfl rfl|exact hs _ _ rfl rfl|exact ht _ _ rfl rfl|exact CO (m:=m) I hM h1 h2 rx ry h
theorem uh {op:Operator}{o:nv}{m:Bool}{C:Int->Int->Prop}{g:Int->Int->Int}(hr:cI X (binaryOp op) (rI C fun i j=>.int (g i j)))
 (hD:∀dx dy M (P:D->Mem->Prop),au (fR m o dx dy M) P->∃i j,dx=.int i/\dy=.int j/\C i j/\P (.int (g i j)) M):cI X (binaryOp op) (nJ fa X.K m o):=jO hr fun x y H Q h=>by
 obtain ⟨μ,M,dx,dy,hM,h1,h2,h⟩:=h
 obtain ⟨i,j,rfl,rfl,c,q⟩:=hD dx dy M _ h
 exact ⟨i,j,h1,h2,c,bE (v:=.int (g i j)) hM q rfl⟩
theorem Kk (m:Bool):cI X (binaryOp .Sub) (nJ fa X.K m .sub):=uh (C:=fun _ _=>True) (g:=fun i j=>i-j) (jO GO fun x y H Q ⟨i,j,e1,e2,_,q⟩=>⟨i,j,e1,e2,q⟩) fun dx dy M P h=>by
 cases dx<;>cases dy<;>first|exact ⟨_,_,rfl,rfl,trivial,h⟩|exact h.elim
theorem IP (m:Bool):cI X (binaryOp .FloorDiv) (nJ fa X.K m .fdiv):=uh Ew fun dx dy M P h=>by
 have key:∀i j,dx=.int i->dy=.int j->∃i j,dx=.int i/\dy=.int j/\I9 i j/\P (.int (i / j)) M:=fun i j e1 e2=>by
  subst e1 e2
  have h:au (if 0<j/\j<1073741824 then .ok (.int (i / j)) M else .bad) P:=h
  split at h
  ·next c=>exact ⟨i,j,rfl,rfl,c,h⟩
  ·exact h.elim
 cases dx<;>cases dy<;>first|exact key _ _ rfl rfl|exact h.elim
theorem Kn (m:Bool):cI X (binaryOp .Mod) (nJ fa X.K m .mod):=uh GU fun dx dy M P h=>by
 have key:∀i j,dx=.int i->dy=.int j->∃i j,dx=.int i/\dy=.int j/\0<j/\P (.int (i % j)) M:=fun i j e1 e2=>by
  subst e1 e2
  have h:au (if 0<j then .ok (.int (i % j)) M else .bad) P:=h
  split at h
  ·next c=>exact ⟨i,j,rfl,rfl,c,h⟩
  ·exact h.elim
 cases dx<;>cases dy<;>first|exact key _ _ rfl rfl|exact h.elim
theorem Kl (m:Bool):cI X (binaryOp .Pow) (nJ fa X.K m .pow):=uh GQ fun dx dy M P h=>by
 have key:∀i j,dx=.int i->dy=.int j->∃i j,dx=.int i/\dy=.int j/\I8 i j/\P (.int (i^j.toNat)) M:=fun i j e1 e2=>by
  subst e1 e2
  have h:au (if 0<=j/\j<=1000000/\i.natAbs<2^64 then .ok (.int (i^j.toNat)) M else .bad) P:=h
  split at h
  ·next c=>exact ⟨i,j,rfl,rfl,c,h⟩
  ·exact h.elim
 cases dx<;>cases dy<;>first|exact key _ _ rfl rfl|exact h.elim
theorem BR {m:Bool}{x y:V}{v u:Value}{dx:D}{j:Int}{Q:VK}(I:Inv X pins σ H s)(hM:RelM fa X.K μ H M)(h1:Rep fa X.K μ H dx x)(h2:Rep fa X.K μ H (.int j) y)(rx:RelV x v)(ry:RelV y u)
 (h:au (match lh M dx with|some x=>if x.length*j.toNat<=sz/\-(2^63)<=j/\j<2^63 then cf m (List.replicate j.toNat x).flatten M else .bad|none=>.bad) (bG fa X.K μ H Q)) :
 wpAny (model X.prog X.w) X.A (binaryOp .Mult v u) (EP X pins σ Q) X.xe s:=by
 cases e1:lh M dx with
 |none=>rw [e1] at h;exact h.elim
 | some xs =>
   rw [e1] at h
   simp only at h
   split at h
   ·next c=>
    obtain ⟨a,vs,rfl,ha,ra⟩:=k9 hM h1 e1
    obtain ⟨hz,k⟩:=iL hM (ra.rep j.toNat) h
    exact GP pins s σ H _ _ v u Q I rx ry ⟨a,j,vs,rfl,h2,ha,c.2.1,c.2.2,by rw [ra.length,<- d5];exact c.1,k⟩
   ·exact h.elim
end
end LD
namespace LD
open PySem PySem.Spec PyProof.Rows L2 PySem.Builtin
open PySem.Sem (wp)
theorem pL:fillsNumberSlot (.type "tuple") "mul"=pure false:=
 PySem.fillsNumberSlot_seq (id:="tuple.__mul__") (r:=some (.builtin "tuple.__rmul__")) F.slot_tuple_mul.lookup (by decide +kernel) F.slot_tuple_rmul.lookup (by decide +kernel)
theorem uW:seqRepeat? (.type "tuple")=pure (some (.builtin "tuple.__mul__")):=by
 unfold seqRepeat?
 rw [PySem.seqSlot_of (T:="tuple") (name:="__mul__") (id:="tuple.__mul__") F.slot_tuple_mul.lookup (by decide +kernel),PySem.seqSlot_of (T:="tuple") (name:="__rmul__") (id:="tuple.__rmul__") F.slot_tuple_rmul.lookup (by decide +kernel)]
 rfl
theorem rq (a:Int)(t:Tok)(l:Addr)(items:Array Value)(n:Nat)(dd:Option Addr)(sl:Array (Option Value)) :
 Meets (Builtin.«int.__rmul__» ⟨[.int a t,.ref l],[]⟩) (fun _ R s=>s.heap.get? l=some {cls:=.type "tuple",dict:=dd,data:=.seq items n,slots:=sl}/\R (.ok (.ret Value.notImplemented)) s):=
 .of_wp fun prog w A R s h=>by obtain ⟨hp,g,d,tk,os⟩:=s;obtain ⟨hl,h⟩:=h;wp_walk using wpAny_loadPart' hl;exact ⟨_,rfl,h⟩
theorem x9 {x:Int}(h0:-(2^63)<=x)(h1:x<2^63):(decide (x < -2^63)||decide (x≥2^63))=false:=by
 rw [decide_eq_false (by omega),decide_eq_false (by omega)];rfl
theorem rS (l:Addr)(items:Array Value)(n:Nat)(dd:Option Addr)(sl:Array (Option Value))(x:Int)(u:Tok)(h0:-(2^63)<=x)(h1:x<2^63)(hc:(items.isEmpty||x==1)=true) :
 Meets (Builtin.«tuple.__mul__» ⟨[.ref l,.int x u],[]⟩) (fun _ R s=>s.heap.get? l=some {cls:=.type "tuple",dict:=dd,data:=.seq items n,slots:=sl}/\R (.ok (.ret (.ref l))) s):=
 .of_wp fun prog w A R s h=>by
  obtain ⟨hp,g,d,tk,os⟩:=s;obtain ⟨hl,h⟩:=h;have f1:=AutoSeq1.idx_int
  wp_walk using wpAny_loadPart' hl
  refine wpAny_ite_false (by rw [x9 h0 h1];rfl) ?_
  wp_walk using wpAny_loadPart' hl
  exact ⟨_,rfl,h⟩
theorem rT (l:Addr)(items:Array Value)(n:Nat)(dd:Option Addr)(sl:Array (Option Value))(x:Int)(u:Tok)(h0:-(2^63)<=x)(h1:x<2^63)(hc:(items.isEmpty||x==1)=false)(hc1:(decide (x<=0)||items.isEmpty)=true) :
 Meets (Builtin.«tuple.__mul__» ⟨[.ref l,.int x u],[]⟩) (fun _ R s=>s.heap.get? l=some {cls:=.type "tuple",dict:=dd,data:=.seq items n,slots:=sl}/\R (.ok (.ret (.ref s.heap.objs.size))) {s with heap:=s.heap.push {cls:=Value.type "tuple",data:=Data.seq #[]},toks:=s.toks}):=
 .of_wp fun prog w A R s h=>by
  obtain ⟨hp,g,d,tk,os⟩:=s;obtain ⟨hl,h⟩:=h;have f1:=AutoSeq1.idx_int
  wp_walk using wpAny_loadPart' hl
  refine wpAny_ite_false (by rw [x9 h0 h1];rfl) ?_
  wp_walk using wpAny_loadPart' hl
  exact ⟨_,rfl,h⟩
theorem rV (l:Addr)(items:Array Value)(n:Nat)(dd:Option Addr)(sl:Array (Option Value))(x:Int)(u:Tok)(h0:-(2^63)<=x)(h1:x<2^63)(hc:(items.isEmpty||x==1)=false)(hc1:(decide (x<=0)||items.isEmpty)=false)
 (hs:(items.size:Int)*x<=16777216) (hs2:(List.foldl (fun x1 x2=>x1++x2) #[] (List.replicate x.toNat items)).size<=sizeLine) :
 Meets (Builtin.«tuple.__mul__» ⟨[.ref l,.int x u],[]⟩) (fun _ R s=>s.heap.get? l=some {cls:=.type "tuple",dict:=dd,data:=.seq items n,slots:=sl}/\R (.ok (.ret (.ref s.heap.objs.size))) {s with heap:=s.heap.push {cls:=Value.type "tuple",data:=Data.seq (List.foldl (fun x1 x2=>x1++x2) #[] (List.replicate x.toNat items))},toks:=s.toks}):=
 .of_wp fun prog w A R s h=>by
  obtain ⟨hp,g,d,tk,os⟩:=s;obtain ⟨hl,h⟩:=h;have f1:=AutoSeq1.idx_int
  wp_walk using wpAny_loadPart' hl
  refine wpAny_ite_false (by rw [x9 h0 h1];rfl) ?_
  wp_walk using wpAny_loadPart' hl
  refine wpAny_ite_false (decide_eq_false (by omega)) ?_
  wp_walk using wpAny_loadPart' hl
  refine wpAny_ite_false (decide_eq_false (by unfold Tuple.tupleTooMany;rw [sizeLine_eq];simp;omega)) ?_
  wp_walk using wpAny_loadPart' hl
  exact ⟨_,rfl,h⟩
section
variable {fa:Fa}{X:Cx}{μ:Mu}{H:Hp}{σ:L2.St}{pins:List (Addr×Obj)}{s:Shared}{M:Mem}
theorem sO (its:List Value)(m:Nat):List.foldl (fun x1 x2=>x1++x2) #[] (List.replicate m its.toArray)=(List.replicate m its).flatten.toArray:=by
 have:=foldl_rep its m []
 rw [List.nil_append] at this
 exact this
theorem Et:cI X (binaryOp .Mult) (fun x y H Q=>∃l k xs,x=.ref l/\y=.int k/\eD X.K H l xs/\-(2^63)<=k/\k<2^63/\xs.length*k.toNat<=sz/\
 ((List.replicate k.toNat xs).flatten=xs->Q (.ref l) H)/\∀p,H p=none->Q (.ref p) (upd H p (.tup (List.replicate k.toNat xs).flatten))):=by
 intro pins s σ H x y v u Q I rx ry h
 obtain ⟨l,k,xs,rfl,rfl,hq,h1,h2,hz,q1,q2⟩:=h
 cases rx
 obtain ⟨t,rfl⟩:=ry
 obtain ⟨its,r,p,hzz⟩:=I.tuple hq
 have hl:=r.length
 obtain ⟨⟨cls,dd,data,sl⟩,ho,hc,n,hd⟩:=id p
 simp only at hc hd
 subst hc hd
 refine wpAny_binaryOp_repeat_ref (T:="tuple") (U:="int") (by decide) ⟨_,ho,rfl⟩ (fun s'=>typeIs_int s' k t) pL F.fills_int_mul F.slot_int_rmul uW F.slot_int_index.lookup
  (call_meets F.slot_int_rmul (typeIs_int s k t) F.entry_int_rmul (F.args_int_rmul_2 _ _) (rq k t l its.toArray n dd sl) ⟨ho,rfl,⟨_,ho,rfl⟩,?_⟩)
 have new:∀(its':List Value),Vals (List.replicate k.toNat xs).flatten its'->EP X pins σ Q (.ref s.heap.objs.size) {s with heap:=s.heap.push {cls:=Value.type "tuple",data:=Data.seq its'.toArray}}:=fun its' r'=>by
  refine ⟨.ref s.heap.objs.size,_,I.laid (t':=s.toks) (o:=.tup (List.replicate k.toNat xs).flatten) (fun b ob q=>tqc _ q) (tqg _) ?_,rfl,q2 _ (I.hok.fresh (tqg _))⟩
  exact ⟨by rw [len_rep,Nat.mul_comm,<- d5];exact hz,_,r',IsTup.new _ _⟩
 by_cases c1:(its.toArray.isEmpty||k==1)=true
 ·refine call_meets F.slot_tuple_mul ⟨_,ho,rfl⟩ F.entry_tuple_mul (F.args_tuple_mul_2 _ _) (rS l its.toArray n dd sl k t h1 h2 c1) ⟨ho,⟨.ref l,H,I,rfl,q1 ?_⟩⟩
  rcases Bool.or_eq_true_iff.mp c1 with z|z
  ·have e:its=[]:=by simpa using z
   subst e
   have e2:xs=[]:=List.length_eq_zero_iff.mp hl
   subst e2
   simp
  ·have e:k=1:=by simpa using z
   subst e
   simp
 ·have c1':(its.toArray.isEmpty||k==1)=false:=by simpa using c1
  by_cases c2:(decide (k<=0)||its.toArray.isEmpty)=true
  ·refine call_meets F.slot_tuple_mul ⟨_,ho,rfl⟩ F.entry_tuple_mul (F.args_tuple_mul_2 _ _) (rT l its.toArray n dd sl k t h1 h2 c1' c2) ⟨ho,new [] ?_⟩
   have hk:k<=0:=by
    rcases Bool.or_eq_true_iff.mp c2 with z|z
    ·simpa using z
    ·rw [z] at c1';cases c1'
   have hk0:k.toNat=0:=by omega
   rw [hk0];exact .nil
  ·have c2':(decide (k<=0)||its.toArray.isEmpty)=false:=by simpa using c2
   have hk:0<k:=by
    have:=(Bool.or_eq_false_iff.mp c2').1
    simpa using this
   have hs:(its.toArray.size:Int)*k<=16777216:=by
    have e1:(its.toArray.size:Int)*k=((xs.length*k.toNat:Nat):Int):=by
     rw [List.size_toArray,<- hl,Int.natCast_mul,Int.toNat_of_nonneg (by omega)]
    rw [e1]
    have:xs.length*k.toNat<=16777216:=hz
    omega
   have hs2:(List.foldl (fun x1 x2=>x1++x2) #[] (List.replicate k.toNat its.toArray)).size<=sizeLine:=by
    rw [sO,List.size_toArray,len_rep,Nat.mul_comm,<- hl,<- d5];exact hz
   refine call_meets F.slot_tuple_mul ⟨_,ho,rfl⟩ F.entry_tuple_mul (F.args_tuple_mul_2 _ _) (rV l its.toArray n dd sl k t h1 h2 c1' c2' hs hs2) ⟨ho,?_⟩
   rw [sO]
   exact new _ (r.rep k.toNat)
theorem Km (m:Bool):cI X (binaryOp .Mult) (nJ fa X.K m .mul):=by
 intro pins s σ H x y v u Q I rx ry h
 obtain ⟨μ,M,dx,dy,hM,h1,h2,h⟩:=h
 have hi:∀i j,dx=.int i->dy=.int j->wpAny (model X.prog X.w) X.A (binaryOp .Mult v u) (EP X pins σ Q) X.xe s:=fun i j e1 e2=>by
  subst e1 e2
  have h:au (if (-(2^64)<i/\i<2^64)\/(-(2^64)<j/\j<2^64) then .ok (.int (i*j)) M else .bad) (bG fa X.K μ H Q):=h
  split at h
  ·next c=>exact GR pins s σ H x y v u Q I rx ry ⟨i,j,h1,h2,c,bE (v:=.int (i*j)) hM h rfl⟩
  ·exact h.elim
 have ht:∀i j,dx=.tup i->dy=.int j->wpAny (model X.prog X.w) X.A (binaryOp .Mult v u) (EP X pins σ Q) X.xe s:=fun i j e1 e2=>by
  subst e1 e2
  have h:au (if i.length*j.toNat<=sz/\-(2^63)<=j/\j<2^63 then .ok (.tup (List.replicate j.toNat i).flatten) M else .bad) (bG fa X.K μ H Q):=h
  split at h
  ·next c=>
   have h:bG fa X.K μ H Q (.tup (List.replicate j.toNat i).flatten) M:=h
   obtain ⟨a,vs,e1,ha,ra⟩:=id h1
   refine Et pins s σ H x y v u Q I rx ry ⟨a,j,vs,e1,h2,ha,c.2.1,c.2.2,by rw [ra.length];exact c.1,fun z=>?_,ju hM (ra.rep j.toNat) h⟩
   refine bE hM h ⟨a,vs,rfl,ha,?_⟩
   have:=ra.rep j.toNat
   rw [z] at this
   exact this
  ·exact h.elim
 have hl:∀j,dy=.int j->au (match lh M dx with|some x=>if x.length*j.toNat<=sz/\-(2^63)<=j/\j<2^63 then cf m (List.replicate j.toNat x).flatten M else .bad|none=>.bad) (bG fa X.K μ H Q)->
  wpAny (model X.prog X.w) X.A (binaryOp .Mult v u) (EP X pins σ Q) X.xe s:=fun j e1 h'=>by
  subst e1
  exact BR (m:=m) I hM h1 h2 rx ry h'
 cases dy with
 |int j=>cases dx<;>first|exact hi _ _ rfl rfl|exact ht _ _ rfl rfl|exact hl _ rfl h
 |_=>cases dx<;>exact h.elim
def binOp:nv->Operator
 |.add=>.Add|.sub=>.Sub|.mul=>.Mult|.fdiv=>.FloorDiv|.mod=>.Mod|.pow=>.Pow
theorem Ko (m:Bool):∀o:nv,cI X (binaryOp (binOp o)) (nJ fa X.K m o)
 |.add=>Kp m|.sub=>Kk m|.mul=>Km m|.fdiv=>IP m|.mod=>Kn m|.pow=>Kl m
end
end LD
namespace LD
open PySem PySem.Spec PyProof.Rows L2
section
variable {fa:Fa}{X:Cx}{μ:Mu}{H:Hp}{σ:L2.St}{pins:List (Addr×Obj)}{s:Shared}{M:Mem}
theorem HZ {r r':R2}(h:mw X r)(i:∀x y H Q,r' x y H Q->r x y H Q):mw X r':=fun value slice pins s σ H x y v u Q I rx ry q hs=>h value slice pins s σ H x y v u Q I rx ry (i x y H Q q) hs
def Ls (fa:Fa)(K:PySem.W.Frag):R2:=fun x y H Q=>∃μ M dx dy d,RelM fa K μ H M/\Rep fa K μ H dx x/\Rep fa K μ H dy y/\cY dx dy M=some d/\bG fa K μ H Q d M
theorem vC (n:Nat)(i:Int):LD.cb n i=L2.cb n i:=rfl
theorem JP:mw X (Ls fa X.K):=HZ HY fun x y H Q h=>by
 obtain ⟨μ,M,dx,dy,d,hM,h1,h2,e,q⟩:=h
 have gen:∀i,dy=.int i->((de M dx).bind fun ds=>(LD.cb ds.length i).bind fun j=>ds[j]?)=some d->Gn X.K x y H Q:=fun i e0 e'=>by
  subst e0
  clear e
  have e:=e'
  clear e'
  cases e1:de M dx with
  |none=>rw [e1] at e;cases e
  | some ds =>
    rw [e1,Option.bind_some] at e
    obtain ⟨a,vs,rfl,hq,r⟩:=kZ hM h1 e1
    cases e2:LD.cb ds.length i with
    |none=>rw [e2] at e;cases e
    | some j =>
      rw [e2,Option.bind_some] at e
      obtain ⟨v,hv,rv⟩:=r.get e
      have he:tH vs i=some v:=by
       unfold tH
       rw [r.length,<- vC,e2];exact hv
      rcases hq with hq|hq
      ·exact .inl ⟨a,vs,i,v,rfl,h2,hq,he,bE hM q rv⟩
      ·exact .inr (.inl ⟨a,vs,i,v,rfl,h2,hq,he,bE hM q rv⟩)
 have str:∀z i,dx=.str z->dy=.int i->Gn X.K x y H Q:=fun z i e1 e2=>by
  subst e1 e2
  have e:(if z.cps.size<=sz then (LD.cb z.cps.size i).bind fun j=>(z.cps[j]?).map fun c=>D.str ⟨#[c]⟩ else none)=some d:=e
  split at e
  ·next hz=>
   cases e2:LD.cb z.cps.size i with
   |none=>rw [e2] at e;cases e
   | some j =>
     rw [e2,Option.bind_some] at e
     cases e3:z.cps[j]? with
     |none=>rw [e3] at e;cases e
     | some c =>
       rw [e3] at e
       have e4:D.str ⟨#[c]⟩=d:=Option.some.inj e
       subst e4
       refine .inr (.inr ⟨z,i,c,h1,h2,by rw [<- d5];exact hz,?_,bE hM q rfl⟩)
       unfold tH
       rw [show z.cps.toList.length=z.cps.size by simp,<- vC,e2]
       simpa using e3
  ·cases e
 cases dy with
 |int i=>cases dx<;>first|exact str _ _ rfl rfl|exact gen _ rfl e
 |_=>cases dx<;>cases (show (none:Option D)=some d from e)
theorem FT {r r':V->Option Int->Option Int->Hp->VK->Prop}(h:nt X r)(i:∀x lo hi H Q,r' x lo hi H Q->r x lo hi H Q):nt X r':=fun pins s σ H x v vl vu lo hi sl Q I rx hs pl pu q=>h pins s σ H x v vl vu lo hi sl Q I rx hs pl pu (i x lo hi H Q q)
def qs:D->Option (Option Int)
 |.non=>some none
 |.int i=>some (some i)
 |_=>none
theorem pE (n d:Nat)(x:D):LD.a9 n d x=(qs x).map (HT.a9 n d):=by
 cases x<;>rfl
theorem uQ:nt X (fun x lo hi H Q=>∃a xs,x=.ref a/\eD X.K H a xs/\(HT.a9 xs.length 0 lo=0/\HT.a9 xs.length xs.length hi=xs.length)/\Q (.ref a) H):=by
 intro pins s σ H x v vl vu lo hi sl Q I rx hs pl pu h
 obtain ⟨a,xs,rfl,hx,hw,q⟩:=h
 cases rx
 obtain ⟨its,r,ht,hz⟩:=I.tuple hx
 refine ⟨"tuple",_,PyProof.Rows.slot_tuple_getitem.lookup,ht.typeIs,?_⟩
 have hlen:its.toArray.size=xs.length:=by rw [List.size_toArray];exact r.length.symm
 rw [<- hlen] at hw
 obtain ⟨os,hos,hcs,hds⟩:=id hs
 have hTs:s.TypeIs (.ref sl) "slice":=⟨os,hos,hcs⟩
 unfold getItem
 try with_reducible refine tqo ?_
 first|refine tqa (tqb ?_)|skip
 refine tqa (wpAny_sequenceKey ht.typeIs (by decide) ?_)
 refine tqa (wpAny_callSpecial?_slot (name:=Str.ofString "__getitem__") ht.typeIs PyProof.Rows.slot_tuple_getitem
  (wpAny_call_entry PyProof.Rows.slot_tuple_getitem ht.typeIs entry_tuple_getitem ?_ (args_tuple_getitem _ _)))
 show wpAny _ _ (Builtin.Tuple.tupleItemsOf (.ref a) >>= _) _ _ s
 refine tqa (tupleItemsOf_ ht ?_)
 refine tqa (wpAny_typeOf hTs ?_)
 rw [if_pos (by decide)]
 refine tqa (HT.kT hs pl pu ?_)
 have hyes:(((HT.a9 its.toArray.size 0 lo:Nat):Int)==0&&(1:Int)==1&&(HT.a9 its.toArray.size its.toArray.size hi-HT.a9 its.toArray.size 0 lo)==its.toArray.size)=true:=by
  rw [hw.1,hw.2];simp
 show wpAny _ _ (if (((HT.a9 its.toArray.size 0 lo:Nat):Int)==0&&(1:Int)==1&&(HT.a9 its.toArray.size its.toArray.size hi-HT.a9 its.toArray.size 0 lo)==its.toArray.size)=true then _ else _) _ _ s
 rw [if_pos hyes]
 refine tqa (m:=Builtin.Tuple.tupleIsExact (.ref a)) ?_
 unfold Builtin.Tuple.tupleIsExact
 refine tqa (wpAny_typeOf ht.typeIs ?_)
 refine tqb ?_
 rw [if_pos (by decide)]
 exact tqa (wpAny_rule (tqb ⟨_,rfl,tqb ⟨.ref a,H,I,rfl,q⟩⟩))
def Lq (fa:Fa)(K:PySem.W.Frag)(m:Bool):V->Option Int->Option Int->Hp->VK->Prop:=fun x lo hi H Q=>∃μ M dx dl dh,RelM fa K μ H M/\Rep fa K μ H dx x/\qs dl=some lo/\qs dh=some hi/\au (eG m dx dl dh M) (bG fa K μ H Q)
theorem D4 (m:Bool):nt X (Lq fa X.K m):=by
 refine FT (D5.or (FQ.or uQ)) fun x lo hi H Q h=>?_
 obtain ⟨μ,M,dx,dl,dh,hM,h1,e1,e2,h⟩:=h
 have gen:au (match gW M dx with
  | some xs => match LD.a9 xs.length 0 dl, LD.a9 xs.length xs.length dh with
    |some l,some h=>cf m (cut xs l h) M
    |_,_=>.bad
  |none=>.bad) (bG fa X.K μ H Q)->Gh X.K x lo hi H Q:=fun h=>by
  cases e:gW M dx with
  |none=>rw [e] at h;exact h.elim
  | some xs =>
    rw [e] at h
    simp only [pE,e1,e2,Option.map_some] at h
    obtain ⟨a,vs,rfl,hq,r⟩:=cw hM h1 e
    have hl:=r.length
    obtain ⟨_,k⟩:=iL hM ((r.drop (HT.a9 xs.length 0 lo)).take (HT.a9 xs.length xs.length hi-HT.a9 xs.length 0 lo)) h
    refine ⟨a,vs,rfl,hq,?_⟩
    unfold n4
    rw [hl]
    exact k
 have tup:∀xs,dx=.tup xs->Gg X.K x lo hi H Q\/∃a xs,x=.ref a/\eD X.K H a xs/\(HT.a9 xs.length 0 lo=0/\HT.a9 xs.length xs.length hi=xs.length)/\Q (.ref a) H:=fun xs e=>by
  subst e
  have h:au (match LD.a9 xs.length 0 dl,LD.a9 xs.length xs.length dh with
   |some l,some h=>.ok (.tup (cut xs l h)) M
   |_,_=>.bad) (bG fa X.K μ H Q):=h
  simp only [pE,e1,e2,Option.map_some] at h
  have h:bG fa X.K μ H Q (.tup (cut xs (HT.a9 xs.length 0 lo) (HT.a9 xs.length xs.length hi))) M:=h
  obtain ⟨a,vs,rfl,hq,r⟩:=h1
  have hl:=r.length
  by_cases hw:HT.a9 vs.length 0 lo=0/\HT.a9 vs.length vs.length hi=vs.length
  ·refine .inr ⟨a,vs,rfl,hq,hw,?_⟩
   rw [hl] at hw
   have e3:cut xs (HT.a9 xs.length 0 lo) (HT.a9 xs.length xs.length hi)=xs:=by rw [hw.1,hw.2];simp [cut]
   rw [e3] at h
   exact bE hM h ⟨a,vs,rfl,hq,r⟩
  ·refine .inl ⟨a,vs,rfl,hq,hw,?_⟩
   have k:=ju hM ((r.drop (HT.a9 xs.length 0 lo)).take (HT.a9 xs.length xs.length hi-HT.a9 xs.length 0 lo)) h
   unfold n4
   rw [hl]
   exact k
 cases dx<;>first|exact .inr (tup _ rfl)|exact .inl (gen h)
def rA (fa:Fa)(K:PySem.W.Frag)(f:vZ):List V->Hp->VK->Prop:=fun vs H Q=>∃μ M ds,RelM fa K μ H M/\bf fa K μ H ds vs/\au (gp f ds M) (bG fa K μ H Q)
theorem t8 {d:D}{vs:List V}{K:PySem.W.Frag}(h:bf fa K μ H [d] vs):∃v,vs=[v]/\Rep fa K μ H d v:=by
 obtain ⟨v,r,rfl,h1,h2⟩:=h
 obtain rfl:r=[]:=h2
 exact ⟨v,rfl,h1⟩
theorem JV:dN X (.builtin "len") (rA fa X.K .len):=mZ (vR.or vQ) fun vs H Q h=>by
 obtain ⟨μ,M,ds,hM,r,h⟩:=h
 match ds,r,h with
 |[],_,h=>exact h.elim
 |d::_::_,_,h=>cases d<;>exact h.elim
 | [d], r, h =>
   obtain ⟨v,rfl,hv⟩:=t8 r
   have gen:au (match de M d with|some xs=>.ok (.int xs.length) M|none=>.bad) (bG fa X.K μ H Q)->∃p ys,[v]=[.ref p]/\(dA X.K H p ys\/eD X.K H p ys)/\Q (.int ys.length) H:=fun h=>by
    cases e:de M d with
    |none=>rw [e] at h;exact h.elim
    | some xs =>
      rw [e] at h
      obtain ⟨a,vs,rfl,hq,r⟩:=kZ hM hv e
      refine ⟨a,vs,rfl,hq,?_⟩
      rw [r.length]
      exact bE (v:=.int xs.length) hM h rfl
   have str:∀x,d=.str x->∃z,[v]=[V.str z]/\z.length<=sizeLine/\Q (.int z.length) H:=fun x e=>by
    subst e
    have h:au (if x.cps.size<=sz then .ok (.int x.cps.size) M else .bad) (bG fa X.K μ H Q):=h
    split at h
    ·next c=>exact ⟨x,by rw [show v=.str x from hv],by rw [<- d5];exact c,bE (v:=.int x.cps.size) hM h rfl⟩
    ·exact h.elim
   cases d<;>first|exact .inr (str _ rfl)|exact .inl (gen h)
theorem ER:dN X (.type "tuple") (rA fa X.K .tuple):=mZ tV fun vs H Q h=>by
 obtain ⟨μ,M,ds,hM,r,h⟩:=h
 match ds,r,h with
 |[],_,h=>exact h.elim
 |d::_::_,_,h=>cases d<;>exact h.elim
 | [d], r, h =>
   obtain ⟨v,rfl,hv⟩:=t8 r
   have gen:au (match gW M d with|some xs=>.ok (.tup xs) M|none=>.bad) (bG fa X.K μ H Q)->∃p ys,[v]=[.ref p]/\((dA X.K H p ys/\∀l,H l=none->Q (.ref l) (upd H l (.tup ys)))\/(eD X.K H p ys/\Q (.ref p) H)):=fun h=>by
    cases e:gW M d with
    |none=>rw [e] at h;exact h.elim
    | some xs =>
      rw [e] at h
      obtain ⟨a,vs,rfl,hq,r⟩:=cw hM hv e
      exact ⟨a,vs,rfl,.inl ⟨hq,ju hM r h⟩⟩
   have tup:∀x,d=.tup x->∃p ys,[v]=[.ref p]/\((dA X.K H p ys/\∀l,H l=none->Q (.ref l) (upd H l (.tup ys)))\/(eD X.K H p ys/\Q (.ref p) H)):=fun x e=>by
    subst e
    obtain ⟨a,vs,rfl,hq,r⟩:=id hv
    exact ⟨a,vs,rfl,.inr ⟨hq,bE hM h hv⟩⟩
   cases d<;>first|exact tup _ rfl|exact gen h
theorem Ij (m:Bool):dN X (.type "list") (rA fa X.K (.list m)):=mZ vP fun vs H Q h=>by
 obtain ⟨μ,M,ds,hM,r,h⟩:=h
 match ds,r,h with
 |[],_,h=>exact h.elim
 |_::_::_,_,h=>exact h.elim
 | [d], r, h =>
   obtain ⟨v,rfl,hv⟩:=t8 r
   have h:au (match de M d with|some xs=>cf m xs M|none=>.bad) (bG fa X.K μ H Q):=h
   cases e:de M d with
   |none=>rw [e] at h;exact h.elim
   | some xs =>
     rw [e] at h
     obtain ⟨a,vs,rfl,hq,r⟩:=kZ hM hv e
     obtain ⟨_,k⟩:=iL hM r h
     exact ⟨a,vs,rfl,hq,k⟩
end
end LD
namespace LD
open PySem PySem.Spec PyProof.Rows L2
section
variable {fa:Fa}{X:Cx}{μ:Mu}{H:Hp}{σ:L2.St}{pins:List (Addr×Obj)}{s:Shared}{M:Mem}
theorem Lb {d:D}{v:V}{k:Bool}(hM:RelM fa X.K μ H M)(h:Rep fa X.K μ H d v)(e:lN M d=some k):CT X.K v H k:=by
 cases d with
 |non=>obtain rfl:v=.non:=h;exact (Option.some.inj e).symm
 |bl b=>obtain rfl:v=.bl b:=h;exact (Option.some.inj e).symm
 |int i=>obtain rfl:v=.int i:=h;exact (Option.some.inj e).symm
 | str x =>
   obtain rfl:v=.str x:=h
   have e:(if x.cps.size<=sz then some (x.cps.size != 0) else none)=some k:=e
   split at e
   ·next c=>
    refine ⟨by rw [<- d5];exact c,?_⟩
    rw [<- Option.some.inj e]
    show (x.cps.size != 0)=((x.cps.size:Int) != 0)
    rw [Bool.eq_iff_iff];simp
   ·cases e
 | tup ds =>
   obtain ⟨a,vs,rfl,hq,r⟩:=h
   refine .inr (.inl ⟨vs,hq,?_⟩)
   rw [<- Option.some.inj e]
   have:=r.length
   cases vs<;>cases ds<;>simp_all
 | lst ds =>
   obtain ⟨a,vs,rfl,hq,r⟩:=cw (ds:=ds) hM h rfl
   refine .inl ⟨vs,hq,?_⟩
   rw [<- Option.some.inj e]
   have:=r.length
   cases vs<;>cases ds<;>simp_all
 | frz ds =>
   obtain ⟨a,vs,rfl,hq,r⟩:=cw (ds:=ds) hM h rfl
   refine .inl ⟨vs,hq,?_⟩
   rw [<- Option.some.inj e]
   have:=r.length
   cases vs<;>cases ds<;>simp_all
 | cell c =>
   have e:(M[c]?).map (fun ds=>!ds.isEmpty)=some k:=e
   cases e1:M[c]? with
   |none=>rw [e1] at e;cases e
   | some ds =>
     rw [e1] at e
     obtain ⟨a,vs,rfl,hq,r⟩:=cw (ds:=ds) hM h e1
     refine .inl ⟨vs,hq,?_⟩
     rw [<- Option.some.inj e]
     have:=r.length
     cases vs<;>cases ds<;>simp_all
 |fn f=>cases e
 |exc y p=>cases e
theorem nI:∀{ds:List D}{bs:List Bool}{vs:List V}{us:List Value},boolsOf ds=some bs->bf fa X.K μ H ds vs->Vals vs us->PyProof.Rows.LSm.BoolsAre us bs:=by
 intro ds
 induction ds with
 | nil =>
   intro bs vs us e h r
   obtain rfl:vs=[]:=h
   cases r;cases e
   exact .nil
 | cons d ds ih =>
   intro bs vs us e h r
   obtain ⟨v,vr,rfl,h1,h2⟩:=h
   cases r with
   | cons r1 r2 =>
     cases d with
     | bl b =>
       have e:(boolsOf ds).map (b::·)=some bs:=e
       cases e1:boolsOf ds with
       |none=>rw [e1] at e;cases e
       | some cs =>
         rw [e1] at e
         have e2:b::cs=bs:=Option.some.inj e
         subst e2
         obtain rfl:v=.bl b:=h1
         obtain rfl:_=Value.bool b:=r1
         exact .cons b (ih e1 h2 r2)
     |_=>cases e
theorem si:dN X (.builtin "all") (fun xs H Q=>∃μ ds bs p vs,xs=[.ref p]/\X.calm=true/\dA X.K H p vs/\bf fa X.K μ H ds vs/\boolsOf ds=some bs/\Q (.bl (bs.all id)) H):=by
 intro pins s σ H xs us Q I r h
 obtain ⟨μ,ds,bs,p,vs,rfl,hc,hq,rl,eb,q⟩:=h
 obtain ⟨u,rfl,rx⟩:=vals1 r
 cases rx
 obtain ⟨its,rv,pl,hz⟩:=I.list hq
 have hb:=nI eb rl rv
 have hlt:p<s.heap.objs.size:=pl.lt
 refine call_all_walk (wpAny_pyIter_list pl.isList ?_)
 refine ⟨s.heap.objs.size,[s.heap.objs.size,p],[s.heap.objs.size],its.toArray.size,_,_,fun i=>(bs[i]?).getD true,rfl,Walks.list (A:=X.A.in1) (I.ok.hd hc) _ p (tqk hlt) its.toArray,
  ⟨⟨_,tqe _ rfl,rfl,rfl⟩,pl.isList.push _⟩,fun i v s' Q' E' hP hQ=>?_,fun h' tk hk=>?_⟩
 ·obtain ⟨b,e,rfl⟩:=hb.get i v (by simpa using hP)
  simp only [e,Option.getD_some] at hQ
  exact tqp hQ
 ·have e:((List.range its.toArray.size).all fun i=>(bs[i]?).getD true)=bs.all id:=by
   rw [List.size_toArray,hb.length];exact PyProof.Rows.LSm.range_all bs
  rw [e]
  exact ⟨.bl _,H,I.kept (PyProof.Rows.LSm.kept_iter hk),rfl,q⟩
theorem JW (hc:X.calm=true):dN X (.builtin "all") (rA fa X.K .all):=mZ (si (fa:=fa)) fun vs H Q h=>by
 obtain ⟨μ,M,ds,hM,r,h⟩:=h
 match ds,r,h with
 |[],_,h=>exact h.elim
 |d::_::_,_,h=>exact h.elim
 | [d], r, h =>
   obtain ⟨v,rfl,hv⟩:=t8 r
   have h:au (match gW M d with|some xs=>(match boolsOf xs with|some bs=>.ok (.bl (bs.all id)) M|none=>.bad)|none=>.bad) (bG fa X.K μ H Q):=h
   cases e:gW M d with
   |none=>rw [e] at h;exact h.elim
   | some xs =>
     rw [e] at h
     simp only at h
     cases e2:boolsOf xs with
     |none=>rw [e2] at h;exact h.elim
     | some bs =>
       rw [e2] at h
       obtain ⟨a,vs,rfl,hq,r⟩:=cw hM hv e
       exact ⟨μ,xs,bs,a,vs,rfl,hc,hq,r,e2,bE (v:=.bl (bs.all id)) hM h rfl⟩
def tyName:Ty->String
 |.int=>"int" | .bool=>"bool" | .str=>"str" | .tuple=>"tuple" | .list=>"list" | .own _=>""
def Ks:D->String
 |.non=>"NoneType" | .bl _=>"bool" | .int _=>"int" | .str _=>"str" | .tup _=>"tuple" | _=>"list"
theorem Jd (t:Ty)(d:D)(b:Bool)(ht:∀c,t≠.own c)(e:cx t d=some b):PySem.W.kitOne X.K (.type (Ks d)) (.type (tyName t))=some b:=by
 cases t with
 |own c=>exact absurd rfl (ht c)
 |_=>cases d<;>first|(cases (show (none:Option Bool)=some b from e))|(have e':=Option.some.inj e;subst e';(first|rfl|decide +kernel))
theorem Bp {d:D}{v:V}{b:Bool}{t:Ty}(hM:RelM fa X.K μ H M)(h:Rep fa X.K μ H d v)(e:cx t d=some b)(I:Inv X pins σ H s){u c:Value}(r:RelV v u){Q:Value->Shared->Prop}
 (ek:PySem.W.kitOne X.K (.type (Ks d)) c=some b) (q:∀tk,Q (.bool b) {s with toks:=tk}):wpAny (model X.prog X.w) X.A (call (.builtin "isinstance") [u,c]) Q X.xe s:=by
 cases d with
 |non=>obtain rfl:v=.non:=h;exact lF I r .non ek q
 |bl x=>obtain rfl:v=.bl x:=h;exact lF I r (.bl x) ek q
 |int x=>obtain rfl:v=.int x:=h;exact lF I r (.int x) ek q
 |str x=>obtain rfl:v=.str x:=h;exact lF I r (.str x) ek q
 | tup ds =>
   obtain ⟨a,vs,rfl,hq,_⟩:=h
   obtain rfl:u=Value.ref a:=r
   obtain ⟨its,rv,⟨o,h1,h2,_⟩,_⟩:=I.tuple hq
   exact PySem.W.kia_one PySem.W.kitx_tuple I.kIn ⟨o,h1,h2⟩ ek (fun z=>nomatch z) q
 | lst ds =>
   obtain ⟨a,vs,rfl,hq,_⟩:=cw (ds:=ds) hM h rfl
   obtain rfl:u=Value.ref a:=r
   obtain ⟨its,rv,⟨o,n,h1,h2,_⟩,_⟩:=I.list hq
   exact PySem.W.kia_one PySem.W.kitx_list I.kIn ⟨o,h1,h2⟩ ek (fun z=>nomatch z) q
 | frz ds =>
   obtain ⟨a,vs,rfl,hq,_⟩:=cw (ds:=ds) hM h rfl
   obtain rfl:u=Value.ref a:=r
   obtain ⟨its,rv,⟨o,n,h1,h2,_⟩,_⟩:=I.list hq
   exact PySem.W.kia_one PySem.W.kitx_list I.kIn ⟨o,h1,h2⟩ ek (fun z=>nomatch z) q
 | cell k =>
   obtain ⟨a,rfl,hk⟩:=h
   obtain ⟨ds,vs,_,hq,_⟩:=hM.mu_lt hk
   obtain rfl:u=Value.ref a:=r
   obtain ⟨its,rv,⟨o,n,h1,h2,_⟩,_⟩:=I.list (dA.of hq)
   exact PySem.W.kia_one PySem.W.kitx_list I.kIn ⟨o,h1,h2⟩ ek (fun z=>nomatch z) q
 |fn f=>cases e
 |exc y p=>cases e
def Js (fa:Fa)(K:PySem.W.Frag)(t:Ty):List V->Hp->VK->Prop:=fun vs H Q=>∃μ M d v b,vs=[v,.ty (tyName t)]/\RelM fa K μ H M/\Rep fa K μ H d v/\cx t d=some b/\Q (.bl b) H
theorem Ik (t:Ty)(ht:∀c,t≠.own c):dN X (.builtin "isinstance") (Js fa X.K t):=by
 intro pins s σ H xs us Q I r h
 obtain ⟨μ,M,d,v,b,rfl,hM,hv,e,q⟩:=h
 obtain ⟨u,w,rfl,r1,r2⟩:=vals2 r
 obtain rfl:w=Value.type (tyName t):=r2
 exact Bp hM hv e I r1 (Jd t d b ht e) fun tk=>⟨.bl b,H,I.tok _,rfl,q⟩
end
end LD
namespace LD
open PySem PySem.Spec PyProof.Rows L2
section
variable {fa:Fa}{X:Cx}
abbrev DE (fa:Fa)(X:Cx)(e:Expr)(g:Env->Mem->Res D):Prop:=PE X e (tE fa X.K g)
abbrev DT (fa:Fa)(X:Cx)(e:Expr)(g:Env->Mem->Res Bool):Prop:=PT X e (tT fa X.K g)
abbrev DW (fa:Fa)(X:Cx)(e:Expr)(g:Env->Mem->Res Bool):Prop:=PW X e (tT fa X.K g)
abbrev DA (fa:Fa)(X:Cx)(es:List Expr)(g:Env->Mem->Res (List D)):Prop:=PA X es (tA fa X.K g)
abbrev DS (fa:Fa)(X:Cx)(st:Stmt)(g:Env->Mem->Res Fl):Prop:=PS X st (tF fa X g)
abbrev iC (fa:Fa)(X:Cx)(st:List Stmt)(g:Env->Mem->Res Fl):Prop:=oa X st (tF fa X g)
variable {a b d:Expr}{ga gb gd:Env->Mem->Res D}{pos:Pos}
theorem J1 {i:Nat}{x:Str}(hN:X.N[i]?=some x)(hv:tK X.env.scope x)(hd:(x==("__debug__":Str))=false)(hcd:(x==("__classdict__":Str))=false) :
 DE fa X (.Name x pos) (fun Z M=>dv M (Z[i]?.getD none)):=cG (ql hN hv hd hcd) fun σ H Q ⟨μ,Z,M,hE,hM,h⟩=>by
 obtain ⟨d,e,w⟩:=oy h
 have e':Z[i]?=some (some d):=by
  cases q:Z[i]? with
  |none=>rw [q] at e;cases e
  |some o=>rw [q] at e;simp at e;rw [e]
 obtain ⟨v,h1,h2⟩:=hE.at' i d e'
 exact ⟨v,h1,bE hM w h2⟩
theorem mn {e:Expr}{dc:D}{v:V}(h:PE X e (tC v))(r:∀μ H,Rep fa X.K μ H dc v):DE fa X e (fun _ M=>.ok dc M):=cG h fun σ H Q ⟨μ,Z,M,hE,hM,h⟩=>bE hM h (r μ H)
theorem Kb {i:Int}{j:Nat}:DE fa X (.Constant (.int i) j pos) (fun _ M=>.ok (.int i) M):=mn (v:=.int i) Aa fun _ _=>rfl
theorem MK {i:Bool}{j:Nat}:DE fa X (.Constant (.bool i) j pos) (fun _ M=>.ok (.bl i) M):=mn (v:=.bl i) xU fun _ _=>rfl
theorem J3 {i:Str}{j:Nat}:DE fa X (.Constant (.str i) j pos) (fun _ M=>.ok (.str i) M):=mn (v:=.str i) GD fun _ _=>rfl
theorem J7 {j:Nat}:DE fa X (.Constant .none j pos) (fun _ M=>.ok .non M):=mn (v:=.non) GI fun _ _=>rfl
theorem t2 {μ:Mu}{H:Hp}{σ:L2.St}{Z:Env}{M:Mem}{β:Type}{f:D->D->Mem->Res β}{P:β->Mem->Prop}{R:V->V->Hp->Prop}(hE:bL fa X.K μ H σ Z)(hM:RelM fa X.K μ H M)
 (h:au ((ga Z M).bind fun x M=>(gb Z M).bind fun y M=>f x y M) P)
 (k:∀x y M2 v u H2 μ2,Ext μ H μ2 H2->bL fa X.K μ2 H2 σ Z->RelM fa X.K μ2 H2 M2->Rep fa X.K μ2 H2 x v->Rep fa X.K μ2 H2 y u->au (f x y M2) P->R v u H2) :
 tE fa X.K ga σ H fun v H1=>tE fa X.K gb σ H1 fun u H2=>R v u H2:=
 t1 hE hM h fun x M1 v H1 μ1 x1 hE1 hM1 r1 h1=>t1 hE1 hM1 h1 fun y M2 u H2 μ2 x2 hE2 hM2 r2 h2=>k x y M2 v u H2 μ2 (x1.trans x2) hE2 hM2 (r1.ext x2) r2 h2
theorem Kf (m:Bool)(o:nv)(ha:DE fa X a ga)(hb:DE fa X b gb):DE fa X (.BinOp a (binOp o) b pos) (fun Z M=>(ga Z M).bind fun x M=>(gb Z M).bind fun y M=>fR m o x y M):=
 cG (Jy (Ko m o) ha hb) fun σ H Q ⟨μ,Z,M,hE,hM,h⟩=>t2 hE hM h fun x y M2 v u H2 μ2 x2 hE2 hM2 r1 r2 h2=>⟨μ2,M2,x,y,hM2,r1,r2,md h2 x2⟩
theorem qA {r:Option Bool}{M:Mem}{P:D->Mem->Prop}(h:au ((dv M r).bind fun b M=>.ok (.bl b) M) P):∃b,r=some b/\P (.bl b) M:=by
 obtain ⟨b,M1,e,q⟩:=bq h
 cases r with
 |none=>cases e
 |some b'=>cases e;exact ⟨_,rfl,q⟩
theorem Kd (hu:Rm X)(o:iW)(ha:DE fa X a ga)(hb:DE fa X b gb)(hm:behindInMarks (dq o) b=false) :
 DE fa X (.Compare a [dq o] [b] pos) (fun Z M=>(ga Z M).bind fun x M=>(gb Z M).bind fun y M=>(dv M (bN o x y M)).bind fun b M=>.ok (.bl b) M):=
 cG (Eo (oO hu o) ha hb hm) fun σ H Q ⟨μ,Z,M,hE,hM,h⟩=>t2 hE hM h fun x y M2 v u H2 μ2 x2 hE2 hM2 r1 r2 h2=>by
  obtain ⟨b,e,q⟩:=qA h2
  exact ⟨μ2,M2,x,y,b,hM2,r1,r2,e,bE (v:=.bl b) hM2 (q.ext x2) rfl⟩
theorem Iu (hu:Rm X)(o:iW)(ha:DE fa X a ga)(hb:DE fa X b gb)(hm:behindInMarks (dq o) b=false) :
 DT fa X (.Compare a [dq o] [b] pos) (fun Z M=>((ga Z M).bind fun x M=>(gb Z M).bind fun y M=>(dv M (bN o x y M)).bind fun b M=>.ok (.bl b) M).bind fun x M=>dv M (lN M x)):=
 nM (wX (oO hu o) ha hb hm) fun σ H Q ⟨μ,Z,M,hE,hM,h⟩=>by
  obtain ⟨z,M3,e,q⟩:=bq h
  have h':au ((ga Z M).bind fun x M=>(gb Z M).bind fun y M=>(dv M (bN o x y M)).bind fun b M=>.ok (.bl b) M) (fun d M=>d=z/\M=M3):=by rw [e];exact ⟨rfl,rfl⟩
  refine t2 hE hM h' fun x y M2 v u H2 μ2 x2 hE2 hM2 r1 r2 h2=>?_
  obtain ⟨b,e1,e2,e3⟩:=qA h2
  subst e2 e3
  exact ⟨μ2,M2,x,y,b,hM2,r1,r2,e1,b,rfl,q H2 μ2 x2 hM2⟩
theorem DN {g:Env->Mem->Res D}{σ:L2.St}{H:Hp}{Q:Bool->Hp->Prop}(hb:∀Z M x M',g Z M=.ok x M'->∃k,x=.bl k)(h:tT fa X.K (fun Z M=>(g Z M).bind fun x M=>dv M (lN M x)) σ H Q) :
 tE fa X.K g σ H (fun x H'=>∃k,x=.bl k/\Q k H'):=by
 obtain ⟨μ,Z,M,hE,hM,h⟩:=h
 obtain ⟨x,M1,e,q⟩:=bq h
 obtain ⟨k,rfl⟩:=hb Z M x M1 e
 refine ⟨μ,Z,M,hE,hM,?_⟩
 rw [e]
 intro v H1 μ1 x1 m1 r1
 obtain rfl:v=.bl k:=r1
 exact ⟨k,rfl,q H1 μ1 x1 m1⟩
theorem Dq {o o':iW}{gc:Env->Mem->Res D}(σ:L2.St)(H:Hp)(Q:VK):tE fa X.K (fun Z M=>(ga Z M).bind fun x M=>(gb Z M).bind fun y M=>(dv M (bN o x y M)).bind fun k M=>
 if k then (gc Z M).bind fun z M=>(dv M (bN o' y z M)).bind fun b M=>.ok (.bl b) M else .ok (.bl false) M) σ H Q->uF (jc fa X.K o) (jc fa X.K o') (tE fa X.K ga) (tE fa X.K gb) (tE fa X.K gc) σ H Q:=fun ⟨μ,Z,M,hE,hM,h⟩=>by
 refine t2 hE hM h fun x y M2 v u H2 μ2 x2 hE2 hM2 r1 r2 h2=>?_
 obtain ⟨k,M3,e,q⟩:=bq h2
 cases ec:bN o x y M2 with
 |none=>rw [ec] at e;cases e
 | some k' =>
   rw [ec] at e
   cases e
   refine ⟨μ2,_,x,y,k,hM2,r1,r2,ec,k,rfl,?_⟩
   cases k with
   |false=>exact bE (v:=.bl false) hM2 (bG.ext q x2) rfl
   | true =>
     refine t1 hE2 hM2 q fun z M4 w H4 μ4 x4 hE4 hM4 r4 h4=>?_
     obtain ⟨b,e4,q4⟩:=qA h4
     exact ⟨μ4,M4,y,z,b,hM4,r2.ext x4,r4,e4,bE (v:=.bl b) hM4 (q4.ext (x2.trans x4)) rfl⟩
theorem Ke (hu:Rm X)(o o':iW){gc:Env->Mem->Res D}(ha:DE fa X a ga)(hb:DE fa X b gb)(hc:DE fa X d gc)(hm:lastMarks [dq o,dq o'] [b,d]=false) :
 DE fa X (.Compare a [dq o,dq o'] [b,d] pos) (fun Z M=>(ga Z M).bind fun x M=>(gb Z M).bind fun y M=>(dv M (bN o x y M)).bind fun k M=>
  if k then (gc Z M).bind fun z M=>(dv M (bN o' y z M)).bind fun b M=>.ok (.bl b) M else .ok (.bl false) M):=cG (BZ (oO hu o) (oO hu o') ha hb hc hm) Dq
theorem B6 {r:Option Bool}{M M':Mem}{x:D}(h:((dv M r).bind fun b M=>Res.ok (.bl b) M)=.ok x M'):∃k,x=.bl k:=by
 cases r with
 |none=>cases h
 |some b=>cases h;exact ⟨b,rfl⟩
theorem gq {α β:Type}{r:Res α}{f:α->Mem->Res β}{x:β}{M:Mem}(h:r.bind f=.ok x M):∃a M1,r=.ok a M1/\f a M1=.ok x M:=by
 cases r with
 |ok a M1=>exact ⟨a,M1,rfl,h⟩
 |err=>cases h
 |bad=>cases h
theorem Iv (hu:Rm X)(o o':iW){gc:Env->Mem->Res D}(ha:DE fa X a ga)(hb:DE fa X b gb)(hc:DE fa X d gc)(hm:lastMarks [dq o,dq o'] [b,d]=false) :
 DT fa X (.Compare a [dq o,dq o'] [b,d] pos) (fun Z M=>((ga Z M).bind fun x M=>(gb Z M).bind fun y M=>(dv M (bN o x y M)).bind fun k M=>
  if k then (gc Z M).bind fun z M=>(dv M (bN o' y z M)).bind fun b M=>.ok (.bl b) M else .ok (.bl false) M).bind fun x M=>dv M (lN M x)):=
 nM (BW (oO hu o) (oO hu o') ha hb hc hm) fun σ H Q h=>Dq σ H _ (DN (fun Z M x M' e=>by
  obtain ⟨x1,M1,_,e⟩:=gq e
  obtain ⟨x2,M2,_,e⟩:=gq e
  obtain ⟨k,M3,_,e⟩:=gq e
  cases k with
  |false=>cases e;exact ⟨_,rfl⟩
  | true =>
    obtain ⟨x4,M4,_,e⟩:=gq e
    exact B6 e) h)
theorem J8 (ha:DE fa X a ga):DE fa X (.UnaryOp .USub a pos) (fun Z M=>(ga Z M).bind fun x M=>match x with|.int i=>.ok (.int (-i)) M|_=>.bad):=
 cG (Dd zj ha) fun σ H Q ⟨μ,Z,M,hE,hM,h⟩=>t1 hE hM h fun x M1 v H1 μ1 x1 hE1 hM1 r1 h1=>by
  cases x with
  |int i=>exact ⟨i,r1,bE (v:=.int (-i)) hM1 (bG.ext h1 x1) rfl⟩
  |_=>exact h1.elim
theorem Kg {rest:List Expr}(ha:DE fa X a ga)(hb:DE fa X (.BoolOp .And (b::rest) pos) gb):DE fa X (.BoolOp .And (a::b::rest) pos) (fun Z M=>(ga Z M).bind fun x M=>match x with
 |.bl true=>gb Z M
 |.bl false=>.ok (.bl false) M
 |_=>.bad):=
 cG (GL ha hb) fun σ H Q ⟨μ,Z,M,hE,hM,h⟩=>t1 hE hM h fun x M1 v H1 μ1 x1 hE1 hM1 r1 h1=>by
  cases x with
  | bl k =>
    refine ⟨k,r1,?_⟩
    cases k with
    |true=>exact ⟨μ1,Z,M1,hE1,hM1,md h1 x1⟩
    |false=>exact bE (v:=.bl false) hM1 (bG.ext h1 x1) rfl
  |_=>exact h1.elim
theorem MJ {rest:List Expr}(ha:DE fa X a ga)(hb:DE fa X (.BoolOp .Or (b::rest) pos) gb):DE fa X (.BoolOp .Or (a::b::rest) pos) (fun Z M=>(ga Z M).bind fun x M=>match x with
 |.bl true=>.ok (.bl true) M
 |.bl false=>gb Z M
 |_=>.bad):=
 cG (Jx ha hb) fun σ H Q ⟨μ,Z,M,hE,hM,h⟩=>t1 hE hM h fun x M1 v H1 μ1 x1 hE1 hM1 r1 h1=>by
  cases x with
  | bl k =>
    refine ⟨k,r1,?_⟩
    cases k with
    |true=>exact bE (v:=.bl true) hM1 (bG.ext h1 x1) rfl
    |false=>exact ⟨μ1,Z,M1,hE1,hM1,md h1 x1⟩
  |_=>exact h1.elim
theorem J5 {op:PySem.BoolOp}(ha:DE fa X a ga):DE fa X (.BoolOp op [a] pos) ga:=GG ha
theorem J6 (ha:DE fa X a ga):DE fa X (.UnaryOp .Not a pos) (fun Z M=>(ga Z M).bind fun x M=>match x with|.bl k=>.ok (.bl (!k)) M|_=>.bad):=
 cG (GH ha) fun σ H Q ⟨μ,Z,M,hE,hM,h⟩=>t1 hE hM h fun x M1 v H1 μ1 x1 hE1 hM1 r1 h1=>by
  cases x with
  |bl k=>exact ⟨k,r1,bE (v:=.bl (!k)) hM1 (bG.ext h1 x1) rfl⟩
  |_=>exact h1.elim
variable {ta tb:Env->Mem->Res Bool}
theorem E1 (ha:DT fa X a ta):DW fa X (.BoolOp .And [a] pos) ta:=Ef ha
theorem Ip (ha:DT fa X a ta):DW fa X (.BoolOp .Or [a] pos) ta:=Gq ha
theorem KA {b':Res Bool}{μ μ':Mu}{H H':Hp}{Q:Bool->Hp->Prop}(x:Ext μ H μ' H')(h:au b' fun b M'=>∀H'' μ'',Ext μ H μ'' H''->RelM fa X.K μ'' H'' M'->Q b H''):au b' fun b M'=>∀H'' μ'',Ext μ' H' μ'' H''->RelM fa X.K μ'' H'' M'->Q b H'':=
 a7 h fun b M q H'' μ'' y m=>q H'' μ'' (x.trans y) m
theorem Iq {rest:List Expr}(ha:DT fa X a ta)(hb:DW fa X (.BoolOp .And (b::rest) pos) tb):DW fa X (.BoolOp .And (a::b::rest) pos) (fun Z M=>(ta Z M).bind fun k M=>if k then tb Z M else .ok false M):=
 zW (Gr ha hb) fun σ H Q ⟨μ,Z,M,hE,hM,h⟩=>zv hE hM h fun k M1 H1 μ1 x1 hE1 hM1 h1=>by
  cases k with
  |true=>exact ⟨μ1,Z,M1,hE1,hM1,KA x1 h1⟩
  |false=>exact h1 H1 μ1 x1 hM1
theorem JZ {rest:List Expr}(ha:DT fa X a ta)(hb:DW fa X (.BoolOp .Or (b::rest) pos) tb):DW fa X (.BoolOp .Or (a::b::rest) pos) (fun Z M=>(ta Z M).bind fun k M=>if k then .ok true M else tb Z M):=
 zW (Jv ha hb) fun σ H Q ⟨μ,Z,M,hE,hM,h⟩=>zv hE hM h fun k M1 H1 μ1 x1 hE1 hM1 h1=>by
  cases k with
  |true=>exact h1 H1 μ1 x1 hM1
  |false=>exact ⟨μ1,Z,M1,hE1,hM1,KA x1 h1⟩
theorem Ir (ha:DT fa X a ta):DT fa X (.UnaryOp .Not a pos) (fun Z M=>(ta Z M).bind fun k M=>.ok (!k) M):=
 nM (Gs ha) fun σ H Q ⟨μ,Z,M,hE,hM,h⟩=>zv hE hM h fun k M1 H1 μ1 x1 hE1 hM1 h1=>h1 H1 μ1 x1 hM1
theorem CG (ha:DE fa X a ga)(he:∀whole,isTrue a X.env whole=(do let v <- whole;standAt a.pos;holding [v] (truthy v))):DT fa X a (fun Z M=>(ga Z M).bind fun x M=>dv M (lN M x)):=
 nM (BV ha he) fun σ H Q ⟨μ,Z,M,hE,hM,h⟩=>t1 hE hM h fun x M1 v H1 μ1 x1 hE1 hM1 r1 h1=>by
  obtain ⟨k,e,q⟩:=oy h1
  exact ⟨k,Lb hM1 r1 e,q H1 μ1 x1 hM1⟩
theorem Ka {c:Expr}{gc:Env->Mem->Res Bool}(hc:DT fa X c gc)(ha:DE fa X a ga)(hb:DE fa X b gb):DE fa X (.IfExp c a b pos) (fun Z M=>(gc Z M).bind fun k M=>if k then ga Z M else gb Z M):=
 cG (u6 hc ha hb) fun σ H Q ⟨μ,Z,M,hE,hM,h⟩=>zv hE hM h fun k M1 H1 μ1 x1 hE1 hM1 h1=>by
  cases k with
  |true=>exact ⟨μ1,Z,M1,hE1,hM1,md h1 x1⟩
  |false=>exact ⟨μ1,Z,M1,hE1,hM1,md h1 x1⟩
theorem Kc (ha:DE fa X a ga)(hb:DE fa X b gb)(hs:mv b):DE fa X (.Subscript a b pos) (fun Z M=>(ga Z M).bind fun x M=>(gb Z M).bind fun y M=>dv M (cY x y M)):=
 cG (De JP ha hb hs) fun σ H Q ⟨μ,Z,M,hE,hM,h⟩=>t2 hE hM h fun x y M2 v u H2 μ2 x2 hE2 hM2 r1 r2 h2=>by
  obtain ⟨d,e,q⟩:=oy h2
  exact ⟨μ2,M2,x,y,d,hM2,r1,r2,e,q.ext x2⟩
def DO (fa:Fa)(X:Cx)(e:Option Expr)(hp:Bool)(g:Env->Mem->Res D):Prop:=PO X e fun σ H Q=>∃μ Z M,bL fa X.K μ H σ Z/\RelM fa X.K μ H M/\au (g Z M) fun d M'=>∃o,cL hp d=true/\qs d=some o/\∀H' μ',Ext μ H μ' H'->RelM fa X.K μ' H' M'->Q o H'
theorem E4:DO fa X none false (fun _ M=>.ok .non M):=fun pins s σ H Q I ⟨μ,Z,M,hE,hM,o,_,e,k⟩=>by
 cases e
 exact El pins s σ H Q I (k H μ .refl hM)
theorem E3 (ha:DE fa X a ga):DO fa X (some a) true ga:=fun pins s σ H Q I ⟨μ,Z,M,hE,hM,h⟩=>Ek ha pins s σ H Q I ⟨μ,Z,M,hE,hM,a7 h fun d M' ⟨o,p,e,k⟩ v H' μ' x m r=>by
 cases d with
 |int i=>cases e;exact ⟨i,r,k H' μ' x m⟩
 |_=>cases p⟩
theorem part_of {hp:Bool}{d:D}(h:cL hp d=true):∃o,qs d=some o:=by
 cases hp<;>cases d<;>first|exact ⟨_,rfl⟩|cases h
theorem J4 (m hl hh:Bool){lo hi:Option Expr}{gl gh:Env->Mem->Res D}{p2:Pos}(ha:DE fa X a ga)(hlo:DO fa X lo hl gl)(hhi:DO fa X hi hh gh):DE fa X (.Subscript a (.Slice lo hi none p2) pos)
 (fun Z M=>(ga Z M).bind fun x M=>(gl Z M).bind fun l M=>(gh Z M).bind fun h M=>if cL hl l&&cL hh h then eG m x l h M else .bad):=
 cG (u5 (D4 (fa:=fa) m) ha hlo hhi) fun σ H Q ⟨μ,Z,M,hE,hM,h⟩=>t1 hE hM h fun x M1 v H1 μ1 x1 hE1 hM1 r1 h1=>by
  obtain ⟨l,M2,e2,h2⟩:=bq h1
  obtain ⟨u,M3,e3,h3⟩:=bq h2
  split at h3
  ·next c=>
   rw [Bool.and_eq_true] at c
   obtain ⟨ol,el⟩:=part_of c.1
   obtain ⟨ou,eu⟩:=part_of c.2
   refine ⟨μ1,Z,M1,hE1,hM1,?_⟩
   rw [e2]
   refine ⟨ol,c.1,el,fun H2 μ2 x2 hM2=>⟨μ2,Z,M2,hE1.ext x2,hM2,?_⟩⟩
   rw [e3]
   exact ⟨ou,c.2,eu,fun H3 μ3 x3 hM3=>⟨μ3,M3,x,l,u,hM3,(r1.ext x2).ext x3,el,eu,md h3 ((x1.trans x2).trans x3)⟩⟩
  ·exact h3.elim
theorem IH:DA fa X [] (fun _ M=>.ok [] M):=Ae fO fun σ H Q ⟨μ,Z,M,hE,hM,h⟩=>h [] H μ .refl hM rfl
theorem Fd {es:List Expr}{gs:Env->Mem->Res (List D)}(ha:DE fa X a ga)(hs:DA fa X es gs)(h0:starEach (a::es) X.env=(false,eval a X.env)::starEach es X.env) :
 DA fa X (a::es) (fun Z M=>(ga Z M).bind fun x M=>(gs Z M).bind fun xs M=>.ok (x::xs) M):=
 Ae (di ha hs h0) fun σ H Q ⟨μ,Z,M,hE,hM,h⟩=>t1 hE hM h fun x M1 v H1 μ1 x1 hE1 hM1 r1 h1=>wJ hE1 hM1 h1 fun xs M2 vs H2 μ2 x2 hE2 hM2 r2 h2=>h2 (v::vs) H2 μ2 (x1.trans x2) hM2 ⟨v,vs,rfl,r1.ext x2,r2⟩
theorem J2 {es:List Expr}{gs:Env->Mem->Res (List D)}{k:Nat}(hs:DA fa X es gs):DE fa X (.Tuple es k pos) (fun Z M=>(gs Z M).bind mT):=
 cG (GC hs) fun σ H Q ⟨μ,Z,M,hE,hM,h⟩=>wJ hE hM h fun xs M1 vs H1 μ1 x1 hE1 hM1 r1 h1=>by
  unfold mT at h1
  split at h1
  ·next c=>exact ⟨by rw [r1.length,<- d5];exact c,ju hM1 r1 (bG.ext h1 x1)⟩
  ·exact h1.elim
theorem J9 (m:Bool){es:List Expr}{gs:Env->Mem->Res (List D)}(hs:DA fa X es gs):DE fa X (.List es pos) (fun Z M=>(gs Z M).bind (cf m)):=
 cG (GJ hs) fun σ H Q ⟨μ,Z,M,hE,hM,h⟩=>wJ hE hM h fun xs M1 vs H1 μ1 x1 hE1 hM1 r1 h1=>by
  obtain ⟨c,k⟩:=iL hM1 r1 (md h1 x1)
  exact ⟨by rw [r1.length,<- d5];exact c,k⟩
end
end LD
namespace LD
open PySem PySem.Spec PyProof.Rows L2
theorem nZ (o:Obj)(f:Array Value->Array Value):(o.mapFields f).dict=o.dict:=by
 obtain ⟨c,d,dt,sl⟩:=o
 cases dt<;>rfl
section
variable {P:Program}{w:World}{M:Model}{A:Around}{E:Value->Shared->Prop}{base:Heap}{env:PySem.Env}{outer:List PySem.Env}{L a C:Addr}{dx:Option Addr}{New:Addr->Prop}{H:Hp}{s:Shared}{Q:Unit->Shared->Prop}
theorem wH {oe:Obj}{vs:Array Value}{head:Value}{had:Bool}(hfr:A.frames=some (env::outer))(hl:s.heap.FunFrames base (env::outer))(hf:env.frame=some L)
 (he:s.heap.get? a=some oe) (hd:oe.data=.fields vs) (hsz:1<vs.size)
 (h:∀h' T oT ts,(∀b o,b∉g7 (env::outer)->b≠a->s.heap.get? b=some o->h'.get? b=some o)->(∀b o,b≠a->s.heap.get? b=some o->∃sl,h'.get? b=some {o with slots:=sl})->s.heap.objs.size<=T->T≠a->
  h'.get? a=some (oe.mapFields (·.setIfInBounds 1 (.ref T)))->h'.get? T=some oT->oT.data=.fields ts->ts[3]?=some .none->Q () {s with heap:=h'}) :
 wpAny M A (do let f <- frameOf env;let pl <- entryPlaceOf L had;let b <- EntryCells.newEntry head f .none (rawInt L) .none pl;setField (.ref a) 1 b) (fun _ s'=>wpAny M A (setFlight (.ref a) none) Q E s') E s:=by
 have hene:a∉g7 (env::outer):=fun hm=>by
  obtain ⟨_,o,ho,hnf⟩:=hl.mem hm
  rw [he] at ho;cases ho;exact hnf vs hd
 refine tqa (wpAny_frameOf_fun hfr hl hf fun h₁ hs₁=>?_)
 refine tqa (wpAny_entryPlaceOf fun pl hpl=>?_)
 unfold EntryCells.newEntry newFields
 refine tqa (wpAny_newObj_type ?_ (hpl.sizeOk5 _ _ _ _ _))
 have he₁:h₁.get? a=some oe:=(hs₁.2.1 a hene).trans he
 generalize ho:({cls:=.type "traceback",dict:=none,data:=.fields ([head,.ref L,.none,rawInt L,.none]++(if pl.isEmpty then List.replicate 6 Value.none else pl)).toArray}:Obj)=o
 have hod:o.data=.fields ([head,.ref L,.none,rawInt L,.none]++(if pl.isEmpty then List.replicate 6 Value.none else pl)).toArray:=by rw [<- ho]
 have he₂:=tqc (h:=h₁) o he₁
 refine wpAny_setField he₂ hd hsz ?_
 have hTe:h₁.objs.size≠a:=Nat.ne_of_gt (tqd he₁)
 have hd₃:=Obj.data_mapFields hd (·.setIfInBounds 1 (Value.ref h₁.objs.size))
 have he₃:=tqm (Obj.mapFields (·.setIfInBounds 1 (Value.ref h₁.objs.size))) he₂ (Obj.isFreed_of_fields hd₃)
 have hT₃:=(tql (h₁.push o) (Obj.mapFields (·.setIfInBounds 1 (Value.ref h₁.objs.size))) (Ne.symm hTe)).trans (tqe h₁ (Obj.isFreed_of_fields hod))
 unfold setFlight
 refine tqa (tqf he₃ hd₃ (x:=.ref h₁.objs.size) (by simp [hsz]) ?_)
 rw [if_pos (show (Value.ref h₁.objs.size != Value.none)=true from by simp)]
 refine wpAny_setField hT₃ hod (by simp only [List.size_toArray,List.length_append,List.length_cons,List.length_nil]<;>omega) ?_
 have keep:∀b u,b≠a->h₁.get? b=some u->(((h₁.push o).update a (Obj.mapFields (·.setIfInBounds 1 (Value.ref h₁.objs.size)))).update h₁.objs.size (Obj.mapFields (·.setIfInBounds 3 ((none:Option Addr).elim Value.none fun f=>rawInt f)))).get? b=some u:=fun b u hbe hb=>by
  have hbT:h₁.objs.size≠b:=Nat.ne_of_gt (tqd hb)
  rw [tql _ _ hbT,tql _ _ (Ne.symm hbe)]
  exact tqc _ hb
 refine h _ h₁.objs.size _ _ (fun b u hb hbe q=>keep b u hbe ((hs₁.2.1 b hb).trans q)) (fun b u hbe q=>?_) (Nat.le_of_eq hs₁.1.symm) hTe ?_ (tqm _ hT₃ (Obj.isFreed_of_fields (Obj.data_mapFields hod _))) (Obj.data_mapFields hod _) ?_
 ·obtain ⟨sl,e⟩:=hs₁.2.2 b u q
  exact ⟨sl,keep b _ hbe e⟩
 ·rw [tql _ _ hTe];exact he₃
 ·first|(simp;done)|(rcases hpl with rfl|⟨_,_,_,_,_,_,_,rfl⟩<;>simp)
theorem xh (hfr:A.frames=some (env::outer))(hl:s.heap.FunFrames base (env::outer))(hf:env.frame=some L)(hF:oh New C dx a s.heap H)(hN:∀b,s.heap.objs.size<=b->New b)(hok:fF P w H s.heap)(hfree:∀b∈g7 (env::outer),H b=none)
 (h:∀h' ch,(∀b∈ch,New b/\H b=none/\∃o vs,s.heap.get? b=some o/\o.data=.fields vs)->Un (g7 (env::outer)) ch H H s.heap h'->fF P w H h'->oh New C dx a h' H->Q () {s with heap:=h'}) :
 wpAny M A (noteFrame (.ref a) env) (fun _ s1=>wpAny M A (setFlight (.ref a) none) Q E s1) E s:=by
 obtain ⟨na,ha,oe,vs,he,hc,hdx,hd,tr⟩:=hF
 have fin:∀h' ch,(∀b∈ch,New b/\H b=none/\∃o vs,s.heap.get? b=some o/\o.data=.fields vs)->(∀b o,b∉g7 (env::outer)->b∉ch->s.heap.get? b=some o->h'.get? b=some o)->(∀b o,b∉ch->s.heap.get? b=some o->∃sl,h'.get? b=some {o with slots:=sl})->oh New C dx a h' H->Q () {s with heap:=h'}:=fun h' ch hch keep slot fl=>by
  refine h h' ch hch ⟨fun b o q _ hb hx=>keep b o hb hx q,fun b o q _ _ hx=>slot b o hx q,fun _ _ _ n _=>n,fun b o q hx=>let ⟨sl,e⟩:=slot b o hx q;⟨_,e⟩,fun _ _ e=>e,fun _ _ _ e=>e,fun b ps e=>⟨#[],by rw [e];simp⟩⟩ (fun b u e=>(hok b u e).stay (fun c v hc q=>?_) (fun _ q=>q) fun _ _ q=>q) fl
  have nn:H c≠none:=by rcases hc with z|z<;>(intro z';first|(rw [z,e] at z';cases z')|(rw [z] at z';cases z'))
  exact keep c v (fun z=>nn (hfree c z)) (fun z=>nn (hch c z).2.1) q
 unfold noteFrame
 simp only [hf]
 rcases tr with h1|⟨T,oT,ts,h1,hTa,nT,hT0,hT,hdT,h3⟩
 ·refine tqa (tqf he hd h1 ?_)
  rw [if_neg (by decide)]
  refine wH hfr hl hf he hd (Array.getElem?_eq_some_iff.mp h1).1 fun h' T oT ts k1 k2 k3 k4 k5 k6 k7 k8=>?_
  refine fin h' [a] (fun b hb=>?_) (fun b o hb hx q=>k1 b o hb (fun z=>hx (by simp [z])) q) (fun b o hx q=>k2 b o (fun z=>hx (by simp [z])) q) ⟨na,ha,_,_,k5,?_,?_,Obj.data_mapFields hd _,.inr ⟨T,oT,ts,by simp [(Array.getElem?_eq_some_iff.mp h1).1],k4,hN _ k3,hok.fresh k3,k6,k7,k8⟩⟩
  ·rcases List.mem_singleton.mp hb with rfl
   exact ⟨na,ha,oe,vs,he,hd⟩
  ·rw [Obj.cls_mapFields];exact hc
  ·rw [nZ];exact hdx
 ·refine tqa (tqf he hd h1 ?_)
  rw [if_pos (show (Value.ref T != Value.none)=true from by simp)]
  refine tqa (tqf hT hdT h3 ?_)
  rw [if_neg (show ¬ ((Value.none==rawInt L)=true) from by simp [rawInt])]
  refine tqa (wpAny_setField hT hdT (Array.getElem?_eq_some_iff.mp h3).1 ?_)
  have other:∀b,b≠T->(s.heap.update T (Obj.mapFields (·.setIfInBounds 3 Value.none))).get? b=s.heap.get? b:=fun b hb=>tql _ _ (Ne.symm hb)
  have noRec:∀b o,s.heap.get? b=some o->(∀vs,o.data≠.fields vs)->b≠T:=fun b o hb hnf q=>by
   rw [q,hT] at hb;cases hb;exact hnf ts hdT
  have hz:(s.heap.update T (Obj.mapFields (·.setIfInBounds 3 Value.none))).objs.size=s.heap.objs.size:=Heap.size_after_update ..
  refine wH (s:={s with heap:=s.heap.update T (Obj.mapFields (·.setIfInBounds 3 Value.none))}) hfr (hl.of_keeps fun b o hb hnf=>⟨o,(other b (noRec b o hb hnf)).trans hb,rfl⟩) hf ((other a (Ne.symm hTa)).trans he) hd (Array.getElem?_eq_some_iff.mp h1).1 fun h' T' oT' ts' k1 k2 k3 k4 k5 k6 k7 k8=>?_
  have k3:s.heap.objs.size<=T':=by rw [<- hz];exact k3
  refine fin h' [a,T] (fun b hb=>?_) (fun b o hb hx q=>k1 b o hb (fun z=>hx (by simp [z])) ((other b (fun z=>hx (by simp [z]))).trans q)) (fun b o hx q=>k2 b o (fun z=>hx (by simp [z])) ((other b (fun z=>hx (by simp [z]))).trans q)) ⟨na,ha,_,_,k5,?_,?_,Obj.data_mapFields hd _,.inr ⟨T',oT',ts',by simp [(Array.getElem?_eq_some_iff.mp h1).1],k4,hN _ k3,hok.fresh k3,k6,k7,k8⟩⟩
  ·rcases List.mem_cons.mp hb with rfl|hb
   ·exact ⟨na,ha,oe,vs,he,hd⟩
   ·rcases List.mem_singleton.mp hb with rfl
    exact ⟨nT,hT0,oT,ts,hT,hdT⟩
  ·rw [Obj.cls_mapFields];exact hc
  ·rw [nZ];exact hdx
end
def iX (P:Program)(w:World):ph:=fun outer H s E e s'=>∃a C dx H',e=.ref a/\s'.os=s.os/\AllBare s'.gens/\Un (g7 outer) [] H H' s.heap s'.heap/\fF P w H' s'.heap/\oh (fun b=>s.heap.get? b=none) C dx a s'.heap H'/\E (.ref C) dx H'
theorem oh.imp {New New':Addr->Prop}{C a:Addr}{dx:Option Addr}{h:Heap}{H:Hp}(f:oh New C dx a h H)(i:∀b,New b->New' b):oh New' C dx a h H:=by
 obtain ⟨na,ha,o,vs,h1,h2,h3,h4,tr⟩:=f
 refine ⟨i _ na,ha,o,vs,h1,h2,h3,h4,?_⟩
 rcases tr with t|⟨T,oT,ts,t1,t2,t3,t4⟩
 ·exact .inl t
 ·exact .inr ⟨T,oT,ts,t1,t2,i _ t3,t4⟩
section
variable {P:Program}{w:World}{K:PySem.W.Frag}{mg:Str->Option Value}{base:Heap}{N:List Str}{qual:Str}{scope:Scope}{f:Addr}{cd:Value}{A:Around}{outer:List PySem.Env}{s:Shared}{H:Hp}{E:XK}
theorem Cp {pins:List (Addr×Obj)}{σ:L2.St}{H':Hp}{s':Shared}{a C:Addr}{dx:Option Addr}(I:Inv (gQ (iX P w) P w K mg base N qual scope f cd A outer s H E) pins σ H' s')(hF:oh (og (gQ (iX P w) P w K mg base N qual scope f cd A outer s H E)) C dx a s'.heap H')(hE:E (.ref C) dx H') :
 (gQ (iX P w) P w K mg base N qual scope f cd A outer s H E).xe (.ref a) s':=by
 have hst:=I.stack
 have hsz:s.heap.objs.size<=s'.heap.objs.size:=I.sz
 have hL:∀b o,s.heap.get? b=some o->b∈g7 (envOfC qual scope s.heap.objs.size f cd::outer)->b∈g7 outer:=fun b o q hb=>by
  rcases List.mem_cons.mp (show b∈s.heap.objs.size::g7 outer from hb) with e|e
  ·exact absurd (tqd q) (by rw [e];exact tqn _)
  ·exact e
 unfold gQ
 dsimp only
 unfold leaving
 refine tqa (xh (P:=P) (w:=w) (New:=fun b=>s.heap.get? b=none) I.ok.frames hst rfl (hF.imp fun b z=>z.1) (fun b z=>Heap.get?_none_of_le (tqh hsz z)) I.hok I.stkFree fun h' ch hch u hok fl=>?_)
 have nch:∀b o,s.heap.get? b=some o->b∉ch:=fun b o q z=>by have:=(hch b z).1;rw [q] at this;cases this
 have hb0:Un (g7 outer) [] H H' s.heap s'.heap:=I.base
 refine ⟨a,C,dx,H',rfl,I.os,I.bare,⟨fun b o q n hb hx=>?_,fun b o q n hb hx=>?_,hb0.free,fun b o q hx=>?_,hb0.tups,hb0.frzs,hb0.tbls⟩,hok,fl,hE⟩
 ·exact u.keep b o (hb0.keep b o q n hb hx) (hb0.free b o q n hx) (fun z=>hb (hL b o q z)) (nch b o q)
 ·obtain ⟨sl,e⟩:=hb0.slot b o q n hb hx
  obtain ⟨sl',e'⟩:=u.any e (hb0.free b o q n hx) (nch b o q)
  exact ⟨sl',e'⟩
 ·obtain ⟨o',e⟩:=hb0.there b o q hx
  exact u.there b o' e (nch b o q)
end
section
variable {X:Cx}{pins:List (Addr×Obj)}{σ:L2.St}{H H':Hp}{s s':Shared}{E:XK}{e:Value}
theorem AG (I:Inv X pins σ H s)(hx:X.ex=[])(h:iX X.prog X.w X.stack H s E e s'):∃a C dx H',e=.ref a/\Inv X pins σ H' s'/\oh (og X) C dx a s'.heap H'/\E (.ref C) dx H':=by
 obtain ⟨a,C,dx,H',rfl,os,bare,un,hok,fl,q⟩:=h
 refine ⟨a,C,dx,H',rfl,I.call' os un hok bare (fun b z=>absurd z (by simp)),fl.imp fun b z=>⟨?_,fun p hp e=>?_⟩,q⟩
 ·cases e:X.s₀.heap.get? b with
  |none=>rfl
  | some o =>
    obtain ⟨o',e'⟩:=I.base.there b o e (by rw [hx];simp)
    rw [z] at e';cases e'
 ·have:=(I.pin p (List.mem_append_left _ hp)).1
  rw [e,z] at this;cases this
theorem Cw {h':Heap}{ch:List Addr}(I:Inv X pins σ H s)(hch:∀b∈ch,X.s₀.heap.get? b=none/\(∃o vs,s.heap.get? b=some o/\o.data=.fields vs)/\∀p∈X.pn++pins,p.1≠b)(u:Un (g7 X.stack) ch H H s.heap h')(hok:fF X.prog X.w H h'):Inv X pins σ H {s with heap:=h'}:=by
 obtain ⟨m,⟨o,es,ep,ho,hd,r⟩,hl⟩:=id I.loc
 have neL:X.env.locals∉ch:=fun z=>by
  obtain ⟨o',vs,e,d⟩:=(hch _ z).2.1
  rw [ho] at e;cases e;rw [hd] at d;cases d
 have neC:∀x c,X.env.cells.lookup x=some c->c∉ch:=fun x c e z=>by
  obtain ⟨o',vs,e',d⟩:=(hch _ z).2.1
  obtain ⟨v,o2,e2,d2⟩:=I.cell x c e
  rw [e2] at e';cases e';rw [d2] at d;cases d
 have n0:∀b o,X.s₀.heap.get? b=some o->b∉ch:=fun b o e z=>by rw [(hch b z).1] at e;cases e
 have nst:∀b o,X.s₀.heap.get? b=some o->b∉X.fs->b∉g7 X.stack:=fun b o e n z=>(List.mem_cons.mp (I.stkSub b z)).elim (fun q=>absurd (tqd e) (by rw [q];exact Nat.not_lt.mpr I.ok.above)) n
 obtain ⟨sl,hL⟩:=u.any ho I.free neL
 have cellK:∀x c,X.env.cells.lookup x=some c->∀v,s.heap.IsCell c v->h'.IsCell c v:=fun x c e v ⟨o,ho,hd⟩=>by
  obtain ⟨sl,q⟩:=u.any ho (I.freeC x c e) (neC x c e)
  exact ⟨_,q,hd⟩
 refine ⟨I.ok,I.os,I.bare,⟨fun b o e n hb hx=>?_,fun b o e n hb hx=>?_,I.base.free,fun b o e hx=>?_,I.base.tups,I.base.frzs,I.base.tbls⟩,⟨m,⟨_,es,ep,hL,hd,r⟩,fun i x v e1 e2 e3=>?_⟩,fun x c e=>?_,I.free,I.freeC,fun p hp=>?_,hok,I.len⟩
 ·exact u.keep b o (I.base.keep b o e n hb hx) (I.base.free b o e n hx) (nst b o e hb) (n0 b o e)
 ·obtain ⟨sl,e1⟩:=I.base.slot b o e n hb hx
  obtain ⟨sl',e2⟩:=u.any e1 (I.base.free b o e n hx) (n0 b o e)
  exact ⟨sl',e2⟩
 ·obtain ⟨o',e1⟩:=I.base.there b o e hx
  exact u.there b o' e1 (n0 b o e)
 ·obtain ⟨u',r',l⟩:=hl i x v e1 e2 e3
  refine ⟨u',r',?_⟩
  rcases l with l|⟨k,c,e,z⟩
  ·exact .inl l
  ·exact .inr ⟨k,c,e,cellK x c e _ z⟩
 ·obtain ⟨v,z⟩:=I.cell x c e
  exact ⟨v,cellK x c e v z⟩
 ·obtain ⟨e,n,ne,nf,d⟩:=I.pin p hp
  exact ⟨u.keep p.1 p.2 e n (fun z=>(List.mem_cons.mp (I.stkSub _ z)).elim ne nf) fun z=>(hch _ z).2.2 p hp rfl,n,ne,nf,d⟩
theorem sX {a:Addr}{o:HO}(I:Inv X pins σ H s)(hx:X.ex=[])(hn:H a=none)(h0:X.s₀.heap.get? a=none)(hf:∃ob vs,s.heap.get? a=some ob/\ob.data=.fields vs)(hp:∀p∈X.pn++pins,p.1≠a)(new:dC X.prog X.w (upd H a o) s.heap a o):Inv X pins σ (upd H a o) s:=by
 obtain ⟨ob,vs,hob,hd⟩:=hf
 have ne:∀b u,H b=some u->b≠a:=fun b u e=>bA e hn
 refine ⟨I.ok,I.os,I.bare,⟨I.base.keep,I.base.slot,fun b o e n hx=>?_,I.base.there,fun b xs e=>?_,fun b o u e=>?_,fun b ps e=>?_⟩,I.loc,I.cell,?_,fun x c e=>?_,fun p hp'=>?_,fun b u e=>?_,I.len⟩
 ·rw [aX (fun z=>by rw [z,h0] at e;cases e)];exact I.base.free b o e n hx
 ·have q:=I.base.tups b xs e
  rw [aX (ne b _ q)];exact q
 ·have q:=I.base.frzs b o u e
  rw [aX (ne b _ q)];exact q
 ·obtain ⟨m,q⟩:=I.base.tbls b ps e
  exact ⟨m,by rw [aX (ne b _ q)];exact q⟩
 ·obtain ⟨m,⟨oL,es,ep,ho,hdL,_⟩,_⟩:=id I.loc
  rw [aX (fun z=>by rw [z,hob] at ho;cases ho;rw [hd] at hdL;cases hdL)];exact I.free
 ·obtain ⟨v,o2,e2,d2⟩:=I.cell x c e
  rw [aX (fun z=>by rw [z,hob] at e2;cases e2;rw [hd] at d2;cases d2)];exact I.freeC x c e
 ·obtain ⟨e,n,r⟩:=I.pin p hp'
  exact ⟨e,by rw [aX (hp p hp')];exact n,r⟩
 ·by_cases hb:b=a
  ·subst hb
   rw [cE] at e;cases e
   exact new
  ·rw [aX hb] at e
   exact (I.hok b u e).stay (fun c v _ q=>q) (fun c q=>by rw [aX (ne c _ q)];exact q) fun c xs q=>by rw [aX (ne c _ q)];exact q
end
def j5 {α:Type}(r:Res α)(k:α->Mem->Prop)(kx:D->Mem->Prop):Prop:=match r with
 |.ok a M=>k a M
 |.err x M=>kx x M
 |.bad=>False
theorem G0 {α:Type}{r:Res α}{k:α->Mem->Prop}{kx:D->Mem->Prop}(h:au r k):j5 r k kx:=by
 cases r with
 |ok a M=>exact h
 |err=>exact h.elim
 |bad=>exact h
def yY (fa:Fa)(K:PySem.W.Frag)(μ:Mu)(H:Hp)(E:XK)(x:D)(M':Mem):Prop:=∀C dx c p H' μ',Ext μ H μ' H'->RelM fa K μ' H' M'->x=.exc c p->fa (fu c)=some C->yW H' c dx p->E (.ref C) dx H'
theorem Dg {P:Program}{w:World}{X:Cx}:Passes (iX P w) X E0:=fun _ _ _ _ _ _ _ h=>let ⟨_,_,_,_,_,_,_,_,_,_,z⟩:=h;z.elim
end LD
namespace LD
open PySem PySem.Spec PyProof.Rows L2
def FO (fa:Fa)(K:PySem.W.Frag)(k:Nat)(call:List D->Mem->Res D):Sp:=fun vs H Q E=>vs.length=k/\∃μ M ds,RelM fa K μ H M/\bf fa K μ H ds vs/\j5 (call ds M) (bG fa K μ H Q) (yY fa K μ H E)
def iD (fa:Fa)(P:Program)(w:World)(K:PySem.W.Frag)(mg:Str->Option Value)(base:Heap)(n:Nat)(f:Nat)(call:List D->Mem->Res D):Prop:=
 (∀ds M,call ds M=.bad)\/∃(ad:Addr) (fd:FuncData) (ps:List Str),fa f=some ad/\PySem.W.keepIn K (.ref ad)=true/\Binds K fd ps []/\(∀ds M,ds.length≠ps.length->call ds M=.bad)/\lX P w K mg base (iX P w) (n+4) ad fd ps (FO fa K ps.length call)
section
variable {fa:Fa}{X:Cx}{a b d:Expr}{ga gb gd:Env->Mem->Res D}{pos p:Pos}{es:List Expr}{gs:Env->Mem->Res (List D)}{n:Nat}
theorem A8 {call:List D->Mem->Res D}{P:D->Mem->Prop}{r:Res (List D)}(hb:∀ds M,call ds M=.bad)(h:au (r.bind fun ds M=>call ds M) P):False:=by
 obtain ⟨ds,M,_,q⟩:=bq h
 rw [hb] at q
 exact q
theorem tf {call:List D->Mem->Res D}{k:Nat}{σ:L2.St}{H:Hp}{Q:VK}{μ:Mu}{Z:Env}{M:Mem}(hE:bL fa X.K μ H σ Z)(hM:RelM fa X.K μ H M)(h:au ((gs Z M).bind fun ds M=>call ds M) (bG fa X.K μ H Q))
 (hk:∀ds M1,ds.length≠k->call ds M1=.bad):C7 (FO fa X.K k call) [] E0 (tA fa X.K gs) σ H Q:=by
 refine wJ hE hM h fun ds M1 vs H1 μ1 x1 hE1 hM1 r1 h1=>?_
 rw [List.append_nil]
 refine ⟨?_,μ1,M1,ds,hM1,r1,G0 (md h1 x1)⟩
 rw [r1.length]
 by_cases hl:ds.length=k
 ·exact hl
 ·rw [hk ds M1 hl] at h1;exact h1.elim
theorem IJ {f:Nat}{x:Str}{call:List D->Mem->Res D}(C:iD fa X.prog X.w X.K X.mg X.base n f call)(hr:cU (n+4) X.A)(hg:Gl X x)(hm:∀ad,fa f=some ad->X.mg x=some (.ref ad))(hs:DA fa X (a::es) gs)
 (hdb:(x==("__debug__":Str))=false) (he:starEach (a::es) X.env=(false,eval a X.env)::starEach es X.env) (hpl:(backTo pos (starEach es X.env)).any (·.1)=false) :
 DE fa X (.Call (.Name x p) (a::es) [] pos) (fun Z M=>(gs Z M).bind fun ds M=>call ds M):=by
 rcases C with hb|⟨ad,fd,ps,h1,h2,h3,h4,F⟩
 ·exact fun pins s σ H Q I ⟨μ,Z,M,hE,hM,h⟩=>(A8 hb h).elim
 ·exact cG (Ep F hr hg (hm ad h1) h2 h3 .nil Dg hs hdb he hpl) fun σ H Q ⟨μ,Z,M,hE,hM,h⟩=>tf hE hM h h4
theorem Fe {i:Nat}{x:Str}{call:Nat->List D->Mem->Res D}(C:∀f,iD fa X.prog X.w X.K X.mg X.base n f (call f))(hr:cU (n+4) X.A)(hN:X.N[i]?=some x)(hv:tK X.env.scope x)(hs:DA fa X (a::es) gs)
 (hd:(x==("__debug__":Str))=false) (hcd:(x==("__classdict__":Str))=false) (he:starEach (a::es) X.env=(false,eval a X.env)::starEach es X.env) (hpl:(backTo pos (starEach es X.env)).any (·.1)=false) :
 DE fa X (.Call (.Name x p) (a::es) [] pos) (fun Z M=>match Z[i]?.getD none with|some (.fn f)=>(gs Z M).bind fun ds M=>call f ds M|_=>.bad):=by
 intro pins s σ H Q I ⟨μ,Z,M,hE,hM,h⟩
 dsimp only at h
 cases e:Z[i]?.getD none with
 |none=>rw [e] at h;exact h.elim
 | some df =>
   cases df with
   | fn f =>
     rw [e] at h
     simp only at h
     have e':Z[i]?=some (some (.fn f)):=by
      cases q:Z[i]? with
      |none=>rw [q] at e;cases e
      |some o=>rw [q] at e;simp at e;rw [e]
     obtain ⟨v,hv1,hv2⟩:=hE.at' i _ e'
     obtain ⟨ad,rfl,had⟩:=hv2
     rcases C f with hb|⟨ad',fd,ps,h1,h2,h3,h4,F⟩
     ·exact (A8 hb h).elim
     ·rw [had] at h1;cases h1
      refine wpAny_Call_Name_kw (bz (ql hN hv hd hcd pins s σ H (fun v H'=>v=.ref ad/\H'=H) I ⟨_,hv1,rfl,rfl⟩) fun u s1 ⟨v,H1,I1,r1,e1,e2⟩=>?_)
      subst e1 e2
      obtain rfl:u=Value.ref ad:=r1
      refine PySem.W.callWith_K (h₀:=X.base) I1.ok.mod.kin h2 (bz (hs pos pins s1 σ H1 _ I1 (tf hE hM h h4)) fun us s2 ⟨vs,H2,I2,r,q⟩=>⟨I2.kIn,?_⟩) he hpl
      exact zU F hr h3 .nil Dg I2 r q
   |_=>rw [e] at h;exact h.elim
theorem Dw (f:vZ){x:Str}{id:String}(hc:dN X (.builtin id) (rA fa X.K f))(hg:Gl X x)(hm:X.mg x=none)(hv:bootBuiltins x=some (.builtin id))(hs:DA fa X (a::es) gs)(hn:x≠"__name__")(hdb:(x==("__debug__":Str))=false)
 (he:starEach (a::es) X.env=(false,eval a X.env)::starEach es X.env) (hpl:(backTo pos (starEach es X.env)).any (·.1)=false):DE fa X (.Call (.Name x p) (a::es) [] pos) (fun Z M=>(gs Z M).bind fun ds M=>gp f ds M):=
 cG (mQ hc hg hm hv hs hn hdb he hpl) fun σ H Q ⟨μ,Z,M,hE,hM,h⟩=>wJ hE hM h fun ds M1 vs H1 μ1 x1 hE1 hM1 r1 h1=>⟨μ1,M1,ds,hM1,r1,md h1 x1⟩
theorem AW (f:vZ){x:Str}{T:String}(hc:dN X (.type T) (rA fa X.K f))(hg:Gl X x)(hm:X.mg x=none)(hv:bootBuiltins x=some (.type T))(hs:DA fa X (a::es) gs)(hn:x≠"__name__")(hdb:(x==("__debug__":Str))=false)
 (he:starEach (a::es) X.env=(false,eval a X.env)::starEach es X.env) (hpl:(backTo pos (starEach es X.env)).any (·.1)=false):DE fa X (.Call (.Name x p) (a::es) [] pos) (fun Z M=>(gs Z M).bind fun ds M=>gp f ds M):=
 cG (Ab hc hg hm hv hs hn hdb he hpl) fun σ H Q ⟨μ,Z,M,hE,hM,h⟩=>wJ hE hM h fun ds M1 vs H1 μ1 x1 hE1 hM1 r1 h1=>⟨μ1,M1,ds,hM1,r1,md h1 x1⟩
theorem II (t:Ty)(ht:∀c,t≠.own c){x:Str}{p1 p2:Pos}(ha:DE fa X a ga)(hg:Gl X "isinstance")(hm:X.mg "isinstance"=none)(hv:bootBuiltins "isinstance"=some (.builtin "isinstance"))(hgt:Gl X x)(hmt:X.mg x=none)(hvt:bootBuiltins x=some (.type (tyName t)))
 (hn:x≠"__name__") (hdb:(x==("__debug__":Str))=false)
 (he:starEach [a,.Name x p1] X.env=(false,eval a X.env)::starEach [.Name x p1] X.env):DE fa X (.Call (.Name "isinstance" p2) [a,.Name x p1] [] pos) (fun Z M=>(ga Z M).bind fun x M=>(dv M (cx t x)).bind fun b M=>.ok (.bl b) M):=
 cG (mQ (Ik (fa:=fa) t ht) hg hm hv (di ha (di (w8 hgt hmt hvt (v:=.ty (tyName t)) rfl hn hdb) fO (by rfl)) he) (by decide) (by decide) he (by rfl)) fun σ H Q ⟨μ,Z,M,hE,hM,h⟩=>t1 hE hM h fun x M1 v H1 μ1 x1 hE1 hM1 r1 h1=>by
  obtain ⟨b,e,q⟩:=qA h1
  exact ⟨μ1,M1,x,v,b,rfl,hM1,r1,e,bE (v:=.bl b) hM1 (q.ext x1) rfl⟩
def gT (fa:Fa)(K:PySem.W.Frag)(t:dD):TG:=fun v σ H Q=>∃μ Z M d ρ1,bL fa K μ H σ Z/\RelM fa K μ H M/\Rep fa K μ H d v/\c7 t d Z=some ρ1/\∀σ1,bL fa K μ H σ1 ρ1->Q σ1 H
theorem zZ {tg:Expr}{g g':TG}(h:PG X tg g)(i:∀v σ H Q,g' v σ H Q->g v σ H Q):PG X tg g':=fun pins s σ H v u Q I r q=>h pins s σ H v u Q I r (i v σ H Q q)
theorem w5 {tg:List Expr}{g g':rf}(h:vX X tg g)(i:∀v σ H Q,g' v σ H Q->g v σ H Q):vX X tg g':=fun pins s σ H v u Q I r q=>h pins s σ H v u Q I r (i v σ H Q q)
theorem E9 {i:Nat}{x:Str}(hN:X.N.Nodup)(hi:X.N[i]?=some x)(hx:Loc X.env.scope x)(hf:X.fn x=true\/X.env.scope.names.lookup x=some .local):PG X (.Name x pos) (gT fa X.K (.one i)):=
 zZ (w6 hN hi hx hf) fun v σ H Q ⟨μ,Z,M,d,ρ1,hE,hM,r,e,k⟩=>by
  have e':Z.set i (some d)=ρ1:=Option.some.inj e
  subst e'
  exact k _ (hE.set r)
def Ih (fa:Fa)(K:PySem.W.Frag)(l:List Nat):rf:=fun vs σ H Q=>∃μ Z M ds ρ1,bL fa K μ H σ Z/\RelM fa K μ H M/\bf fa K μ H ds vs/\gX l ds Z=some ρ1/\∀σ1,bL fa K μ H σ1 ρ1->Q σ1 H
inductive lL (X:Cx):List Nat->List Expr->Prop
 |nil:lL X [] []
 |cons {i:Nat}{x:Str}{p:Pos}{l:List Nat}{ns:List Expr} (hi:X.N[i]?=some x) (hx:Loc X.env.scope x) (hf:X.fn x=true\/X.env.scope.names.lookup x=some .local) (r:lL X l ns):lL X (i::l) (.Name x p::ns)
theorem lL.each {l:List Nat}{ns:List Expr}(h:lL X l ns):(assignEach ns X.env).length=l.length/\(assignEach ns X.env).findIdx? (·.1)=none:=by
 induction h with
 |nil=>exact ⟨rfl,rfl⟩
 | cons hi hx hf r ih =>
   rename_i i x p l ns
   have e:assignEach (.Name x p::ns) X.env=(false,assign (.Name x p) X.env)::assignEach ns X.env:=rfl
   rw [e]
   refine ⟨by simp [ih.1],?_⟩
   rw [List.findIdx?_cons]
   simp [ih.2]
theorem CJ (hN:X.N.Nodup){l:List Nat}{ns:List Expr}(h:lL X l ns):vX X ns (Ih fa X.K l):=by
 induction h with
 | nil =>
   refine w5 En fun vs σ H Q ⟨μ,Z,M,ds,ρ1,hE,hM,r,e,k⟩=>?_
   cases ds with
   | nil =>
     obtain rfl:vs=[]:=r
     have e':Z=ρ1:=Option.some.inj e
     subst e'
     exact ⟨rfl,k _ hE⟩
   |cons=>cases e
 | cons hi hx hf r ih =>
   refine w5 (BY (w6 hN hi hx hf) ih (by rfl)) fun vs σ H Q ⟨μ,Z,M,ds,ρ1,hE,hM,r,e,k⟩=>?_
   cases ds with
   |nil=>cases e
   | cons d ds =>
     obtain ⟨v,vr,rfl,r1,r2⟩:=r
     exact ⟨v,vr,rfl,μ,_,M,ds,ρ1,hE.set r1,hM,r2,e,k⟩
theorem nq:∀{l:List Nat}{ds:List D}{Z ρ1:Env},gX l ds Z=some ρ1->ds.length=l.length
 |[],[],_,_,_=>rfl
 |_::_,[],_,_,h=>by cases h
 |[],_::_,_,_,h=>by cases h
 | _ :: l, _ :: ds, _, _, h => by
   have:=nq (l:=l) (ds:=ds) h
   simp [this]
theorem IF (hc:X.calm=true)(hN:X.N.Nodup){l:List Nat}{ns:List Expr}{k:Nat}(h:lL X l ns):PG X (.Tuple ns k pos) (gT fa X.K (.tup l)):=
 zZ (Gy (n:=l.length) hc (CJ (fa:=fa) hN h) h.each.1 h.each.2) fun v σ H Q ⟨μ,Z,M,d,ρ1,hE,hM,r,e,k⟩=>by
  cases d with
  | tup ds =>
    obtain ⟨a,vs,rfl,hq,r⟩:=r
    exact ⟨a,vs,rfl,hq,by rw [r.length];exact nq e,μ,Z,M,ds,ρ1,hE,hM,r,e,k⟩
  |_=>cases e
end
end LD
namespace LD
open PySem PySem.Spec PyProof.Rows L2
section
variable {fa:Fa}{X:Cx}{a b d:Expr}{ga gb gd:Env->Mem->Res D}{pos p:Pos}{es:List Expr}{gs:Env->Mem->Res (List D)}{n:Nat}
theorem IC {tg:Expr}{t:dD}(ha:DE fa X a ga)(hg:PG X tg (gT fa X.K t))(hs:swapsWithSole [tg] a pos.line X.env=pure false)(hw:swappedStores [tg] a X.env=pure none)(h1:(assignEach [tg] X.env).map (·.2)=[assign tg X.env]) :
 DS fa X (.Assign [tg] a pos) (fun Z M=>(ga Z M).bind fun x M=>(dv M (c7 t x Z)).bind fun ρ1 M=>.ok (.next ρ1) M):=
 jd (u3 ha hg hs hw h1) fun D σ H ⟨μ,Z,M,hE,hM,h⟩=>t1 hE hM h fun x M1 v H1 μ1 x1 hE1 hM1 r1 h1=>by
  obtain ⟨ρ1,M2,e,q⟩:=bq h1
  cases eb:c7 t x Z with
  |none=>rw [eb] at e;cases e
  | some ρ2 =>
    rw [eb] at e
    cases e
    exact ⟨μ1,Z,M1,x,ρ1,hE1,hM1,r1,eb,fun σ1 hE2=>q σ1 H1 μ1 x1 hE2 hM1⟩
theorem sA {D':Ends}{μ:Mu}{H:Hp}{σ:L2.St}{Z:Env}{M:Mem}{k:Nat}{ad:Addr}{ws:List V}{ds:List D}(hE:bL fa X.K μ H σ Z)(hM:RelM fa X.K μ H M)(hk:μ.pub k=some ad)(r:bf fa X.K μ H ds ws)
 (q:∀σ' H' μ',Ext μ H μ' H'->bL fa X.K μ' H' σ' Z->RelM fa X.K μ' H' (M.set k ds)->D'.nx σ' H'):D'.nx σ (upd H ad (.lst ws)):=
 q σ _ μ (Ext.write (vs:=ws) hM hk) (hE.ext (Ext.write (vs:=ws) hM hk)) (hM.write hk r)
theorem Iy (ha:DE fa X a ga)(hb:DE fa X b gb)(hd:DE fa X d gd){p2:Pos}
 (h0:∀v,assign (.Subscript a b p2) X.env v=(do
  let ov <- holding [v] (eval a X.env)
  let iv <- holding [v,ov] (eval b X.env)
  standAt p2
  holding [v,ov,iv] (setItem ov iv v)
  release [v,ov,iv] [])) (hs:swapsWithSole [.Subscript a b p2] d pos.line X.env=pure false) (hw:swappedStores [.Subscript a b p2] d X.env=pure none) (h1:(assignEach [.Subscript a b p2] X.env).map (·.2)=[assign (.Subscript a b p2) X.env]) :
 DS fa X (.Assign [.Subscript a b p2] d pos) (fun Z M=>(gd Z M).bind fun z M=>(ga Z M).bind fun x M=>(gb Z M).bind fun y M=>match x,y with
  | .cell k, .int n => match M[k]? with
    | some ds => match cb ds.length n with
      |some j=>.ok (.next Z) (M.set k (ds.set j z))
      |none=>.bad
    |none=>.bad
  |_,_=>.bad):=
 jd (u3 hd (Gz ha hb set_list h0) hs hw h1) fun D' σ H ⟨μ,Z,M,hE,hM,h⟩=>t1 hE hM h fun z M1 v H1 μ1 x1 hE1 hM1 r1 h1=>t2 hE1 hM1 h1 fun x y M2 vx vy H2 μ2 x2 hE2 hM2 rx ry h2=>by
  have key:∀k n,x=.cell k->y=.int n->Dc vx vy v H2 fun H3=>D'.nx σ H3:=fun k n e1 e2=>by
   subst e1 e2
   dsimp only at h2
   cases e:M2[k]? with
   |none=>rw [e] at h2;exact h2.elim
   | some ds =>
     rw [e] at h2
     dsimp only at h2
     cases ej:LD.cb ds.length n with
     |none=>rw [ej] at h2;exact h2.elim
     | some j =>
       rw [ej] at h2
       obtain ⟨ad,rfl,hk⟩:=rx
       obtain ⟨ad',ws,h3,h4,h5⟩:=hM2.at' k ds e
       rw [hk] at h3;cases h3
       have q:∀σ' H' μ',Ext μ H μ' H'->bL fa X.K μ' H' σ' Z->RelM fa X.K μ' H' (M2.set k (ds.set j z))->D'.nx σ' H':=h2
       refine ⟨ad,ws,n,j,rfl,ry,h4,by rw [h5.length];exact ej,sA hE2 hM2 hk (h5.set j (r1.ext x2)) fun σ' H' μ' x' e' m'=>q σ' H' μ' ((x1.trans x2).trans x') e' m'⟩
  cases x with
  | cell k => cases y with
    |int n=>exact key k n rfl rfl
    |_=>exact h2.elim
  |_=>exact h2.elim
theorem ID (ha:DE fa X a ga)(hd:DE fa X d gd){apos cpos:Pos}(hbase:attributeBase a "append" X.env (eval a X.env)=eval a X.env)(hline:(apos.endLine==cpos.line)=true)(hs:starEach [d] X.env=[(false,eval d X.env)])
 (hsw:swapsWith (.Call (.Attribute a "append" apos) [d] [] cpos) none pos.line X.env=pure false) :
 DS fa X (.Expr (.Call (.Attribute a "append" apos) [d] [] cpos) pos) (fun Z M=>(ga Z M).bind fun x M=>(gd Z M).bind fun z M=>match x with
  | .cell k => match M[k]? with
    |some ds=>if ds.length<sz then .ok (.next Z) (M.set k (ds++[z])) else .bad
    |none=>.bad
  |_=>.bad):=
 jd (rB (xT PySem.F.plainAttrs_list PySem.F.slot_list_append PySem.F.type_list_append sU ha (di hd fO hs) hbase (by rw [hs];rfl) hline hs (by rfl)) hsw) fun D' σ H ⟨μ,Z,M,hE,hM,h⟩=>by
  obtain ⟨x,M1,e1,h1⟩:=bq h
  obtain ⟨z,M2,e2,h2⟩:=bq h1
  cases x with
  | cell k =>
    dsimp only at h2
    cases e:M2[k]? with
    |none=>rw [e] at h2;exact h2.elim
    | some ds =>
      rw [e] at h2
      dsimp only at h2
      split at h2
      ·next hz=>
       have q:∀σ' H' μ',Ext μ H μ' H'->bL fa X.K μ' H' σ' Z->RelM fa X.K μ' H' (M2.set k (ds++[z]))->D'.nx σ' H':=h2
       refine ⟨μ,Z,M,hE,hM,?_⟩
       rw [e1]
       intro vx H1 μ1 x1 hM1 rx
       obtain ⟨ad,rfl,hk⟩:=rx
       obtain ⟨ds1,ws1,_,hH1,_⟩:=hM1.mu_lt hk
       refine ⟨.inl ⟨rfl,ws1,dA.of hH1⟩,μ1,Z,M1,hE.ext x1,hM1,?_⟩
       rw [e2]
       intro vz H2 μ2 x2 hM2 rz
       obtain ⟨ad',ws,h3,h4,h5⟩:=hM2.at' k ds e
       rw [x2.mu k ad hk] at h3;cases h3
       refine ⟨ad,ws,vz,rfl,rfl,h4,by rw [h5.length,<- d5];exact hz,?_⟩
       exact sA ((hE.ext x1).ext x2) hM2 (x2.mu k ad hk) (h5.append (.one rz)) fun σ' H' μ' x' e' m'=>q σ' H' μ' ((x1.trans x2).trans x') e' m'
      ·exact h2.elim
  |_=>exact h2.elim
theorem Iw (ha:DE fa X a ga):DS fa X (.Return (some a) pos) (fun Z M=>(ga Z M).bind fun x M=>.ok (.ret x) M):=
 jd (Gu ha) fun D' σ H ⟨μ,Z,M,hE,hM,h⟩=>by
  obtain ⟨x,M1,e,q⟩:=bq h
  refine ⟨μ,Z,M,hE,hM,?_⟩
  rw [e];exact q
theorem Nj:DS fa X (.Pass pos) (fun Z M=>.ok (.next Z) M):=jd Ei fun D' σ H ⟨μ,Z,M,hE,hM,h⟩=>h σ H μ .refl hE hM
theorem pf.ext {μ μ':Mu}{H H':Hp}{D':Ends}(x:Ext μ H μ' H'){fl:Fl}{M:Mem}(q:pf fa X μ H D' fl M):pf fa X μ' H' D' fl M:=by
 cases fl with
 |next ρ'=>exact fun σ' H'' μ'' y e m=>q σ' H'' μ'' (x.trans y) e m
 |ret d=>exact bG.ext q x
 |exc x' ρ'=>exact XW.ext q x
theorem G1 {r:Res Fl}{μ μ':Mu}{H H':Hp}{D':Ends}(x:Ext μ H μ' H')(h:au r (pf fa X μ H D')):au r (pf fa X μ' H' D'):=a7 h fun fl M q=>q.ext x
theorem Iz {c:Expr}{gc:Env->Mem->Res Bool}{st sf:List Stmt}{gt gf:Env->Mem->Res Fl}(hc:DT fa X c gc)(ht:iC fa X st gt)(hf:iC fa X sf gf):DS fa X (.If c st sf pos) (fun Z M=>(gc Z M).bind fun k M=>if k then gt Z M else gf Z M):=
 jd (Jw hc ht hf) fun D' σ H ⟨μ,Z,M,hE,hM,h⟩=>zv hE hM h fun k M1 H1 μ1 x1 hE1 hM1 h1=>by
  cases k with
  |true=>exact ⟨μ1,Z,M1,hE1,hM1,G1 x1 h1⟩
  |false=>exact ⟨μ1,Z,M1,hE1,hM1,G1 x1 h1⟩
theorem E2:iC fa X [] (fun Z M=>.ok (.next Z) M):=wZ wY fun D' σ H ⟨μ,Z,M,hE,hM,h⟩=>h σ H μ .refl hE hM
theorem CH {st:Stmt}{ss:List Stmt}{g:Env->Mem->Res Fl}{g':Env->Mem->Res Fl}(h1:DS fa X st g)(h2:iC fa X ss g'):iC fa X (st::ss) (fun Z M=>(g Z M).bind fun fl M=>match fl with
 |.next Z=>g' Z M
 |fl=>.ok fl M):=
 wZ (pG h1 h2) fun D' σ H ⟨μ,Z,M,hE,hM,h⟩=>by
  obtain ⟨fl,M1,e,q⟩:=bq h
  refine ⟨μ,Z,M,hE,hM,?_⟩
  rw [e]
  cases fl with
  |next ρ1=>exact fun σ1 H1 μ1 x1 hE1 hM1=>⟨μ1,ρ1,M1,hE1,hM1,G1 x1 q⟩
  |ret d=>exact q
  |exc x ρ1=>exact q
end
end LD
namespace LD
open PySem PySem.Spec PyProof.Rows L2
def fy (fa:Fa)(K:PySem.W.Frag)(μ0:Mu)(H0:Hp)(w:Walk)(J:It):Prop:=
 ∀(μ:Mu) (H:Hp) (M:Mem) (ds:List D),ExtW μ0 H0 μ H->RelM fa K μ H M->w M=some ds->(∀(i:Nat) (d:D),ds[i]?=some d->J.go i H/\∀x H',J.yld i H x H'->Ext μ H μ H'/\RelM fa K μ H' M/\Rep fa K μ H' d x)/\∀i,ds.length<=i->J.stop i H
def tI (fa:Fa)(K:PySem.W.Frag)(g:Env->Mem->Res Walk):TI:=fun σ H R=>∃μ Z M,bL fa K μ H σ Z/\RelM fa K μ H M/\au (g Z M) fun w M'=>∀J H' μ',Ext μ H μ' H'->RelM fa K μ' H' M'->fy fa K μ' H' w J->R J H'
abbrev DI (fa:Fa)(X:Cx)(tg iter:Expr)(g:Env->Mem->Res Walk):Prop:=PI X tg iter (tI fa X.K g)
theorem zf {fa:Fa}{K:PySem.W.Frag}{μ0 μ1:Mu}{H0 H1:Hp}{w:Walk}{J:It}(h:fy fa K μ0 H0 w J)(x:ExtW μ0 H0 μ1 H1):fy fa K μ1 H1 w J:=fun μ H M ds y hM e=>h μ H M ds (x.trans y) hM e
section
variable {fa:Fa}{X:Cx}{tg a b d:Expr}{ga gb gd:Env->Mem->Res D}{pos p:Pos}{es:List Expr}{n:Nat}
theorem zg {μ0:Mu}{H0:Hp}{dd:D}{ad:Addr}(h:Rep fa X.K μ0 H0 dd (.ref ad)):fy fa X.K μ0 H0 (fun M=>gW M dd) (IZ X.K ad):=fun μ H M ds x hM e=>by
 obtain ⟨ad',vs,ea,s,r⟩:=cw hM (Rep.extW x h) e
 cases ea
 refine ⟨fun i d hd=>?_,fun i hi=>⟨vs,s,by rw [r.length];exact hi⟩⟩
 obtain ⟨v,hv,rv⟩:=r.get hd
 refine ⟨⟨vs,v,s,hv⟩,fun y H' ⟨e,hy⟩=>?_⟩
 subst e
 have:=hy vs s
 rw [hv] at this;cases this
 exact ⟨.refl,hM,rv⟩
theorem Bl {μ0:Mu}{H0:Hp}{ds:List D}{ad:Addr}(h:Rep fa X.K μ0 H0 (.tup ds) (.ref ad)):fy fa X.K μ0 H0 (fun _=>some ds) (IX X.K ad):=fun μ H M ds' x hM e'=>by
 cases e'
 obtain ⟨ad',vs,e,s,r⟩:=Rep.extW x h
 cases e
 refine ⟨fun i d hd=>?_,fun i hi=>⟨vs,s,by rw [r.length];exact hi⟩⟩
 obtain ⟨v,hv,rv⟩:=r.get hd
 refine ⟨⟨vs,v,s,hv⟩,fun y H' ⟨e,hy⟩=>?_⟩
 subst e
 have:=hy vs s
 rw [hv] at this;cases this
 exact ⟨.refl,hM,rv⟩
theorem Bn {μ0:Mu}{H0:Hp}(lo:Int)(n:Nat):fy fa X.K μ0 H0 (fun _=>some ((List.range n).map fun (k:Nat)=>D.int (lo+(k:Int)))) (DD lo n):=fun μ H M ds x hM e=>by
 cases e
 refine ⟨fun i d hd=>?_,fun i hi=>(show n<=i by simpa using hi)⟩
 rw [List.getElem?_map] at hd
 by_cases hi:i<n
 ·rw [List.getElem?_range hi] at hd
  have e:D.int (lo+(i:Int))=d:=Option.some.inj hd
  subst e
  refine ⟨hi,fun y H' ⟨e1,e2⟩=>?_⟩
  subst e1 e2
  exact ⟨.refl,hM,rfl⟩
 ·rw [List.getElem?_eq_none (by simpa using hi)] at hd;cases hd
def eI (ga:Env->Mem->Res D):Env->Mem->Res Walk:=fun Z M=>(ga Z M).bind fun x M=>match x with
 |.lst ds=>.ok (fun _=>some ds) M
 |.tup ds=>.ok (fun _=>some ds) M
 |.frz ds=>.ok (fun _=>some ds) M
 |.cell k=>.ok (fun M=>M[k]?) M
 |_=>.bad
theorem IE (ha:DE fa X a ga):DI fa X tg a (eI ga):=fun pins s σ H R I ⟨μ,Z,M,hE,hM,h⟩=>by
 obtain ⟨x,M1,e,q⟩:=bq h
 have lst:(∀μ' H',RelM fa X.K μ' H' M1->∀v,Rep fa X.K μ' H' x v->∃ds,gW M1 x=some ds)->(∀J H' μ',Ext μ H μ' H'->RelM fa X.K μ' H' M1->fy fa X.K μ' H' (fun M=>gW M x) J->R J H')->
  wpAny (model X.prog X.w) X.A (eval a X.env) (fun v s1=>wpAny (model X.prog X.w) X.A (pyIter v) (Dz X pins σ tg R) X.xe s1) X.xe s:=fun hx q=>by
  refine Em ha pins s σ H R I ⟨μ,Z,M,hE,hM,?_⟩
  rw [e]
  intro v H1 μ1 x1 m1 r1
  obtain ⟨ds,er⟩:=hx μ1 H1 m1 v r1
  obtain ⟨ad,vs,rfl,s1,r⟩:=cw m1 r1 er
  exact ⟨ad,rfl,⟨vs,s1⟩,q _ H1 μ1 x1 m1 (zg r1)⟩
 cases x with
 |lst ds=>exact lst (fun _ _ _ _ _=>⟨ds,rfl⟩) q
 |frz ds=>exact lst (fun _ _ _ _ _=>⟨ds,rfl⟩) q
 | tup ds =>
   refine Gw ha pins s σ H R I ⟨μ,Z,M,hE,hM,?_⟩
   rw [e]
   intro v H1 μ1 x1 m1 r1
   obtain ⟨ad,vs,rfl,s1,r⟩:=id r1
   exact ⟨ad,rfl,⟨vs,s1⟩,q _ H1 μ1 x1 m1 (Bl r1)⟩
 |cell k=>exact lst (fun μ' H' m' v ⟨ad,_,hk⟩=>let ⟨ds,_,e,_⟩:=m'.mu_lt hk;⟨ds,e⟩) q
 |_=>exact q.elim
def fJ (ga:Env->Mem->Res D):Env->Mem->Res Walk:=fun Z M=>(ga Z M).bind fun x M=>match x with
 |.int n=>if -(2^62)<=n/\n<2^62 then .ok (fun _=>some ((List.range n.toNat).map fun (k:Nat)=>D.int (k:Int))) M else .bad
 |_=>.bad
theorem E7 (ha:DE fa X a ga)(hg:Gl X "range")(hm:X.mg "range"=none)(hs:starEach [a] X.env=[(false,eval a X.env)]):DI fa X tg (.Call (.Name "range" p) [a] [] pos) (fJ ga):=fun pins s σ H R I ⟨μ,Z,M,hE,hM,h⟩=>by
 refine zY hg hm (di ha fO hs) hs pins s σ H R I ?_
 refine t1 hE hM h fun x M1 v H1 μ1 x1 hE1 hM1 r1 h1=>?_
 cases x with
 | int n =>
   dsimp only at h1
   split at h1
   ·next c=>
    obtain rfl:v=.int n:=r1
    refine ⟨n,rfl,c.1,c.2,h1 _ H1 μ1 x1 hM1 ?_⟩
    have:=Bn (fa:=fa) (X:=X) (μ0:=μ1) (H0:=H1) 0 n.toNat
    simpa using this
   ·exact h1.elim
 |_=>exact h1.elim
def j6 (t:dD)(gb:Env->Mem->Res Fl):Fl->D->Mem->Res Fl:=fun fl d M=>match fl with
 |.next Z=>(dv M (c7 t d Z)).bind fun ρ1 M=>gb ρ1 M
 |fl=>.ok fl M
def Fl.out:Fl->Bool
 |.next _=>false
 |_=>true
theorem mU {t:dD}{gb:Env->Mem->Res Fl}{fl:Fl}{w:Walk}{P:Fl->Mem->Prop}(ho:fl.out=true):∀(n i:Nat) (M:Mem),au (gj (j6 t gb) w n i fl M) P->P fl M
 |0,_,_,h=>h.elim
 | n + 1, i, M, h => by
   unfold gj at h
   cases e:w M with
   |none=>rw [e] at h;exact h.elim
   | some ds =>
     rw [e] at h
     dsimp only at h
     cases e2:ds[i]? with
     |none=>rw [e2] at h;exact h
     | some d' =>
       rw [e2] at h
       cases fl with
       |next Z=>cases ho
       |ret d=>exact mU ho n (i+1) M h
       |exc x Z=>exact mU ho n (i+1) M h
theorem IB {t:dD}{body:List Stmt}{gw:Env->Mem->Res Walk}{gb:Env->Mem->Res Fl}(hp:PassesOwn (model X.prog X.w) X.A X.env X.xe)(hc:X.calm=true)(hi:DI fa X tg a gw)(hg:PG X tg (gT fa X.K t))(hb:iC fa X body gb)
 (hs:∀x,foldedSetIterable a X.env x=pure x):DS fa X (.For tg a body [] pos) (fun Z M=>(gw Z M).bind fun w M=>eF (j6 t gb) w (.next Z) M):=
 jd (Gv hp hc hi hg hb hs) fun D' σ H ⟨μ,Z,M,hE,hM,h⟩=>by
  obtain ⟨w,M1,e,q⟩:=bq h
  refine ⟨μ,Z,M,hE,hM,?_⟩
  rw [e]
  intro J H1 μ1 x1 hM1 wk
  have hE1:=hE.ext x1
  refine ⟨fun i m σ' H'=>∃μ' ρ' M',Ext μ1 H1 μ' H'/\bL fa X.K μ' H' σ' ρ'/\RelM fa X.K μ' H' M'/\au (gj (j6 t gb) w m i (.next ρ') M') (pf fa X μ H D'),
   ⟨_,μ1,Z,M1,.refl,hE1,hM1,q⟩,?_⟩
  rintro i m σ2 H2 ⟨μ2,ρ2,M2,x2,hE2,hM2,q2⟩
  cases m with
  |zero=>exact q2.elim
  | succ m =>
    unfold gj at q2
    cases e2:w M2 with
    |none=>rw [e2] at q2;exact q2.elim
    | some ds =>
      rw [e2] at q2
      dsimp only at q2
      obtain ⟨go,stop⟩:=wk μ2 H2 M2 ds x2.toExtW hM2 e2
      cases ed:ds[i]? with
      | none =>
        rw [ed] at q2
        exact .inl ⟨stop i (List.getElem?_eq_none_iff.mp ed),q2 σ2 H2 μ2 (x1.trans x2) hE2 hM2⟩
      | some d =>
        rw [ed] at q2
        obtain ⟨g1,g2⟩:=go i d ed
        refine .inr ⟨g1,fun σ' H'=>∃μ' ρ' M',Ext μ1 H1 μ' H'/\bL fa X.K μ' H' σ' ρ'/\RelM fa X.K μ' H' M'/\au (gj (j6 t gb) w m (i+1) (.next ρ') M') (pf fa X μ H D'),fun σ' H' z=>⟨m,by omega,z⟩,fun y H3 hy=>?_⟩
        obtain ⟨x3,hM3,r3⟩:=g2 y H3 hy
        have q2:au (((dv M2 (c7 t d ρ2)).bind fun ρ1 M=>gb ρ1 M).bind (gj (j6 t gb) w m (i+1))) (pf fa X μ H D'):=q2
        obtain ⟨fl,M4,e4,q4⟩:=bq q2
        obtain ⟨ρ4,M5,e5,e6⟩:=gq e4
        cases eb:c7 t d ρ2 with
        |none=>rw [eb] at e5;cases e5
        | some ρ5 =>
          rw [eb] at e5
          cases e5
          refine ⟨μ2,ρ2,_,d,ρ4,hE2.ext x3,hM3,r3,eb,fun σ5 hE5=>⟨μ2,ρ4,_,hE5,hM3,?_⟩⟩
          rw [e6]
          cases fl with
          |next ρ6=>exact fun σ6 H6 μ6 x6 hE6 hM6=>⟨μ6,ρ6,M4,(x2.trans x3).trans x6,hE6,hM6,q4⟩
          |ret d6=>exact (mU rfl m (i+1) M4 q4).ext ((x1.trans x2).trans x3)
          |exc x6 ρ6=>exact (mU rfl m (i+1) M4 q4).ext ((x1.trans x2).trans x3)
end
end LD
namespace LD
open PySem PySem.Spec PyProof.Rows L2
abbrev FF:Value->Shared->Prop:=fun _ _=>False
section
variable {prog:Program}{w:World}{A:Around}{s:Shared}
theorem AY {elt:Expr}{gens:List Comprehension}{scope:Scope}{pos p:Pos}{k:Nat}{it acc:Value}{env:PySem.Env}{R:Result->Shared->Prop}{target:Expr}{body:Sem Unit}
 (heq:compTurn (.ListComp elt gens scope pos) k it acc env=(standAt p >>= fun _=>pyNext it >>= fun r=>match r with
  |none=>pure (.done .next)
  |some v=>letOwnedTupleGo target it v >>= fun _=>assign target env v >>= fun _=>body >>= fun _=>again (.compLoop (.ListComp elt gens scope pos) k it acc env)))
 (I:Nat->Shared->Prop)
 (turn:∀n s,I n s->wpAny (model prog w) A (pyNext it) (fun r s₁=>match r with
  |none=>R (.ok .next) s₁
  |some v=>wpAny (model prog w) A (letOwnedTupleGo target it v) (fun _ s₂=>wpAny (model prog w) A (assign target env v) (fun _ s₃=>wpAny (model prog w) A body (fun _ s₄=>∃m,m<n/\I m s₄) FF s₃) FF s₂) FF s₁) FF s)
 (n:Nat) (h:I n s):codeAny (model prog w) A (.compLoop (.ListComp elt gens scope pos) k it acc env) R s:=by
 refine codeAny_loop rfl I (fun n s hI=>?_) n h
 show wpAny _ _ ((compTurn (.ListComp elt gens scope pos) k it acc env).onRaise (fun x=>do noteFrame x env;theTreesLotGoes x)) _ _ s
 refine wpAny_noted ?_
 rw [heq]
 refine wpAny_noRaise ?_
 refine tqa (wpAny_standAt (tqa (bz (turn n s hI) fun r s₁ h₁=>?_)))
 cases r with
 |none=>exact tqb h₁
 | some v =>
   refine tqa (bz h₁ fun _ s₂ h₂=>?_)
   exact tqa (bz h₂ fun _ s₃ h₃=>tqa (bz h₃ fun _ s₄ h₄=>tqb ⟨rfl,h₄⟩))
theorem uy (elt target iter:Expr)(gs:List Comprehension)(scope:Scope)(pos:Pos)(it acc:Value)(env:PySem.Env) :
 compTurn (.ListComp elt [⟨target,iter,[],0⟩] scope pos) 0 it acc env=(standAt iter.pos >>= fun _=>pyNext it >>= fun r=>match r with
  |none=>pure (.done .next)
  |some v=>letOwnedTupleGo target it v >>= fun _=>assign target env v >>= fun _=>(eval elt env >>= fun x=>call (.builtin "list.append") [acc,x] >>= fun _=>pure ()) >>= fun _=>again (.compLoop (.ListComp elt [⟨target,iter,[],0⟩] scope pos) 0 it acc env)):=by rfl
theorem turn_if (elt target iter c:Expr)(scope:Scope)(pos:Pos)(it acc:Value)(env:PySem.Env) :
 compTurn (.ListComp elt [⟨target,iter,[c],0⟩] scope pos) 0 it acc env=(standAt iter.pos >>= fun _=>pyNext it >>= fun r=>match r with
  |none=>pure (.done .next)
  |some v=>letOwnedTupleGo target it v >>= fun _=>assign target env v >>= fun _=>(isTrue c env (eval c env) >>= fun ok=>if ok=true then (eval elt env >>= fun x=>call (.builtin "list.append") [acc,x] >>= fun _=>pure ()) else pure ()) >>= fun _=>again (.compLoop (.ListComp elt [⟨target,iter,[c],0⟩] scope pos) 0 it acc env)):=by
 rw [compTurn_list]
 refine congrArg _ (funext fun _=>congrArg _ (funext fun r=>?_))
 cases r with
 |none=>rfl
 | some v =>
   simp only [List.forIn_cons,List.forIn_nil,if_true,bind_assoc,pure_bind]
   refine congrArg _ (funext fun _=>congrArg _ (funext fun _=>congrArg _ (funext fun ok=>?_)))
   cases ok<;>simp
theorem Br (elt target iter t2 i2:Expr)(scope:Scope)(pos:Pos)(it acc:Value)(env:PySem.Env) :
 compTurn (.ListComp elt [⟨target,iter,[],0⟩,⟨t2,i2,[],0⟩] scope pos) 0 it acc env=(standAt iter.pos >>= fun _=>pyNext it >>= fun r=>match r with
  |none=>pure (.done .next)
  |some v=>letOwnedTupleGo target it v >>= fun _=>assign target env v >>= fun _=>(eval i2 env >>= fun x=>standAt i2.pos >>= fun _=>foldedSetIterable i2 env x >>= fun x=>holding [x] (pyIter x) >>= fun j=>runOwn (.compStart (.ListComp elt [⟨target,iter,[],0⟩,⟨t2,i2,[],0⟩] scope pos) 1 j acc env) env >>= fun _=>pure ()) >>= fun _=>again (.compLoop (.ListComp elt [⟨target,iter,[],0⟩,⟨t2,i2,[],0⟩] scope pos) 0 it acc env)):=by
 unfold compTurn
 simp only [List.getElem?_cons_zero,bne_self_eq_false,Bool.false_eq_true,if_false]
 refine bind_congr fun _=>bind_congr fun r=>?_
 cases r with
 |none=>rfl
 |some v=>simp
theorem Bs (elt target iter t2 i2:Expr)(scope:Scope)(pos:Pos)(it acc:Value)(env:PySem.Env) :
 compTurn (.ListComp elt [⟨target,iter,[],0⟩,⟨t2,i2,[],0⟩] scope pos) 1 it acc env=(standAt i2.pos >>= fun _=>pyNext it >>= fun r=>match r with
  |none=>pure (.done .next)
  |some v=>letOwnedTupleGo t2 it v >>= fun _=>assign t2 env v >>= fun _=>(eval elt env >>= fun x=>call (.builtin "list.append") [acc,x] >>= fun _=>pure ()) >>= fun _=>again (.compLoop (.ListComp elt [⟨target,iter,[],0⟩,⟨t2,i2,[],0⟩] scope pos) 1 it acc env)):=by
 rfl
theorem mY (env:PySem.Env):∀(ns:List (Str×NameKind)) (cs:List (Str×Addr)),(∀y∈ns,y.2=.free->∃c,env.cells.lookup y.1=some c)->(∀x c,cs.lookup x=some c->env.cells.lookup x=some c)->
 ∃cl,(forIn ns cs fun (y:Str×NameKind) (r:List (Str×Addr))=>if (y.2==NameKind.free)=true then cellOf env y.1 >>= fun a=>pure (ForInStep.yield ((y.1,a)::r)) else pure (ForInStep.yield r):Sem _)=pure cl/\
  (∀x c,cl.lookup x=some c->env.cells.lookup x=some c)/\(∀x c,cs.lookup x=some c->∃c',cl.lookup x=some c')/\∀y∈ns,y.2=.free->∃c,cl.lookup y.1=some c
 |[],cs,_,h2=>⟨cs,by simp,h2,fun x c e=>⟨c,e⟩,fun y hy=>nomatch hy⟩
 | (n, k) :: ns, cs, h1, h2 => by
   by_cases hk:k=.free
   ·subst hk
    obtain ⟨a,ha⟩:=h1 (n,.free) List.mem_cons_self rfl
    have lk:∀x c,((n,a)::cs).lookup x=some c->env.cells.lookup x=some c:=fun x c e=>by
     rw [List.lookup_cons] at e
     split at e
     ·next q=>cases e;rw [eq_of_beq q];exact ha
     ·exact h2 x c e
    obtain ⟨cl,e,p1,p2,p3⟩:=mY env ns ((n,a)::cs) (fun y hy=>h1 y (List.mem_cons_of_mem _ hy)) lk
    refine ⟨cl,?_,p1,fun x c q=>?_,fun y hy hf=>?_⟩
    ·rw [List.forIn_cons]
     have ec:cellOf env n=pure a:=by unfold cellOf;rw [ha]
     simp only [beq_self_eq_true,if_true,ec]
     exact e
    ·by_cases hx:x=n
     ·exact p2 x a (by rw [List.lookup_cons,hx];simp)
     ·exact p2 x c (by rw [List.lookup_cons,beq_eq_false_iff_ne.mpr hx];exact q)
    ·rcases List.mem_cons.mp hy with z|z
     ·subst z;exact p2 n a (by simp [List.lookup_cons])
     ·exact p3 y z hf
   ·obtain ⟨cl,e,p1,p2,p3⟩:=mY env ns cs (fun y hy=>h1 y (List.mem_cons_of_mem _ hy)) h2
    refine ⟨cl,?_,p1,p2,fun y hy hf=>?_⟩
    ·rw [List.forIn_cons]
     have eb:(k==NameKind.free)=false:=by simpa using hk
     simp only [eb,Bool.false_eq_true,if_false]
     exact e
    ·rcases List.mem_cons.mp hy with z|z
     ·subst z;exact absurd hf hk
     ·exact p3 y z hf
theorem yS {scope:Scope}{env:PySem.Env}(h:∀y∈scope.names,y.2=.free->∃c,env.cells.lookup y.1=some c) :
 ∃cl,closureFor scope env=pure cl/\(∀x c,cl.lookup x=some c->env.cells.lookup x=some c)/\∀y∈scope.names,y.2=.free->∃c,cl.lookup y.1=some c:=by
 obtain ⟨cl,e,p1,_,p3⟩:=mY env scope.names [] h (fun x c q=>nomatch q)
 exact ⟨cl,by unfold closureFor;simp only [bind_pure];exact e,p1,p3⟩
end
end LD
namespace LD
open PySem PySem.Spec PyProof.Rows L2
def cC (X:Cx)(own bn:List Str)(scope:Scope)(cl:List (Str×Addr))(C:Addr)(fp:List Addr)(s:Shared)(H:Hp):Cx:=
 {X with N:=own++bn,s₀:=s,H₀:=H,env:=compEnvC scope cl C X.env,outer:=X.stack,ex:=fp,fn:=fun _=>false,pn:=[],xe:=FF}
theorem jb {env:PySem.Env}:∀{names:List (Str×NameKind)}{x:Str}{k:NameKind},
 (names.map fun (n,k)=>if (k==NameKind.free&&env.scope.kind==.function&&env.kindOf n==some .cell) then (n,NameKind.cell) else (n,k)).lookup x=some k->
 ∃k0,(x,k0)∈names/\names.lookup x=some k0/\(k=k0\/(k0=.free/\k=.cell))
 |[],_,_,h=>by cases h
 | (n, k0) :: r, x, k, h => by
   have ih:=@jb env r x k
   have h:List.lookup x ((if (k0==NameKind.free&&env.scope.kind==.function&&env.kindOf n==some .cell)=true then (n,NameKind.cell) else (n,k0))::_)=some k:=h
   cases hx:x==n with
   | true =>
     have e:=eq_of_beq hx
     subst e
     refine ⟨k0,List.mem_cons_self,by simp [List.lookup_cons],?_⟩
     split at h
     ·next c=>
      simp [List.lookup_cons] at h
      simp at c
      exact .inr ⟨c.1.1,h.symm⟩
     ·simp [List.lookup_cons] at h
      exact .inl h.symm
   | false =>
     have h':List.lookup x (r.map fun (n,k)=>if (k==NameKind.free&&env.scope.kind==.function&&env.kindOf n==some .cell) then (n,NameKind.cell) else (n,k))=some k:=by
      split at h<;>simpa [List.lookup_cons,hx] using h
     obtain ⟨k1,h1,h2,h3⟩:=ih h'
     exact ⟨k1,List.mem_cons_of_mem _ h1,by simp [List.lookup_cons,hx];exact h2,h3⟩
theorem qu {α β:Type}{R:α->β->Prop}:∀{l:List α}{r:List β}{i:Nat}{x:α},Paired R l r->l[i]?=some x->∃y,r[i]?=some y/\R x y
 |_,_,_,_,.nil,e=>by simp at e
 |_,_,0,_,.cons p _,e=>by simp at e;subst e;exact ⟨_,rfl,p⟩
 | _, _, i + 1, x, .cons _ t, e => by
   obtain ⟨y,h1,h2⟩:=qu (i:=i) (x:=x) t (by simpa using e)
   exact ⟨y,by simpa using h1,h2⟩
structure fX (X:Cx) (own bn:List Str) (scope:Scope):Prop where
 kind:scope.kind=.function
 nocell:∀y∈scope.names,y.2≠.cell
 loc:∀y∈scope.names,y.2=.local->scope.names.lookup y.1=some .local
 free:∀y∈scope.names,y.2=.free->X.env.kindOf y.1=some .cell\/X.env.kindOf y.1=some .free
 dis:Paired (fun b x=>(b=x/\scope.names.lookup x≠some .local)\/scope.names.lookup b=none) bn X.N
section
variable {X:Cx}{pins:List (Addr×Obj)}{σ:L2.St}{H:Hp}{s:Shared}{fp:List Addr}{scope:Scope}{cl:List (Str×Addr)}{own bn:List Str}
structure Cl (X:Cx) (scope:Scope) (cl:List (Str×Addr)):Prop where
 sub:∀x c,cl.lookup x=some c->X.env.cells.lookup x=some c
 has:∀y∈scope.names,y.2=.free->∃c,cl.lookup y.1=some c
theorem Fh (I:Inv X pins σ H s)(S:fX X own bn scope)(hcl:Cl X scope cl)(hfp:∀b∈fp,iy X pins H b)(hfo:∀b∈fp,∃o,s.heap.get? b=some o) :
 (cC X own bn scope cl s.heap.objs.size fp s H).Ok where
 mod:=I.ok.mod
 kind:=S.kind
 glob:=I.ok.glob
 blt:=I.ok.blt
 above:=tqg _
 inj:=fun x y c h1 h2=>I.ok.inj x y c (hcl.sub x c h1) (hcl.sub y c h2)
 has:=fun x h=>by
  have key:∀k,(relabel scope X.env).names.lookup x=some k->(k=.cell\/k=.free)->∃c,cl.lookup x=some c:=fun k hk hh=>by
   obtain ⟨k0,h1,h2,h3⟩:=jb hk
   have hf:k0=.free:=by
    rcases h3 with e|⟨e,_⟩
    ·rcases hh with z|z
     ·exact absurd (e.symm.trans z) (S.nocell _ h1)
     ·exact e.symm.trans z
    ·exact e
   exact hcl.has _ h1 hf
  rcases h with h|h
  ·exact key _ h (.inl rfl)
  ·exact key _ h (.inr rfl)
 cab:=fun x c h=>nomatch h
 hd:=I.ok.hd
 frames:=I.ok.frames
 stk:=.inl rfl
 exf:=fun b hb=>⟨fun e=>by
  obtain ⟨o,ho⟩:=hfo b hb
  exact absurd (tqd ho) (by rw [e];exact tqn _),fun x c e=>(hfp b hb).2.2.2.2.1 x c (hcl.sub x c e)⟩
 bs:=fun b o e=>I.bs b o e
 bsz:=tqh I.ok.bsz I.sz
 noex:=fun b o e hb=>by
  rcases (hfp b hb).2.2.2.1 with z|z
  ·exact I.ok.noex b o e z
  ·exact absurd (tqi (tqd e) (tqh I.ok.bsz z)) (tqn _)
 exfs:=fun b hb hx=>by
  rcases List.mem_cons.mp (I.stkSub b hx) with e|e
  ·exact (hfp b hb).2.1 e
  ·exact (hfp b hb).2.2.1 e
 funs:=I.stack
 frf:=fun b hb=>I.stkFree b hb
theorem CN (I:Inv X pins σ H s)(S:fX X own bn scope)(hcl:Cl X scope cl)(hfp:∀b∈fp,iy X pins H b)(hfo:∀b∈fp,∃o,s.heap.get? b=some o){h':Heap}{t':Nat}{m:Str->Option Value}
 (hn:h'.Ns s.heap.objs.size m) (hk:∀b o,s.heap.get? b=some o->h'.get? b=some o) :
 Inv (cC X own bn scope cl s.heap.objs.size fp s H) [] (List.replicate own.length none++σ) H {s with heap:=h',toks:=t'} where
 ok:=Fh I S hcl hfp hfo
 os:=rfl
 bare:=I.bare
 base:=Un.kept hk
 loc:=by
  refine ⟨m,hn,fun i x v e1 e2 hv=>?_⟩
  have e1:(own++bn)[i]?=some x:=e1
  have hi:own.length<=i:=by
   by_cases q:i<own.length
   ·rw [List.getElem?_append_left (by simpa using q),List.getElem?_replicate] at e2
    simp [q] at e2
   ·omega
  rw [List.getElem?_append_right hi] at e1
  rw [List.getElem?_append_right (by simpa using hi)] at e2
  simp only [List.length_replicate] at e2
  have hx:X.N[i-own.length]?=some x/\scope.names.lookup x≠some .local:=by
   rcases qu S.dis e1 with ⟨y,h1,⟨h2,h3⟩|h2⟩
   ·subst h2;exact ⟨h1,h3⟩
   ·exfalso
    have no:∀k,(relabel scope X.env).names.lookup x≠some k:=fun k hk=>by
     obtain ⟨k0,_,h3,_⟩:=jb hk
     rw [h2] at h3;cases h3
    rcases hv with z|z|z
    ·exact no _ z
    ·exact no _ z
    ·exact no _ z
  have key:∀k,(relabel scope X.env).names.lookup x=some k->(k=.local\/k=.cell\/k=.free)->∃c,(k=.cell\/k=.free)/\cl.lookup x=some c/\(X.env.kindOf x=some .cell\/X.env.kindOf x=some .free):=fun k hk2 hh=>by
   obtain ⟨k0,h1,h2,h3⟩:=jb hk2
   have nl:k0≠.local:=fun e=>hx.2 (by rw [h2,e])
   have hf:k0=.free:=by
    rcases h3 with e|⟨e,_⟩
    ·rcases hh with z|z|z
     ·exact absurd (e.symm.trans z) nl
     ·exact absurd (e.symm.trans z) (S.nocell _ h1)
     ·exact e.symm.trans z
    ·exact e
   obtain ⟨c,hc⟩:=hcl.has _ h1 hf
   refine ⟨c,?_,hc,S.free _ h1 hf⟩
   rcases hh with z|z|z
   ·rcases h3 with e|⟨_,e⟩
    ·rw [hf] at e;rw [e] at z;cases z
    ·rw [e] at z;cases z
   ·exact .inl z
   ·exact .inr z
  have fin:∀k,(relabel scope X.env).names.lookup x=some k->(k=.local\/k=.cell\/k=.free)->∃u,RelV v u/\Look (compEnvC scope cl s.heap.objs.size X.env) h' m x u:=fun k hk2 hh=>by
   obtain ⟨c,h1,h2,h3⟩:=key k hk2 hh
   obtain ⟨m0,_,hl⟩:=I.loc
   obtain ⟨u,r,l⟩:=hl _ x v hx.1 e2 (.inr h3)
   refine ⟨u,r,.inr ⟨?_,c,h2,?_⟩⟩
   ·rcases h1 with z|z
    ·subst z;exact .inl hk2
    ·subst z;exact .inr hk2
   ·rcases l with ⟨z,_⟩|⟨_,c',hc',hcell⟩
    ·rcases h3 with q|q
     ·rw [z] at q;cases q
     ·rw [z] at q;cases q
    ·rw [hcl.sub x c h2] at hc';cases hc'
     obtain ⟨o,ho,hd⟩:=hcell
     exact ⟨o,hk _ _ ho,hd⟩
  rcases hv with z|z|z
  ·exact fin _ z (.inl rfl)
  ·exact fin _ z (.inr (.inl rfl))
  ·exact fin _ z (.inr (.inr rfl))
 cell:=fun x c e=>by
  obtain ⟨v,o,ho,hd⟩:=I.cell x c (hcl.sub x c e)
  exact ⟨v,o,hk _ _ ho,hd⟩
 free:=I.hok.fresh (tqg _)
 freeC:=fun x c e=>I.freeC x c (hcl.sub x c e)
 pin:=fun p hp=>nomatch hp
 hok:=I.hok.kept hk
 len:=by
  show (List.replicate own.length none++σ).length=(own++bn).length
  have:=Paired.length S.dis
  simp [I.len,this]
theorem comp_back (I:Inv X pins σ H s)(hfp:∀b∈fp,iy X pins H b){pins':List (Addr×Obj)}{σ':L2.St}{H':Hp}{s':Shared}{C:Addr}(I':Inv (cC X own bn scope cl C fp s H) pins' σ' H' s'):Inv X pins σ H' s':=
 I.call' (ch:=fp) I'.os I'.base I'.hok I'.bare fun b hb=>⟨(hfp b hb).2.2.2.1,(hfp b hb).2.1,(hfp b hb).2.2.2.2.1,(hfp b hb).2.2.2.2.2⟩
theorem AZ (I:Inv X pins σ H s){σ':L2.St}{H':Hp}{s':Shared}(hf:H' s.heap.objs.size=none)(I':Inv X pins σ' H' s'){h'':Heap}(hs:Heap.SameBut s.heap.objs.size s'.heap h''):Inv X pins σ' H' {s' with heap:=h''}:=
 I'.turned (t':=s'.toks) (fun b o hb e=>(hs.2 b hb).trans e) hf (Nat.ne_of_gt I.lt) (.inr I.sz) (fun x c e z=>by
  obtain ⟨v,q⟩:=I.cell x c e
  exact absurd q.lt (by rw [z];exact tqn _)) fun p hp z=>absurd (tqd (I.pin p hp).1) (by rw [z];exact tqn _)
end
end LD
namespace LD
open PySem PySem.Spec PyProof.Rows L2
structure hZ (a:Addr) (μ:Mu) (H:Hp) (μ':Mu) (H':Hp):Prop extends ExtW μ H μ' H' where
 pr:μ'.priv=μ.priv
 pk:∀b∈μ.priv,b≠a->H' b=H b
theorem hZ.refl {a:Addr}{μ:Mu}{H:Hp}:hZ a μ H μ H:=⟨.refl,rfl,fun _ _ _=>rfl⟩
theorem hZ.trans {a:Addr}{μ μ1 μ2:Mu}{H H1 H2:Hp}(x:hZ a μ H μ1 H1)(y:hZ a μ1 H1 μ2 H2):hZ a μ H μ2 H2:=
 ⟨x.toExtW.trans y.toExtW,y.pr.trans x.pr,fun b hb n=>(y.pk b (by rw [x.pr];exact hb) n).trans (x.pk b hb n)⟩
theorem Ext.toD {a:Addr}{μ μ':Mu}{H H':Hp}(x:Ext μ H μ' H'):hZ a μ H μ' H':=⟨x.toExtW,x.pr,fun b hb _=>x.pk b hb⟩
def slots:dD->List Nat
 |.one i=>[i]
 |.tup l=>l
def Clear (W:List Nat)(Z:Env):Prop:=∀i∈W,∀d,Z[i]?≠some (some d)
section
variable {fa:Fa}{K:PySem.W.Frag}{μ μ':Mu}{H H':Hp}{σ:L2.St}{Z ρ1:Env}{M:Mem}{a:Addr}
theorem bL.weak (h:bL fa K μ H σ ρ1)(hl:ρ1.length=Z.length)(w:∀(i:Nat) d,Z[i]?=some (some d)->ρ1[i]?=some (some d)):bL fa K μ H σ Z:=
 ⟨h.len.trans hl,fun i d e=>h.at' i d (w i d e)⟩
theorem qh:∀{l:List Nat}{ds:List D}{Z ρ1:Env},gX l ds Z=some ρ1->ρ1.length=Z.length/\∀i,i∉l->ρ1[i]?=Z[i]?
 |[],[],Z,ρ1,h=>by cases h;exact ⟨rfl,fun _ _=>rfl⟩
 |_::_,[],_,_,h=>by cases h
 |[],_::_,_,_,h=>by cases h
 | j :: l, d :: ds, Z, ρ1, h => by
   obtain ⟨h1,h2⟩:=qh (l:=l) (ds:=ds) h
   refine ⟨by simpa using h1,fun i hi=>?_⟩
   rw [h2 i (fun z=>hi (List.mem_cons_of_mem _ z)),List.getElem?_set_ne (fun z=>hi (by rw [z];exact List.mem_cons_self))]
theorem tq {t:dD}{d:D}(h:c7 t d Z=some ρ1):ρ1.length=Z.length/\∀i,i∉slots t->ρ1[i]?=Z[i]?:=by
 cases t with
 | one j =>
   have h:some (Z.set j (some d))=some ρ1:=h
   cases h
   exact ⟨by simp,fun i hi=>List.getElem?_set_ne (fun z=>hi (by rw [z];exact List.mem_cons_self))⟩
 | tup l =>
   cases d with
   |tup ds=>exact qh h
   |_=>cases h
theorem bL.unbind {t:dD}{d:D}(h:c7 t d Z=some ρ1)(c:Clear (slots t) Z)(r:bL fa K μ H σ ρ1):bL fa K μ H σ Z:=by
 obtain ⟨h1,h2⟩:=tq h
 refine r.weak h1 fun i d e=>?_
 by_cases hi:i∈slots t
 ·exact absurd e (c i hi d)
 ·rw [h2 i hi];exact e
theorem RelM.writeP (h:RelM fa K μ H M){ws vs:List V}(e:a∈μ.priv)(hH:H a=some (.lst vs)):RelM fa K μ (upd H a (.lst ws)) M:=by
 have x:ExtW μ H μ (upd H a (.lst ws)):=ExtW.write hH (.inr e)
 refine ⟨fun k ds q=>?_,h.out,h.inj,fun b hb=>⟨?_,(h.pv b hb).2⟩⟩
 ·obtain ⟨b,us,h1,h2,h3⟩:=h.at' k ds q
  have nb:b≠a:=fun z=>(h.pv a e).2 k (by rw [h1,z])
  exact ⟨b,us,h1,by rw [aX nb];exact h2,h3.extW x⟩
 ·by_cases hb':b=a
  ·subst hb';exact ⟨ws,cE⟩
  ·obtain ⟨us,q⟩:=(h.pv b hb).1
   exact ⟨us,by rw [aX hb'];exact q⟩
theorem hZ.writeP {ws vs:List V}(e:a∈μ.priv)(hH:H a=some (.lst vs)):hZ a μ H μ (upd H a (.lst ws)):=
 ⟨ExtW.write hH (.inr e),rfl,fun b _ n=>by rw [aX n]⟩
end
def WB (fa:Fa)(K:PySem.W.Frag)(a:Addr)(μ:Mu)(H:Hp)(Z:Env)(Q:L2.St->Hp->Prop)(acc:List D)(M':Mem):Prop:=
 ∀σ' H' μ' vs',hZ a μ H μ' H'->bL fa K μ' H' σ' Z->RelM fa K μ' H' M'->H' a=some (.lst vs')->bf fa K μ' H' acc vs'->Q σ' H'
theorem WB.ext {fa:Fa}{K:PySem.W.Frag}{a:Addr}{μ μ1:Mu}{H H1:Hp}{Z:Env}{Q:L2.St->Hp->Prop}{acc:List D}{M':Mem}(h:WB fa K a μ H Z Q acc M')(x:hZ a μ H μ1 H1):WB fa K a μ1 H1 Z Q acc M':=
 fun σ' H' μ' vs' y e m h1 h2=>h σ' H' μ' vs' (x.trans y) e m h1 h2
def DB (fa:Fa)(X:Cx)(a:Addr)(W:List Nat)(body:Sem Unit)(g:Env->List D->Mem->Res (List D)):Prop:=
 ∀(pins:List (Addr×Obj)) (s:Shared) (σ:L2.St) (H:Hp) (Q:L2.St->Hp->Prop) (μ:Mu) (Z:Env) (M:Mem) (acc:List D) (vs:List V),Inv X pins σ H s->bL fa X.K μ H σ Z->RelM fa X.K μ H M->Clear W Z->a∈μ.priv->H a=some (.lst vs)->bf fa X.K μ H acc vs->
  au (g Z acc M) (WB fa X.K a μ H Z Q)->wpAny (model X.prog X.w) X.A body (fun _ s'=>∃σ' H',Inv X pins σ' H' s'/\Q σ' H') X.xe s
def cg (ge:Env->Mem->Res D):Env->List D->Mem->Res (List D):=fun Z acc M=>(ge Z M).bind fun x M=>if acc.length<sz then .ok (acc++[x]) M else .bad
def nU (gc:Env->Mem->Res Bool)(g:Env->List D->Mem->Res (List D)):Env->List D->Mem->Res (List D):=fun Z acc M=>(gc Z M).bind fun k M=>if k then g Z acc M else .ok acc M
def d7 (t:dD)(g:Env->List D->Mem->Res (List D))(Z:Env):List D->D->Mem->Res (List D):=fun acc d M=>(dv M (c7 t d Z)).bind fun ρ1 M=>g ρ1 acc M
def r8 (t:dD)(gw:Env->Mem->Res Walk)(g:Env->List D->Mem->Res (List D)):Env->List D->Mem->Res (List D):=fun Z acc M=>(gw Z M).bind fun w M=>eF (d7 t g Z) w acc M
section
variable {fa:Fa}{X:Cx}{a:Addr}
theorem n3 {elt:Expr}{ge:Env->Mem->Res D}(he:DE fa X elt ge):DB fa X a [] (eval elt X.env >>= fun x=>call (.builtin "list.append") [.ref a,x] >>= fun _=>pure ()) (cg ge):=by
 intro pins s σ H Q μ Z M acc vs I hE hM hc ha hH hr h
 obtain ⟨x,M1,e,q⟩:=bq h
 split at q
 ·next hz=>
  have q:WB fa X.K a μ H Z Q (acc++[x]) M1:=q
  refine tqa (bz (he pins s σ H (fun v H1=>∃μ1,Ext μ H μ1 H1/\RelM fa X.K μ1 H1 M1/\Rep fa X.K μ1 H1 x v) I ⟨μ,Z,M,hE,hM,?_⟩) fun u s1 ⟨v,H1,I1,rv,μ1,x1,m1,r1⟩=>?_)
  ·rw [e];exact fun v H1 μ1 x1 m1 r1=>⟨μ1,x1,m1,r1⟩
  have hH1:H1 a=some (.lst vs):=by rw [x1.pk a ha];exact hH
  have ha1:a∈μ1.priv:=by rw [x1.pr];exact ha
  have hl:vs.length<sizeLine:=by rw [hr.length,<- d5];exact hz
  refine tqa (bz (sU pins s1 σ H1 (.ref a) [v] (.ref a) [u] (fun _ H2=>H2=upd H1 a (.lst (vs++[v]))) I1 rfl (.cons rv .nil) ⟨a,vs,v,rfl,rfl,hH1,hl,rfl⟩) fun _ s2 ⟨_,H2,I2,_,e2⟩=>tqb ⟨σ,H2,I2,?_⟩)
  subst e2
  have xd:hZ a μ1 H1 μ1 (upd H1 a (.lst (vs++[v]))):=hZ.writeP ha1 hH1
  exact q σ _ μ1 (vs++[v]) (x1.toD.trans xd) ((hE.ext x1).extW xd.toExtW) (m1.writeP ha1 hH1) cE (((hr.ext x1).append (.one r1)).extW xd.toExtW)
 ·exact q.elim
theorem Dv {c:Expr}{gc:Env->Mem->Res Bool}{W:List Nat}{body:Sem Unit}{g:Env->List D->Mem->Res (List D)}(hc:DT fa X c gc)(hb:DB fa X a W body g) :
 DB fa X a W (isTrue c X.env (eval c X.env) >>= fun ok=>if ok=true then body else pure ()) (nU gc g):=by
 intro pins s σ H Q μ Z M acc vs I hE hM hw ha hH hr h
 obtain ⟨k,M1,e,q⟩:=bq h
 refine tqa (bz (hc pins s σ H (fun b H1=>b=k/\∃μ1,Ext μ H μ1 H1/\RelM fa X.K μ1 H1 M1) I ⟨μ,Z,M,hE,hM,?_⟩) fun b s1 ⟨H1,I1,eb,μ1,x1,m1⟩=>?_)
 ·rw [e];exact fun H1 μ1 x1 m1=>⟨rfl,μ1,x1,m1⟩
 subst eb
 have hH1:H1 a=some (.lst vs):=by rw [x1.pk a ha];exact hH
 have ha1:a∈μ1.priv:=by rw [x1.pr];exact ha
 cases b with
 | true =>
   rw [if_pos rfl]
   exact hb pins s1 σ H1 Q μ1 Z M1 acc vs I1 (hE.ext x1) m1 hw ha1 hH1 (hr.ext x1) (a7 q fun _ _ w=>w.ext x1.toD)
 | false =>
   rw [if_neg tqj]
   have q:WB fa X.K a μ H Z Q acc M1:=q
   exact tqb ⟨σ,H1,I1,q σ H1 μ1 vs x1.toD (hE.ext x1) m1 hH1 (hr.ext x1)⟩
theorem xA {elt:Expr}{gens:List Comprehension}{scope:Scope}{pos p:Pos}{k:Nat}{tg:Expr}{body:Sem Unit}{t:dD}{W:List Nat}{g:Env->List D->Mem->Res (List D)}{it:Addr}{fp:List Addr}{tn:Nat->Heap->Prop}{J:It}
 (heq:compTurn (.ListComp elt gens scope pos) k (.ref it) (.ref a) X.env=(standAt p >>= fun _=>pyNext (.ref it) >>= fun r=>match r with
  |none=>pure (.done .next)
  |some v=>letOwnedTupleGo tg (.ref it) v >>= fun _=>assign tg X.env v >>= fun _=>body >>= fun _=>again (.compLoop (.ListComp elt gens scope pos) k (.ref it) (.ref a) X.env)))
 (hx:X.xe=FF) (hcalm:X.calm=true) (T:Turn X.prog X.w X.K tg J fp it tn) (hg:PG X tg (gT fa X.K t)) (hb:DB fa X a W body g) (hW:∀i∈W,i∉slots t)
 {pins:List (Addr×Obj)}{s:Shared}{σ:L2.St}{H:Hp}{Q:L2.St->Hp->Prop}{μ:Mu}{Z:Env}{M:Mem}{acc:List D}{vs:List V}{w:Walk} (I:Inv X pins σ H s) (st:tn 0 s.heap) (hf:∀b∈fp,iy X pins H b) (hE:bL fa X.K μ H σ Z) (hM:RelM fa X.K μ H M)
 (hcl:Clear (slots t++W) Z) (ha:a∈μ.priv) (hH:H a=some (.lst vs)) (hr:bf fa X.K μ H acc vs) (wk:fy fa X.K μ H w J) (q:au (eF (d7 t g Z) w acc M) (WB fa X.K a μ H Z Q)) :
 codeAny (model X.prog X.w) X.A (.compLoop (.ListComp elt gens scope pos) k (.ref it) (.ref a) X.env) (fun r s'=>r=.ok .next/\∃σ' H',Inv X pins σ' H' s'/\Q σ' H') s:=by
 have stat:∀{H':Hp},(∀b∈fp,H' b=none)->∀b∈fp,iy X pins H' b:=fun hn b hb=>⟨hn b hb,(hf b hb).2⟩
 have clt:Clear (slots t) Z:=fun i hi=>hcl i (List.mem_append_left _ hi)
 have clW:∀d ρ1,c7 t d Z=some ρ1->Clear W ρ1:=fun d ρ1 e i hi d' z=>by
  rw [(tq e).2 i (hW i hi)] at z
  exact hcl i (List.mem_append_right _ hi) d' z
 let P:Nat->Nat->Shared->Prop:=fun m i s'=>∃σ' H' μ' M' acc' vs',Inv X pins σ' H' s'/\tn i s'.heap/\(∀b∈fp,H' b=none)/\hZ a μ H μ' H'/\bL fa X.K μ' H' σ' Z/\RelM fa X.K μ' H' M'/\H' a=some (.lst vs')/\bf fa X.K μ' H' acc' vs'/\
  au (gj (d7 t g Z) w m i acc' M') (WB fa X.K a μ H Z Q)
 have P0:∃m,P m 0 s:=⟨_,σ,H,μ,M,acc,vs,I,st,fun b hb=>(hf b hb).1,.refl,hE,hM,hH,hr,q⟩
 obtain ⟨m0,P0⟩:=P0
 have hturn:∀(n:Nat) (i:Nat) (s3:Shared),P n i s3->wpAny (model X.prog X.w) X.A (pyNext (.ref it)) (fun r s₁=>match r with
  |none=>(∃σ' H',Inv X pins σ' H' s₁/\Q σ' H')
  |some v=>wpAny (model X.prog X.w) X.A (letOwnedTupleGo tg (.ref it) v) (fun _ s₂=>wpAny (model X.prog X.w) X.A (assign tg X.env v) (fun _ s₃=>wpAny (model X.prog X.w) X.A body (fun _ s₄=>∃m,m<n/\P m (i+1) s₄) FF s₃) FF s₂) FF s₁) FF s3:=by
  rintro n i s3 ⟨σ3,H3,μ3,M3,acc3,vs3,I3,st3,fr3,x3,hE3,hM3,hH3,hr3,q3⟩
  have ha3:a∈μ3.priv:=by rw [x3.pr];exact ha
  have one:∀(d:D) (rest:List D->Mem->Res (List D)) (next:List D->Mem->Prop),J.go i H3->(∀x H',J.yld i H3 x H'->Ext μ3 H3 μ3 H'/\RelM fa X.K μ3 H' M3/\Rep fa X.K μ3 H' d x)->au ((d7 t g Z acc3 d M3).bind rest) (WB fa X.K a μ H Z Q)->
   (∀σ' H' μ' M' acc' vs' s',Inv X pins σ' H' s'->tn (i+1) s'.heap->(∀b∈fp,H' b=none)->hZ a μ H μ' H'->bL fa X.K μ' H' σ' Z->RelM fa X.K μ' H' M'->H' a=some (.lst vs')->bf fa X.K μ' H' acc' vs'->au (rest acc' M') (WB fa X.K a μ H Z Q)->∃m,m<n/\P m (i+1) s')->
   wpAny (model X.prog X.w) X.A (pyNext (.ref it)) (fun r s₁=>match r with
    |none=>(∃σ' H',Inv X pins σ' H' s₁/\Q σ' H')
    |some v=>wpAny (model X.prog X.w) X.A (letOwnedTupleGo tg (.ref it) v) (fun _ s₂=>wpAny (model X.prog X.w) X.A (assign tg X.env v) (fun _ s₃=>wpAny (model X.prog X.w) X.A body (fun _ s₄=>∃m,m<n/\P m (i+1) s₄) FF s₃) FF s₂) FF s₁) FF s3:=by
   intro d rest next go yl qd fin
   refine bz (T.item X rfl rfl rfl hcalm i pins s3 σ3 H3 FF I3 (stat fr3) st3 go) fun r s4 ⟨u,hr4,h4⟩=>?_
   subst hr4
   refine bz h4 fun _ s5 ⟨x,H5,I5,r5,y5,st5,fr5⟩=>?_
   obtain ⟨x5,hM5,rd⟩:=yl x H5 y5
   have I5':=I5.pinned (stat fr5) (T.obj _ _ st5)
   obtain ⟨acc6,M6,e6,q6⟩:=bq qd
   obtain ⟨ρ1,M7,e7,e8⟩:=gq e6
   cases eb:c7 t d Z with
   |none=>rw [eb] at e7;cases e7
   | some ρ2 =>
     rw [eb] at e7
     cases e7
     have hg':=hg _ s5 σ3 H5 x u (fun σ' H'=>H'=H5/\bL fa X.K μ3 H5 σ' ρ1) I5' r5 ⟨μ3,Z,_,d,ρ1,hE3.ext x5,hM5,rd,eb,fun σ1 h1=>⟨rfl,h1⟩⟩
     rw [hx] at hg'
     refine bz hg' fun _ s6 ⟨σ6,H6,I6,eH,hE6⟩=>?_
     subst eH
     have hH6:H6 a=some (.lst vs3):=by rw [x5.pk a ha3];exact hH3
     have hb':=hb _ s6 σ6 H6 (fun σ' H'=>∃μ' vs',hZ a μ3 H6 μ' H'/\bL fa X.K μ' H' σ' ρ1/\RelM fa X.K μ' H' M6/\H' a=some (.lst vs')/\bf fa X.K μ' H' acc6 vs') μ3 ρ1 _ acc3 vs3 I6 hE6 hM5 (clW d ρ1 eb) ha3 hH6 (hr3.ext x5) (by
      rw [e8];exact fun σ' H' μ' vs' z1 z2 z3 z4 z5=>⟨μ',vs',z1,z2,z3,z4,z5⟩)
     rw [hx] at hb'
     refine bz hb' fun _ s7 ⟨σ7,H7,I7,μ7,vs7,x7,hE7,hM7,hH7,hr7⟩=>?_
     refine fin σ7 H7 μ7 M6 acc6 vs7 s7 I7.unpinned (T.keep _ _ _ st5 fun b hb o e=>(I7.pin (b,o) (List.mem_append_right _ (List.mem_append_right _ (kg hb e)))).1) (fun b hb=>?_) ((x3.trans x5.toD).trans x7) (hE7.unbind eb clt) hM7 hH7 hr7 q6
     obtain ⟨o,e,dd⟩:=T.obj _ _ st5 b hb
     exact (I7.pin (b,o) (List.mem_append_right _ (List.mem_append_right _ (kg hb e)))).2.1
  have stop:J.stop i H3->au (.ok acc3 M3) (WB fa X.K a μ H Z Q)->wpAny (model X.prog X.w) X.A (pyNext (.ref it)) (fun r s₁=>match r with
   |none=>(∃σ' H',Inv X pins σ' H' s₁/\Q σ' H')
   |some v=>wpAny (model X.prog X.w) X.A (letOwnedTupleGo tg (.ref it) v) (fun _ s₂=>wpAny (model X.prog X.w) X.A (assign tg X.env v) (fun _ s₃=>wpAny (model X.prog X.w) X.A body (fun _ s₄=>∃m,m<n/\P m (i+1) s₄) FF s₃) FF s₂) FF s₁) FF s3:=fun hs q=>by
   refine bz (T.done X rfl rfl rfl hcalm i pins s3 σ3 H3 FF I3 (stat fr3) st3 hs) fun r s4 ⟨hr4,I4⟩=>?_
   subst hr4
   have q:WB fa X.K a μ H Z Q acc3 M3:=q
   exact ⟨σ3,H3,I4,q σ3 H3 μ3 vs3 x3 hE3 hM3 hH3 hr3⟩
  cases n with
  |zero=>exact q3.elim
  | succ n =>
    unfold gj at q3
    cases e2:w M3 with
    |none=>rw [e2] at q3;exact q3.elim
    | some ds =>
      rw [e2] at q3
      dsimp only at q3
      obtain ⟨go,stp⟩:=wk μ3 H3 M3 ds x3.toExtW hM3 e2
      cases ed:ds[i]? with
      | none =>
        rw [ed] at q3
        exact stop (stp i (List.getElem?_eq_none_iff.mp ed)) q3
      | some d =>
        rw [ed] at q3
        obtain ⟨g1,g2⟩:=go i d ed
        refine one d (gj (d7 t g Z) w n (i+1)) (fun _ _=>True) g1 g2 q3 ?_
        intro σ' H' μ' M' acc' vs' s' z1 z2 z3 z4 z5 z6 z7 z8 z9
        exact ⟨n,by omega,σ',H',μ',M',acc',vs',z1,z2,z3,z4,z5,z6,z7,z8,z9⟩
 refine AY heq (fun n s'=>∃i,P n i s') (fun n s3 ⟨i,h3⟩=>?_) m0 ⟨0,P0⟩
 refine bz (hturn n i s3 h3) fun r s1 h=>?_
 cases r with
 |none=>exact ⟨rfl,h⟩
 |some v=>exact bz h fun _ s2 h=>bz h fun _ s3 h=>bz h fun _ s4 ⟨m,hm,h⟩=>⟨m,hm,i+1,h⟩
end
end LD
namespace LD
open PySem PySem.Spec PyProof.Rows L2
section
variable {prog:Program}{w:World}{A:Around}{s:Shared}{R:Result->Shared->Prop}
theorem tU {elt t1 i1 t2 i2:Expr}{f1 f2:List Expr}{scope:Scope}{pos:Pos}{it acc:Value}{env:PySem.Env}
 (h0:codeAny (model prog w) A (.compLoop (.ListComp elt [⟨t1,i1,f1,0⟩,⟨t2,i2,f2,0⟩] scope pos) 1 it acc env) R s)
 (h:wpAny (model prog w) A (pyIter it) (fun it' s'=>codeAny (model prog w) A (.compLoop (.ListComp elt [⟨t1,i1,f1,0⟩,⟨t2,i2,f2,0⟩] scope pos) 1 it' acc env) R s')
  (notedBy (model prog w) A env fun x s'=>R (.error x) s') s) :
 codeAny (model prog w) A (.compStart (.ListComp elt [⟨t1,i1,f1,0⟩,⟨t2,i2,f2,0⟩] scope pos) 1 it acc env) R s:=by
 refine codeAny_of_tree ?_
 show wpAny _ _ ((compStart (.ListComp elt [⟨t1,i1,f1,0⟩,⟨t2,i2,f2,0⟩] scope pos) 1 it acc env).onRaise (fun x=>do noteFrame x env;standAt theWindowsPlace)) _ _ s
 refine wpAny_notedAt ?_
 unfold compStart
 show wpAny _ _ (ask >>= _) _ _ s
 refine tqa (wpAny_askSetting (wpAny_ite ?_))
 split
 ·first
   |exact tqa (tqb (tqb (And.intro rfl h0)))
   |exact tqb (And.intro rfl h0)
 ·first
   |exact tqa (wpAny_rule (tqa (wpAny_standAt (tqa (wpAny_mono h (fun it' s' h'=>tqb (And.intro rfl h')) fun _ _ x=>x)))))
   |(refine tqa (wpAny_rule ?_);show wpAny _ _ (standAt i2.pos >>= _) _ _ s;exact tqa (wpAny_standAt (tqa (wpAny_mono h (fun it' s' h'=>tqb (And.intro rfl h')) fun _ _ x=>x))))
end
section
variable {fa:Fa}{X:Cx}{a:Addr}
theorem IG {elt t1 i1 t2 i2:Expr}{scope:Scope}{pos:Pos}{t:dD}{gw:Env->Mem->Res Walk}{ge:Env->Mem->Res D}(hx:X.xe=FF)(hcalm:X.calm=true)(hi:DI fa X t2 i2 gw)(hg:PG X t2 (gT fa X.K t))(he:DE fa X elt ge)
 (hs:∀x,foldedSetIterable i2 X.env x=pure x) :
 DB fa X a (slots t) (eval i2 X.env >>= fun x=>standAt i2.pos >>= fun _=>foldedSetIterable i2 X.env x >>= fun x=>holding [x] (pyIter x) >>= fun j=>runOwn (.compStart (.ListComp elt [⟨t1,i1,[],0⟩,⟨t2,i2,[],0⟩] scope pos) 1 j (.ref a) X.env) X.env >>= fun _=>pure ()) (r8 t gw (cg ge)):=by
 intro pins s σ H Q μ Z M acc vs I hE hM hc ha hH hr h
 obtain ⟨w,M1,e,q⟩:=bq h
 refine tqa (bz (hi pins s σ H (fun J H1=>∃μ1,Ext μ H μ1 H1/\RelM fa X.K μ1 H1 M1/\fy fa X.K μ1 H1 w J) I ⟨μ,Z,M,hE,hM,?_⟩) fun v s1 h1=>?_)
 ·rw [e];exact fun J H1 μ1 x1 m1 wk=>⟨μ1,x1,m1,wk⟩
 refine tqa (wpAny_standAt (tqa (wpAny_of_eq (hs v) (tqa (tqo (bz h1 fun itv s2 h2=>?_))))))
 obtain ⟨it,fp,tn,J,H2,ei,I2,T,st2,f2,μ2,x2,m2,wk⟩:=h2
 subst ei
 have hH2:H2 a=some (.lst vs):=by rw [x2.pk a ha];exact hH
 have ha2:a∈μ2.priv:=by rw [x2.pr];exact ha
 have go:=xA (elt:=elt) (gens:=[⟨t1,i1,[],0⟩,⟨t2,i2,[],0⟩]) (scope:=scope) (pos:=pos) (W:=[]) (Q:=Q) (Bs elt t1 i1 t2 i2 scope pos (.ref it) (.ref a) X.env) hx hcalm T hg (n3 he) (fun i hi=>nomatch hi) I2 st2 f2 (hE.ext x2) m2 (by simpa using hc) ha2 hH2 (hr.ext x2) wk (a7 q fun _ _ z=>z.ext x2.toD)
 refine tqa (wpAny_runOwn (h:=none) ?_)
 have go':codeAny (model X.prog X.w) (X.A.mark none) (.compLoop (.ListComp elt [⟨t1,i1,[],0⟩,⟨t2,i2,[],0⟩] scope pos) 1 (.ref it) (.ref a) X.env) (fun r s'=>match r with|.ok f=>wpAny (model X.prog X.w) X.A (pure ():Sem Unit) (fun _ s'=>∃σ' H',Inv X pins σ' H' s'/\Q σ' H') X.xe s'|.error e=>cameBackBy (model X.prog X.w) X.A X.env X.xe e s') s2:=
  codeAny_mono go fun r s' ⟨er,z⟩=>by subst er;exact tqb z
 exact tU go' (T.self _ 0 _ _ _ st2 go')
end
end LD
namespace LD
open PySem PySem.Spec PyProof.Rows L2
section
variable {fa:Fa}{K:PySem.W.Frag}{μ1 μ':Mu}{H1 H':Hp}{M1 M':Mem}{a:Addr}
def HJ (μ:Mu)(a:Addr):Mu:=⟨μ.pub,a::μ.priv⟩
theorem nX (h:RelM fa K μ1 H1 M1)(ha:H1 a=none)(o:HO):ExtW μ1 H1 (HJ μ1 a) (upd H1 a o):=by
 have x:ExtW μ1 H1 μ1 (upd H1 a o):=(Ext.alloc h ha).toExtW
 refine ⟨x.mu,x.tups,fun b vs e n=>⟨(x.lsts b vs e n).1,fun z=>?_⟩,x.frzs,x.exts⟩
 rcases z with z|z
 ·exact n (.inl z)
 ·rcases List.mem_cons.mp z with z|z
  ·subst z;rw [ha] at e;cases e
  ·exact n (.inr z)
theorem zV (h:RelM fa K μ1 H1 M1)(ha:H1 a=none)(vs:List V):RelM fa K (HJ μ1 a) (upd H1 a (.lst vs)) M1:=by
 have x:=nX h ha (.lst vs)
 refine ⟨fun k ds e=>?_,h.out,h.inj,fun b hb=>?_⟩
 ·obtain ⟨b,ws,h1,h2,h3⟩:=h.at' k ds e
  exact ⟨b,ws,h1,by rw [aX (bA h2 ha)];exact h2,h3.extW x⟩
 ·rcases List.mem_cons.mp hb with z|z
  ·subst z
   exact ⟨⟨vs,cE⟩,fun k e=>by
    obtain ⟨_,_,_,q,_⟩:=h.mu_lt e
    rw [ha] at q;cases q⟩
  ·obtain ⟨⟨ws,q⟩,n⟩:=h.pv b z
   exact ⟨⟨ws,by rw [aX (bA q ha)];exact q⟩,n⟩
theorem Eg {m:Bool}{acc:List D}{vs:List V}{Q:VK}(h:RelM fa K μ1 H1 M1)(ha:H1 a=none)(x:hZ a (HJ μ1 a) (upd H1 a (.lst [])) μ' H')(hM:RelM fa K μ' H' M')(hH:H' a=some (.lst vs))(hr:bf fa K μ' H' acc vs)
 (q:au (cf m acc M') (bG fa K μ1 H1 Q)):Q (.ref a) H':=by
 have na:a∉μ1.priv:=fun z=>h.pne ha z rfl
 have hp:μ'.priv=a::μ1.priv:=x.pr
 have nk:∀k,μ'.pub k≠some a:=(hM.pv a (by rw [hp];exact List.mem_cons_self)).2
 have x0:=nX h ha (.lst [])
 have xe:Ext μ1 H1 ⟨μ'.pub,μ1.priv⟩ H':=by
  refine ⟨⟨fun k b e=>x.mu k b e,fun b ws e=>x.tups b ws (x0.tups b ws e),fun b ws e n=>?_,fun b ob u e=>x.frzs b ob u (x0.frzs b ob u e),fun b o i e=>x.exts b o i (x0.exts b o i e)⟩,rfl,fun b hb=>?_⟩
  ·obtain ⟨z1,z2⟩:=x0.lsts b ws e n
   obtain ⟨z3,z4⟩:=x.lsts b ws z1 z2
   refine ⟨z3,fun z=>z4 ?_⟩
   rcases z with z|z
   ·exact .inl z
   ·exact .inr (by rw [hp];exact List.mem_cons_of_mem _ z)
  ·have nb:b≠a:=fun e=>na (by rw [<- e];exact hb)
   rw [x.pk b (List.mem_cons_of_mem _ hb) nb,aX nb]
 have xw:ExtW μ' H' ⟨μ'.pub,μ1.priv⟩ H':=⟨fun _ _ e=>e,fun _ _ e=>e,fun b ws e n=>⟨e,fun z=>n (z.elim .inl fun z=>.inr (by rw [hp];exact List.mem_cons_of_mem _ z))⟩,fun _ _ _ e=>e,fun _ _ _ e=>e⟩
 have me:RelM fa K ⟨μ'.pub,μ1.priv⟩ H' M':=⟨fun k ds e=>let ⟨b,ws,h1,h2,h3⟩:=hM.at' k ds e;⟨b,ws,h1,h2,h3.extW xw⟩,hM.out,hM.inj,fun b hb=>hM.pv b (by rw [hp];exact List.mem_cons_of_mem _ hb)⟩
 have re:bf fa K ⟨μ'.pub,μ1.priv⟩ H' acc vs:=hr.extW xw
 have nMt:¬ (⟨μ'.pub,μ1.priv⟩:Mu).Mt a:=fun z=>z.elim (fun ⟨k,e⟩=>nk k e) na
 unfold cf at q
 split at q
 ·cases m with
  | false =>
    have q:bG fa K μ1 H1 Q (.lst acc) M':=q
    exact q (.ref a) H' _ xe me ⟨a,vs,rfl,⟨hH,nMt⟩,re⟩
  | true =>
    have q:bG fa K μ1 H1 Q (.cell M'.length) (M'++[acc]):=q
    have pc:∀k b,(ie ⟨μ'.pub,μ1.priv⟩ M'.length a).pub k=some b->(k=M'.length/\b=a)\/(k≠M'.length/\μ'.pub k=some b):=fun k b e=>by
     have e:(if k=M'.length then some a else μ'.pub k)=some b:=e
     split at e
     ·next z=>cases e;exact .inl ⟨z,rfl⟩
     ·next z=>exact .inr ⟨z,e⟩
    have mc:∀k b,μ'.pub k=some b->(ie ⟨μ'.pub,μ1.priv⟩ M'.length a).pub k=some b:=fun k b e=>by
     show (if k=M'.length then some a else μ'.pub k)=some b
     split
     ·next z=>rw [z,hM.out _ (tqg _)] at e;cases e
     ·exact e
    have ac:(ie ⟨μ'.pub,μ1.priv⟩ M'.length a).pub M'.length=some a:=by
     show (if M'.length=M'.length then some a else _)=some a
     rw [if_pos rfl]
    have nc:∀b,¬ μ'.Mt b->¬ (ie ⟨μ'.pub,μ1.priv⟩ M'.length a).Mt b:=fun b n z=>by
     rcases z with ⟨k,z⟩|z
     ·rcases pc k b z with ⟨_,e⟩|⟨_,e⟩
      ·exact n (.inr (by rw [hp,e];exact List.mem_cons_self))
      ·exact n (.inl ⟨k,e⟩)
     ·exact n (.inr (by rw [hp];exact List.mem_cons_of_mem _ z))
    have xc:ExtW μ' H' (ie ⟨μ'.pub,μ1.priv⟩ M'.length a) H':=⟨mc,fun _ _ e=>e,fun b ws e n=>⟨e,nc b n⟩,fun _ _ _ e=>e,fun _ _ _ e=>e⟩
    have xe2:Ext μ1 H1 (ie ⟨μ'.pub,μ1.priv⟩ M'.length a) H':=by
     refine ⟨⟨fun k b e=>mc k b (x.mu k b e),xe.tups,fun b ws e n=>?_,xe.frzs,xe.exts⟩,rfl,xe.pk⟩
     obtain ⟨z1,z2⟩:=x0.lsts b ws e n
     obtain ⟨z3,z4⟩:=x.lsts b ws z1 z2
     exact ⟨z3,nc b z4⟩
    have mce:RelM fa K (ie ⟨μ'.pub,μ1.priv⟩ M'.length a) H' (M'++[acc]):=by
     refine ⟨fun k ds e=>?_,fun k hk=>?_,fun j k b e1 e2=>?_,fun b hb=>?_⟩
     ·by_cases hk:k<M'.length
      ·rw [List.getElem?_append_left hk] at e
       obtain ⟨b,ws,h1,h2,h3⟩:=hM.at' k ds e
       exact ⟨b,ws,mc k b h1,h2,h3.extW xc⟩
      ·have hk':k=M'.length:=by
        have:=(List.getElem?_eq_some_iff.mp e).1
        simp at this;omega
       subst hk'
       rw [List.getElem?_append_right (tqg _)] at e
       simp at e
       subst e
       exact ⟨a,vs,ac,hH,hr.extW xc⟩
     ·simp at hk
      show (if k=M'.length then some a else μ'.pub k)=none
      rw [if_neg (by omega)]
      exact hM.out k (by omega)
     ·rcases pc j b e1 with ⟨j1,j2⟩|⟨j1,j2⟩<;>rcases pc k b e2 with ⟨k1,k2⟩|⟨k1,k2⟩
      ·omega
      ·exact absurd (j2 ▸ k2) (nk k)
      ·exact absurd (k2 ▸ j2) (nk j)
      ·exact hM.inj j k b j2 k2
     ·have hb:b∈μ1.priv:=hb
      obtain ⟨z1,z2⟩:=hM.pv b (by rw [hp];exact List.mem_cons_of_mem _ hb)
      refine ⟨z1,fun k e=>?_⟩
      rcases pc k b e with ⟨_,e⟩|⟨_,e⟩
      ·exact na (e ▸ hb)
      ·exact z2 k e
    exact q (.ref a) H' _ xe2 mce ⟨a,rfl,ac⟩
 ·exact q.elim
end
section
variable {fa:Fa}{X:Cx}
def bX (m:Bool)(n:Nat)(t:dD)(gw:Env->Mem->Res Walk)(g:Env->List D->Mem->Res (List D)):Env->Mem->Res D:=fun Z M=>
 (gw Z M).bind fun w M=>(eF (d7 t g (List.replicate n none++Z)) w [] M).bind (cf m)
def qZ (X:Cx)(elt tg iter:Expr)(ifs:List Expr)(rest:List Comprehension)(scope:Scope)(pos:Pos)(body:Addr->PySem.Env->Sem Unit):Prop:=
 ∀(it a:Addr) (env:PySem.Env),compTurn (.ListComp elt (⟨tg,iter,ifs,0⟩::rest) scope pos) 0 (.ref it) (.ref a) env=(standAt iter.pos >>= fun _=>pyNext (.ref it) >>= fun r=>match r with
  |none=>pure (.done .next)
  |some v=>letOwnedTupleGo tg (.ref it) v >>= fun _=>assign tg env v >>= fun _=>body a env >>= fun _=>again (.compLoop (.ListComp elt (⟨tg,iter,ifs,0⟩::rest) scope pos) 0 (.ref it) (.ref a) env))
structure Block (fa:Fa) (X:Cx) (own bn:List Str) (scope:Scope) (tg:Expr) (t:dD) (W:List Nat) (body:Addr->PySem.Env->Sem Unit) (g:Env->List D->Mem->Res (List D)):Prop where
 pg:∀cl C fp s H,PG (cC X own bn scope cl C fp s H) tg (gT fa X.K t)
 db:∀cl C fp s H a,DB fa (cC X own bn scope cl C fp s H) a W (body a (compEnvC scope cl C X.env)) g
theorem A0 {n:Nat}{W:List Nat}{Z:Env}(h:∀i∈W,i<n):Clear W (List.replicate n none++Z):=fun i hi d e=>by
 rw [List.getElem?_append_left (by simpa using h i hi),List.getElem?_replicate] at e
 simp [h i hi] at e
theorem BS {K:PySem.W.Frag}{μ:Mu}{H:Hp}{σ:L2.St}{Z:Env}(n:Nat)(h:bL fa K μ H σ Z):bL fa K μ H (List.replicate n none++σ) (List.replicate n none++Z):=by
 refine ⟨by simp [h.len],fun i d e=>?_⟩
 by_cases hi:i<n
 ·rw [List.getElem?_append_left (by simpa using hi),List.getElem?_replicate] at e
  simp [hi] at e
 ·rw [List.getElem?_append_right (by simp;omega)] at e ⊢
  simp only [List.length_replicate] at e ⊢
  exact h.at' _ d e
theorem qW {elt tg iter:Expr}{ifs:List Expr}{rest:List Comprehension}{scope:Scope}{pos p0:Pos}{own bn:List Str}{t:dD}{W:List Nat}{body:Addr->PySem.Env->Sem Unit}{gw:Env->Mem->Res Walk}{g:Env->List D->Mem->Res (List D)}{m:Bool}
 (S:fX X own bn scope) (hcalm:X.calm=true) (hi:DI fa X tg iter gw) (B:Block fa X own bn scope tg t W body g) (hT:qZ X elt tg iter ifs rest scope pos body) (hW:∀i∈W,i∉slots t) (hn:∀i∈slots t++W,i<own.length)
 (hs:∀x,foldedSetIterable iter X.env x=pure x) {use:Option (Value->Sem Unit)}{QQ:Value->Shared->Prop}
 {pins:List (Addr×Obj)}{s:Shared}{σ:L2.St}{H:Hp}{Q:VK}{μ:Mu}{Z:Env}{M:Mem} (I:Inv X pins σ H s) (hE:bL fa X.K μ H σ Z) (hM:RelM fa X.K μ H M) (h:au (bX m own.length t gw g Z M) (bG fa X.K μ H Q))
 (post:∀(a C:Addr) (s':Shared) (H':Hp),Inv X pins σ H' s'->Q (.ref a) H'->(∃m,s'.heap.Ns C m)->(∀σ2 H2 s2,Inv X pins σ2 H2 s2->(H' C=none->H2 C=none)->H2 C=none/\∀h'',Heap.SameBut C s2.heap h''->Inv X pins σ2 H2 {s2 with heap:=h''})->H' C=none->(C≠X.env.locals/\∀x c,X.env.cells.lookup x=some c->c≠C)->compPost (model X.prog X.w) X.A X.xe use QQ (.ref a) C (.ok .next) s') :
 wpAny (model X.prog X.w) X.A (comprehension (.ListComp elt (⟨tg,iter,ifs,0⟩::rest) scope pos) scope X.env p0 (newList []) false (eval iter X.env) use) QQ X.xe s:=by
 obtain ⟨w,M1,ew,q⟩:=bq h
 obtain ⟨acc,M2,ea,q2⟩:=bq q
 obtain ⟨cl,hcl,hsub,hhas⟩:=yS (scope:=scope) (env:=X.env) fun y hy hf=>I.ok.has y.1 (S.free y hy hf)
 have CL:Cl X scope cl:=⟨hsub,hhas⟩
 refine wpAny_comprehension_free (use:=use) rfl hs hcl S.kind S.loc ?_
 refine bz (hi pins s σ H (fun J H1=>∃μ1,Ext μ H μ1 H1/\RelM fa X.K μ1 H1 M1/\fy fa X.K μ1 H1 w J) I ⟨μ,Z,M,hE,hM,?_⟩) fun v s1 h1=>bz h1 fun itv s2 h2=>?_
 ·rw [ew];exact fun J H1 μ1 x1 m1 wk=>⟨μ1,x1,m1,wk⟩
 obtain ⟨it,fp,tn,J,H2,ei,I2,T,st2,f2,μ2,x2,m2,wk⟩:=h2
 subst ei
 refine wpAny_newObj_type ?_
 have ha:H2 s2.heap.objs.size=none:=I2.hok.fresh (tqg _)
 have I3:Inv X pins σ (upd H2 s2.heap.objs.size (.lst [])) {s2 with heap:=s2.heap.push {cls:=.type "list",dict:=none,data:=.seq ([]:List Value).toArray}}:=
  I2.laid (t':=s2.toks) (fun b o e=>tqc _ e) (tqg _) ⟨Nat.zero_le _,[],_,.nil,tqe _ rfl⟩
 generalize hs3:({s2 with heap:=s2.heap.push {cls:=.type "list",dict:=none,data:=.seq ([]:List Value).toArray}}:Shared)=s3 at I3 ⊢
 have k3:∀b o,s2.heap.get? b=some o->s3.heap.get? b=some o:=fun b o e=>by rw [<- hs3];exact tqc _ e
 have fo2:=T.obj _ _ st2
 have f3:∀b∈fp,iy X pins (upd H2 s2.heap.objs.size (.lst [])) b:=fun b hb=>by
  obtain ⟨o,e,_⟩:=fo2 b hb
  exact ⟨by rw [aX (tqk (tqd e))];exact (f2 b hb).1,(f2 b hb).2⟩
 have fo3:∀b∈fp,∃o,s3.heap.get? b=some o:=fun b hb=>let ⟨o,e,_⟩:=fo2 b hb;⟨o,k3 b o e⟩
 refine wpAny_newFunctionEnv S.nocell (by intro y hy;simp at hy) (fun h₁ hns₁ hsb₁=>?_) S.kind
 have k4:∀b o,s3.heap.get? b=some o->h₁.get? b=some o:=fun b o e=>hsb₁.extBut b o (tqk (tqd e)) (tqc _ e)
 have I4:=CN (own:=own) (bn:=bn) (t':=s3.toks+([]:List (Str×Value)).length) I3 S CL f3 fo3 hns₁ k4
 have ok4:=I4.ok
 have f4:∀b∈fp,iy (cC X own bn scope cl s3.heap.objs.size fp s3 (upd H2 s2.heap.objs.size (.lst []))) [] (upd H2 s2.heap.objs.size (.lst [])) b:=fun b hb=>
  ⟨(f3 b hb).1,(ok4.exf b hb).1,ok4.exfs b hb,.inl hb,(ok4.exf b hb).2,fun p hp=>nomatch hp⟩
 have st4:tn 0 h₁:=T.keep _ _ _ st2 fun b hb o e=>k4 b o (k3 b o e)
 have x3:=nX m2 ha (.lst [])
 have go:=xA (X:=cC X own bn scope cl s3.heap.objs.size fp s3 (upd H2 s2.heap.objs.size (.lst []))) (fa:=fa) (a:=s2.heap.objs.size) (W:=W) (t:=t) (g:=g) (acc:=[]) (vs:=[]) (Q:=fun _ H'=>Q (.ref s2.heap.objs.size) H') (hT it s2.heap.objs.size _) rfl hcalm T (B.pg _ _ _ _ _) (B.db _ _ _ _ _ _) hW I4 st4 f4
  (BS own.length ((hE.ext x2).extW x3)) (zV m2 ha []) (A0 hn) List.mem_cons_self cE rfl (zf wk x3) (by
   rw [ea]
   intro σ' H' μ' vs' z1 z2 z3 z4 z5
   exact Eg (m:=m) m2 ha z1 z3 z4 z5 (md q2 x2))
 have go':codeAny (model X.prog X.w) X.A (.compLoop (.ListComp elt (⟨tg,iter,ifs,0⟩::rest) scope pos) 0 (.ref it) (.ref s2.heap.objs.size) (compEnvC scope cl s3.heap.objs.size X.env)) (compPost (model X.prog X.w) X.A X.xe use QQ (.ref s2.heap.objs.size) s3.heap.objs.size) {s3 with heap:=h₁,toks:=s3.toks+([]:List (Str×Value)).length}:=
  codeAny_mono go fun r s' ⟨er,σ',H',I',z⟩=>by
   subst er
   refine post _ _ s' H' (comp_back I3 f3 I') z (let ⟨m,hn,_⟩:=I'.loc;⟨m,hn⟩) (fun σ2 H2 s2' I2' hf=>⟨hf I'.free,fun h'' hs''=>AZ I3 (hf I'.free) I2' hs''⟩) I'.free ⟨Nat.ne_of_gt I3.lt,fun x c e z=>by
    obtain ⟨v,q⟩:=I3.cell x c e
    exact absurd q.lt (by rw [z];exact tqn _)⟩
 exact codeAny_compStart_list go' (T.self _ 0 _ _ _ st4 go')
theorem AV (m:Bool){elt tg iter:Expr}{ifs:List Expr}{rest:List Comprehension}{scope:Scope}{pos:Pos}{own bn:List Str}{t:dD}{W:List Nat}{body:Addr->PySem.Env->Sem Unit}{gw:Env->Mem->Res Walk}{g:Env->List D->Mem->Res (List D)}
 (S:fX X own bn scope) (hcalm:X.calm=true) (hi:DI fa X tg iter gw) (B:Block fa X own bn scope tg t W body g) (hT:qZ X elt tg iter ifs rest scope pos body) (hW:∀i∈W,i∉slots t) (hn:∀i∈slots t++W,i<own.length)
 (hs:∀x,foldedSetIterable iter X.env x=pure x):DE fa X (.ListComp elt (⟨tg,iter,ifs,0⟩::rest) scope pos) (bX m own.length t gw g):=by
 intro pins s σ H Q I ⟨μ,Z,M,hE,hM,h⟩
 rw [eval_ListComp]
 refine qW (use:=none) S hcalm hi B hT hW hn hs I hE hM h ?_
 intro a C s' H' I' q ⟨m,hn⟩ gone hf _
 exact ⟨m,hn,fun h' hs'=>⟨.ref a,H',(gone σ H' s' I' id).2 h' hs',rfl,q⟩⟩
theorem yO (m:Bool){i:Nat}{y:Str}{py spos:Pos}{elt tg iter:Expr}{ifs:List Expr}{rest:List Comprehension}{scope:Scope}{pos:Pos}{own bn:List Str}{t:dD}{W:List Nat}{body:Addr->PySem.Env->Sem Unit}{gw:Env->Mem->Res Walk}{g:Env->List D->Mem->Res (List D)}
 (S:fX X own bn scope) (hcalm:X.calm=true) (hi:DI fa X tg iter gw) (B:Block fa X own bn scope tg t W body g) (hT:qZ X elt tg iter ifs rest scope pos body) (hW:∀i∈W,i∉slots t) (hn:∀i∈slots t++W,i<own.length)
 (hs:∀x,foldedSetIterable iter X.env x=pure x) (hN:X.N.Nodup) (hy:X.N[i]?=some y) (hl:X.env.scope.names.lookup y=some .local)
 (hsw:swapsWith (.ListComp elt (⟨tg,iter,ifs,0⟩::rest) scope pos) (some (.Name y py)) spos.line X.env=pure true) :
 DS fa X (.Assign [.Name y py] (.ListComp elt (⟨tg,iter,ifs,0⟩::rest) scope pos) spos) (fun Z M=>(bX m own.length t gw g Z M).bind fun x M=>(dv M (c7 (.one i) x Z)).bind fun ρ1 M=>.ok (.next ρ1) M):=by
 intro pins s σ H D' I ⟨μ,Z,M,hE,hM,h⟩
 obtain ⟨x,M1,ex,q⟩:=bq h
 have q:∀σ' H' μ',Ext μ H μ' H'->bL fa X.K μ' H' σ' (Z.set i (some x))->RelM fa X.K μ' H' M1->D'.nx σ' H':=q
 rw [exec_Assign_Name_used _ _ _ _ hsw]
 refine tqa (wpAny_standAt (tqa ?_))
 show wpAny _ X.A (do let _ <- comprehension (.ListComp elt (⟨tg,iter,ifs,0⟩::rest) scope pos) scope X.env _ (newList []) false (eval iter X.env) (some (assign (.Name y py) X.env))) _ _ s
 refine tqa (bz (qW (use:=some (assign (.Name y py) X.env)) (QQ:=fun _ s'=>SP X pins D' .next s') (Q:=fun v H'=>D'.nx (σ.set i (some v)) H') S hcalm hi B hT hW hn hs I hE hM (by
  rw [ex]
  exact fun v H' μ' x1 m1 r1=>q _ H' μ' x1 ((hE.ext x1).set r1) m1) ?_) fun _ s' hq=>tqb (tqb hq))
 intro a C s' H' I' q ⟨m,hn⟩ gone hf ⟨nL,nC⟩
 refine wpAny_assign_Name (sG I' hN hy (.inl hl) (v:=.ref a) rfl (fun s2 I2 ⟨b,hb,hb2⟩=>?_) (.inr hl))
 have nb:C≠b:=by
  rcases hb2 with z|z
  ·rw [z];exact nL
  ·exact Ne.symm (nC y b z)
 exact ⟨m,hn.sameBut hb nb,fun h' hs'=>⟨_,H',(gone _ H' s2 I2 id).2 h' hs',q⟩⟩
end
end LD
namespace LD
open PySem PySem.Spec PyProof.Rows L2
section
variable {X:Cx}{pins:List (Addr×Obj)}{σ:L2.St}{H:Hp}{s:Shared}{h':Heap}{t':Nat}{ch:List Addr}
theorem wF (I:Inv X pins σ H s)(hf:∀b∈ch,iy X pins H b)(k:∀b o,b∉ch->s.heap.get? b=some o->h'.get? b=some o):Inv X pins σ H {s with heap:=h',toks:=t'}:=by
 have nit:∀b u,H b=some u->b∉ch:=fun b u e z=>by rw [(hf b z).1] at e;cases e
 refine I.step (g':=s.gens) (d':=s.drawn) (ch:=ch) (fun b hb=>⟨(hf b hb).2.2.2.1,(hf b hb).2.1,(hf b hb).2.2.2.2.1,(hf b hb).2.2.2.2.2⟩) (fun b o _ _ hc e _=>k b o hc e) (fun b o _ _ hc e _=>⟨o.slots,k b o hc e⟩) (fun _ _ _ _ n=>n)
  (fun b o hc e=>⟨o,k b o hc e⟩) (fun _ _ e=>e) (fun _ _ _ e=>e) (fun b ps e=>⟨#[],by rw [e];simp⟩) (fun m hm=>?_) (fun b u e=>?_) I.bare
 ·obtain ⟨o,es,ep,ho,r⟩:=hm
  exact ⟨o,es,ep,k _ o (fun z=>(hf _ z).2.1 rfl) ho,r⟩
 ·refine (I.hok b u e).stay (fun c v hc q=>k c v ?_ q) (fun _ q=>q) fun _ _ q=>q
  rcases hc with z|z
  ·rw [z];exact nit b u e
  ·exact nit c _ z
theorem sD {T:Addr}{o:HO}(I:Inv X pins σ H s)(hf:∀b∈ch,iy X pins H b)(k:∀b o,b∉ch->s.heap.get? b=some o->h'.get? b=some o)(hT:s.heap.objs.size<=T)(new:dC X.prog X.w (upd H T o) h' T o) :
 Inv X pins σ (upd H T o) {s with heap:=h',toks:=t'}:=by
 have hn:H T=none:=I.hok.fresh hT
 have nit:∀b u,H b=some u->b∉ch:=fun b u e z=>by rw [(hf b z).1] at e;cases e
 refine I.step (g':=s.gens) (d':=s.drawn) (ch:=ch) (fun b hb=>⟨(hf b hb).2.2.2.1,(hf b hb).2.1,(hf b hb).2.2.2.2.1,(hf b hb).2.2.2.2.2⟩) (fun b o _ _ hc e _=>k b o hc e) (fun b o _ _ hc e _=>⟨o.slots,k b o hc e⟩)
  (fun b o _ e n=>by rw [aX (tqk (tqi (tqd e) hT))];exact n)
  (fun b o hc e=>⟨o,k b o hc e⟩) (fun b xs e=>by rw [aX (bA e hn)];exact e) (fun b ob u e=>by rw [aX (bA e hn)];exact e) (fun b ps e=>⟨#[],by rw [aX (bA e hn),e];simp⟩) (fun m hm=>?_) (fun b u e=>?_) I.bare
 ·obtain ⟨o,es,ep,ho,r⟩:=hm
  exact ⟨o,es,ep,k _ o (fun z=>(hf _ z).2.1 rfl) ho,r⟩
 ·by_cases hb:b=T
  ·subst hb;rw [cE] at e;cases e;exact new
  ·rw [aX hb] at e
   refine (I.hok b u e).stay (fun c v hc q=>k c v ?_ q) (fun c q=>by rw [aX (bA q hn)];exact q) fun c xs q=>by rw [aX (bA q hn)];exact q
   rcases hc with z|z
   ·rw [z];exact nit b u e
   ·exact nit c _ z
end
def KZ (K:PySem.W.Frag)(a:Addr):It:=
 ⟨fun i H=>∃xs x,dA K H a xs/\xs[i]?=some x,fun i H v H'=>∃p x,H p=none/\v=.ref p/\H'=upd H p (.tup [.int i,x])/\∀xs,dA K H a xs->xs[i]?=some x,fun i H=>∃xs,dA K H a xs/\xs.length<=i⟩
theorem zo {P:Program}{w:World}{K:PySem.W.Frag}{elts:List Expr}{kk:Nat}{pos:Pos}(a it e:Addr)(hne:e≠it) :
 Turn P w K (.Tuple elts kk pos) (KZ K a) [e,it] e (fun i h=>(∃old,IsEnum h e it (i:Nat) old)/\h.IsListIter it a i) where
 mem:=by simp
 obj:=fun i h ⟨⟨old,he⟩,o,ho,c,d⟩ b hb=>by
  rcases List.mem_cons.mp hb with z|z
  ·subst z;exact ⟨_,he,fun v z=>by cases z⟩
  ·have e:b=it:=by simpa using z
   subst e
   exact ⟨o,ho,fun v z=>by rw [d] at z;cases z⟩
 keep:=fun i h h' ⟨⟨old,he⟩,st⟩ k=>⟨⟨old,k e (by simp) _ he⟩,st.at fun o e=>k it (by simp) o e⟩
 item:=by
  intro X hP hw hK hc i pins s σ H E I hf st hg
  subst hP hw hK
  obtain ⟨xs,x,hq,hx⟩:=hg
  obtain ⟨⟨old,he⟩,hit⟩:=st
  obtain ⟨its,rv,p,hz⟩:=I.list hq
  obtain ⟨u,hu,ru⟩:=rv.get hx
  refine wpAny_pyNext_enum_item he hit p.isList (x:=u) (by simpa using hu) hne fun h1 ho hit1 hT hsz hk=>⟨_,rfl,?_⟩
  have hT0:H s.heap.objs.size=none:=I.hok.fresh (tqg _)
  have elt:e<s.heap.objs.size:=tqd he
  refine wpAny_letOwnedTupleGo_enum (s:={s with heap:=h1,toks:=s.toks+1}) ho fun h2 he2 hs2=>?_
  have he2:IsEnum h2 e it ((i+1:Nat):Int) u:=by simpa using he2
  have hT2:h2.get? s.heap.objs.size=some {cls:=.type "tuple",data:=.seq #[.int i s.toks,u]}:=(hs2.2 _ (Nat.ne_of_gt elt)).trans hT
  refine ⟨.ref s.heap.objs.size,upd H s.heap.objs.size (.tup [.int i,x]),sD (s:=s) (t':=s.toks+1) I hf (fun b o hb q=>(hs2.2 b (fun z=>hb (by simp [z]))).trans (hk b o (fun z=>hb (by simp [z])) (fun z=>hb (by simp [z])) q)) (tqg _) ⟨?_,[.int i s.toks,u],.cons ⟨_,rfl⟩ (.cons ru .nil),⟨_,hT2,rfl,_,rfl⟩⟩,rfl,
   ⟨_,x,hT0,rfl,rfl,fun ys hy=>by rw [I.list_inj hy hq];exact hx⟩,⟨⟨u,he2⟩,hit1.extBut hs2.extBut (Ne.symm hne)⟩,fun b hb=>?_⟩
  ·show 2<=sizeLine;decide
  ·have:b<s.heap.objs.size:=by
    rcases List.mem_cons.mp hb with z|z
    ·subst z;exact elt
    ·have e:b=it:=by simpa using z
     subst e
     obtain ⟨o,e,_⟩:=hit;exact tqd e
   rw [aX (tqk this)];exact (hf b hb).1
 done:=by
  intro X hP hw hK hc i pins s σ H E I hf st hg
  subst hP hw hK
  obtain ⟨xs,hq,hx⟩:=hg
  obtain ⟨⟨old,he⟩,hit⟩:=st
  obtain ⟨its,rv,p,hz⟩:=I.list hq
  have hl:=rv.length
  exact wpAny_pyNext_enum_end (I.ok.hd hc) he hit p.isList (by simp;omega) fun h' eb=>⟨rfl,wF I hf (t':=s.toks) fun b o hb q=>eb b o (fun z=>hb (by simp [z])) q⟩
 self:=fun _ _ _ _ _ ⟨⟨old,he⟩,_⟩ h=>wpAny_pyIter_enum he h
section
variable {fa:Fa}{X:Cx}{a:Expr}{ga:Env->Mem->Res D}{pos p:Pos}
theorem iU:∀(ds:List D) (k i:Nat),(eJ k ds)[i]?=(ds[i]?).map fun d=>.tup [.int ((k+i:Nat):Int),d]
 |[],_,_=>by simp [eJ]
 |d::ds,k,0=>by simp [eJ]
 | d :: ds, k, i + 1 => by
   have:=iU ds (k+1) i
   simp only [eJ,List.getElem?_cons_succ,this]
   congr 1
   funext d
   congr 3
   omega
theorem lq:∀(ds:List D) (k:Nat),(eJ k ds).length=ds.length
 |[],_=>rfl
 |d::ds,k=>by simp [eJ,lq ds]
theorem zh {μ0:Mu}{H0:Hp}{dd:D}{ad:Addr}(h:Rep fa X.K μ0 H0 dd (.ref ad)):fy fa X.K μ0 H0 (fun M=>(gW M dd).map (eJ 0)) (KZ X.K ad):=fun μ H M ds x hM e=>by
 dsimp only at e
 cases e0:gW M dd with
 |none=>rw [e0] at e;cases e
 | some es =>
   rw [e0] at e
   have e:eJ 0 es=ds:=Option.some.inj e
   subst e
   obtain ⟨ad',vs,ea,s,r⟩:=cw hM (Rep.extW x h) e0
   cases ea
   refine ⟨fun i d hd=>?_,fun i hi=>⟨vs,s,by rw [r.length,<- lq es 0];exact hi⟩⟩
   rw [iU] at hd
   cases e1:es[i]? with
   |none=>rw [e1] at hd;cases hd
   | some d0 =>
     rw [e1] at hd
     have hd:D.tup [.int ((0+i:Nat):Int),d0]=d:=Option.some.inj hd
     subst hd
     obtain ⟨v,hv,rv⟩:=r.get e1
     refine ⟨⟨vs,v,s,hv⟩,fun y H' ⟨q,z,hq,ey,eH,hy⟩=>?_⟩
     have:=hy vs s
     rw [hv] at this;cases this
     subst eH ey
     refine ⟨Ext.alloc hM hq,hM.alloc hq,q,[.int i,v],rfl,.inl (.inl cE),.int i,[v],rfl,?_,v,[],rfl,rv.ext (Ext.alloc hM hq),rfl⟩
     show V.int i=V.int ((0+i:Nat):Int)
     rw [Nat.zero_add]
def oE (ga:Env->Mem->Res D):Env->Mem->Res Walk:=fun Z M=>(ga Z M).bind fun x M=>match x with
 |.lst ds=>.ok (fun _=>some (eJ 0 ds)) M
 |.frz ds=>.ok (fun _=>some (eJ 0 ds)) M
 |.cell k=>.ok (fun M=>(M[k]?).map (eJ 0)) M
 |_=>.bad
theorem E8 {elts:List Expr}{kk:Nat}{tp:Pos}(ha:DE fa X a ga)(hg:Gl X "enumerate")(hm:X.mg "enumerate"=none)(hs:starEach [a] X.env=[(false,eval a X.env)]):DI fa X (.Tuple elts kk tp) (.Call (.Name "enumerate" p) [a] [] pos) (oE ga):=by
 intro pins s σ H R I ⟨μ,Z,M,hE,hM,h⟩
 obtain ⟨x,M1,e,q⟩:=bq h
 have key:(∀μ' H',RelM fa X.K μ' H' M1->∀v,Rep fa X.K μ' H' x v->∃ds,gW M1 x=some ds)->(∀J H' μ',Ext μ H μ' H'->RelM fa X.K μ' H' M1->fy fa X.K μ' H' (fun M=>(gW M x).map (eJ 0)) J->R J H')->
  wpAny (model X.prog X.w) X.A (eval (.Call (.Name "enumerate" p) [a] [] pos) X.env) (fun v s1=>wpAny (model X.prog X.w) X.A (pyIter v) (Dz X pins σ (.Tuple elts kk tp) R) X.xe s1) X.xe s:=fun hx q=>by
  refine Call_ (jP I hg hm boot_enumerate (PyProof.Rows.callWith_type1 (bz (di ha fO hs pos pins s σ H (fun vs H1=>∃v μ1,vs=[v]/\Ext μ H μ1 H1/\RelM fa X.K μ1 H1 M1/\Rep fa X.K μ1 H1 x v) I ⟨μ,Z,M,hE,hM,?_⟩) fun us s1 ⟨vs,H1,I1,r1,v,μ1,ev,x1,m1,rv⟩=>?_) hs rfl))
  ·rw [e];exact fun v H1 μ1 x1 m1 r1=>⟨v,μ1,rfl,x1,m1,r1⟩
  subst ev
  obtain ⟨ds,er⟩:=hx μ1 H1 m1 v rv
  obtain ⟨ad,vs,rfl,s1',r⟩:=cw m1 rv er
  cases r1 with
  | cons r1 rr =>
    cases rr
    obtain rfl:=r1
    obtain ⟨its,rvs,pl,hz⟩:=I1.list s1'
    refine call_enumerate_list pl.isList fun h1 he hit hsz hk=>?_
    have I2:Inv X pins σ H1 {s1 with heap:=h1}:=I1.kept (t':=s1.toks) hk
    refine wpAny_pyIter_enum (s:={s1 with heap:=h1}) he ?_
    refine ⟨s1.heap.objs.size+1,[s1.heap.objs.size+1,s1.heap.objs.size],_,_,H1,rfl,I2,zo ad s1.heap.objs.size (s1.heap.objs.size+1) (Nat.succ_ne_self _),⟨⟨.none,he⟩,hit⟩,fun b hb=>?_,q _ H1 μ1 x1 m1 (zh rv)⟩
    have hb:s1.heap.objs.size<=b:=by
     rcases List.mem_cons.mp hb with z|z
     ·subst z;exact Nat.le_succ _
     ·have e:b=s1.heap.objs.size:=by simpa using z
      subst e;exact tqg _
    exact I1.fpOk hb (I1.hok.fresh hb)
 cases x with
 |lst ds=>exact key (fun _ _ _ _ _=>⟨ds,rfl⟩) q
 |frz ds=>exact key (fun _ _ _ _ _=>⟨ds,rfl⟩) q
 |cell k=>exact key (fun μ' H' m' v ⟨ad,_,hk⟩=>let ⟨ds,_,e,_⟩:=m'.mu_lt hk;⟨ds,e⟩) q
 |_=>exact q.elim
end
end LD
namespace LD
open PySem PySem.Spec PyProof.Rows L2
def cD:Bool->Heap->Addr->Array Value->Prop
 |true,h,a,its=>h.IsList a its
 |false,h,a,its=>h.IsTuple a its
def dn:Bool->Heap->Addr->Addr->Nat->Prop
 |true,h,it,a,i=>h.IsListIter it a i
 |false,h,it,a,i=>h.IsTupleIter it a i
theorem cD.extBut {b:Bool}{h h':Heap}{a c:Addr}{its:Array Value}(x:cD b h a its)(hs:Heap.ExtBut c h h')(n:a≠c):cD b h' a its:=by
 cases b<;>(obtain ⟨o,ho,r⟩:=x;exact ⟨o,hs a o n ho,r⟩)
theorem dn.extBut {b:Bool}{h h':Heap}{it a c:Addr}{i:Nat}(x:dn b h it a i)(hs:Heap.ExtBut c h h')(n:it≠c):dn b h' it a i:=by
 cases b<;>(obtain ⟨o,ho,r⟩:=x;exact ⟨o,hs it o n ho,r⟩)
theorem dn.at {b:Bool}{h h':Heap}{it a:Addr}{i:Nat}(x:dn b h it a i)(k:∀o,h.get? it=some o->h'.get? it=some o):dn b h' it a i:=by
 cases b<;>(obtain ⟨o,ho,r⟩:=x;exact ⟨o,k o ho,r⟩)
theorem dn.obj {b:Bool}{h:Heap}{it a:Addr}{i:Nat}(x:dn b h it a i):∃o,h.get? it=some o/\∀v,o.data≠.cell v:=by
 cases b<;>(obtain ⟨o,ho,c,d⟩:=x;exact ⟨o,ho,fun v z=>by rw [d] at z;cases z⟩)
section
variable {prog:Program}{w:World}{A:Around}{E:Value->Shared->Prop}{s:Shared}
theorem cp {a b:Nat}(h:a≠b):@Ne Addr a b:=h
theorem uw {T:Addr}{its:Array Value}{k:Nat}{x:Value}{Q:Unit->Shared->Prop}(hT:s.heap.get? T=some {cls:=.type "tuple",data:=.seq its})(hz:its.size<=64)
 (h:∀h',h'.get? T=some {cls:=.type "tuple",data:=.seq (its.setIfInBounds k x)}->Heap.SameBut T s.heap h'->Q () {s with heap:=h'}) :
 wpAny (model prog w) A (updateSeq T (·.setIfInBounds k x)) Q E s:=by
 refine wpAny_updateSeq hT rfl (h _ ?_ (Heap.SameBut.update ..)) (tqh hz (by decide)) (by rw [Array.size_setIfInBounds];exact tqh hz (by decide))
 rw [tqm _ hT rfl]
 simp [Obj.mapSeq]
theorem lQ {b:Bool}{it a:Addr}{i:Nat}{its:Array Value}{x:Value}{Q:Value->Shared->Prop}(hit:dn b s.heap it a i)(hl:cD b s.heap a its)(hx:its[i]?=some x)
 (hQ:∀h',dn b h' it a (i+1)->Heap.SameBut it s.heap h'->Q x {s with heap:=h'}):wpAny (model prog w) A (Builtin.SmallTypes.nextOf (.ref it)) Q E s:=by
 cases b with
 |true=>exact wpAny_nextOf_list_item hit hl hx hQ
 | false =>
   have hit:s.heap.IsTupleIter it a i:=hit
   obtain ⟨o,ho,hc,hd⟩:=id hit
   obtain ⟨ol,hol,_,nl,hdl⟩:=hl
   unfold Builtin.SmallTypes.nextOf
   refine tqa (wpAny_callSpecial?_slot (name:=Str.ofString "__next__") hit.typeIs F.slot_tuple_iterator_next
    (wpAny_call_entry F.slot_tuple_iterator_next hit.typeIs F.entry_tuple_iterator_next ?_ (F.args_tuple_iterator_next_1 _)))
   show wpAny _ _ (field (.ref it) 0 >>= _) _ _ s
   refine tqa (tqf ho hd (x:=.ref a) rfl ?_)
   show wpAny _ _ (if (Value.ref a==Value.none)=true then _ else _) _ _ s
   rw [if_neg (show ¬ ((Value.ref a==Value.none)=true) from tqj)]
   show wpAny _ _ (field (.ref it) 1 >>= _) _ _ s
   refine tqa (tqf ho hd (x:=.int i 0) rfl ?_)
   show wpAny _ _ (seqItems? (.ref a) >>= _) _ _ s
   refine tqa (wpAny_seqItems hol hdl ?_)
   simp only [Int.toNat_natCast,hx]
   refine tqa (wpAny_setField ho hd (by simp) (tqb ⟨x,rfl,tqb (hQ _ ?_ (Heap.SameBut.update ..))⟩))
   exact ⟨_,tqm _ ho (Obj.isFreed_of_fields (Obj.data_mapFields hd _)),(Obj.cls_mapFields ..).trans hc,by
    rw [Obj.data_mapFields hd];simp [rawInt]⟩
theorem qF {b:Bool}{it a:Addr}{i:Nat}{its:Array Value}{Q:Value->Shared->Prop}(hh:A.handled=none)(hit:dn b s.heap it a i)(hl:cD b s.heap a its)(hx:its[i]?=none)
 (hE:∀h' e,Heap.ExtBut it s.heap h'->(∃o,h'.get? e=some o/\o.cls=.type "StopIteration")->E (.ref e) {s with heap:=h'}):wpAny (model prog w) A (Builtin.SmallTypes.nextOf (.ref it)) Q E s:=by
 cases b with
 |true=>exact wpAny_nextOf_list_end hh hit hl hx hE
 | false =>
   have hit:s.heap.IsTupleIter it a i:=hit
   obtain ⟨o,ho,hc,hd⟩:=id hit
   obtain ⟨ol,hol,_,nl,hdl⟩:=hl
   unfold Builtin.SmallTypes.nextOf
   refine tqa (wpAny_callSpecial?_slot (name:=Str.ofString "__next__") hit.typeIs F.slot_tuple_iterator_next
    (wpAny_call_entry F.slot_tuple_iterator_next hit.typeIs F.entry_tuple_iterator_next ?_ (F.args_tuple_iterator_next_1 _)))
   show wpAny _ _ (field (.ref it) 0 >>= _) _ _ s
   refine tqa (tqf ho hd (x:=.ref a) rfl ?_)
   show wpAny _ _ (if (Value.ref a==Value.none)=true then _ else _) _ _ s
   rw [if_neg (show ¬ ((Value.ref a==Value.none)=true) from tqj)]
   show wpAny _ _ (field (.ref it) 1 >>= _) _ _ s
   refine tqa (tqf ho hd (x:=.int i 0) rfl ?_)
   show wpAny _ _ (seqItems? (.ref a) >>= _) _ _ s
   refine tqa (wpAny_seqItems hol hdl ?_)
   simp only [Int.toNat_natCast,hx]
   refine tqa (wpAny_rule (tqa (wpAny_setField ho hd (by simp) ?_)))
   show wpAny _ _ (newExc (.type "StopIteration") [] >>= _) _ _ _
   refine tqa ?_
   simp only [newExc,newTuple]
   refine tqa (wpAny_newObj_type ?_ (by size_fits))
   refine tqa (m:=firstArgMember _ _) (wpAny_of_eq (a:=Value.none) (by first|rfl|(simp only [firstArgMember];rfl)) ?_)
   refine wpAny_newObj_type ?_ (by size_fits)
   simp only [raiseNew]
   refine tqa (wpAny_handled ?_)
   first|rw [show A.in1.handled=none from hh]|rw [hh]
   refine tqa (tqb (wpAny_throw ?_))
   exact hE _ _ (((Heap.SameBut.update ..).extBut.push _).push _) ⟨_,tqe _ rfl,rfl⟩
theorem y9 {n i:Nat}{a0 a1:Nat}{b0 b1:Bool}{xs0 xs1:Array Value}{x0 x1 u0 u1:Value}{Q:Value->Shared->Prop}(hn:a0<n/\a1<n)
 (hz:IsZip s.heap (n+4) (n+2) (n+3) .none) (hTI:s.heap.get? (n+2)=some {cls:=.type "tuple",data:=.seq #[.ref n,.ref (n+1)]}) (hTO:s.heap.get? (n+3)=some {cls:=.type "tuple",data:=.seq #[u0,u1]})
 (i0:dn b0 s.heap n a0 i) (i1:dn b1 s.heap (n+1) a1 i) (q0:cD b0 s.heap a0 xs0) (q1:cD b1 s.heap a1 xs1)
 (e0:xs0[i]?=some x0) (e1:xs1[i]?=some x1)
 (hQ:∀h',IsZip h' (n+4) (n+2) (n+3) (rawInt s.heap.objs.size)->h'.get? (n+3)=some {cls:=.type "tuple",data:=.seq #[x0,x1]}->dn b0 h' n a0 (i+1)->dn b1 h' (n+1) a1 (i+1)->h'.get? s.heap.objs.size=some {cls:=.type "tuple",data:=.seq #[x0,x1]}->h'.objs.size=s.heap.objs.size+1->
  (∀c o,c∉[n,(n+1),(n+3),(n+4)]->s.heap.get? c=some o->h'.get? c=some o)->Q (.ref s.heap.objs.size) {s with heap:=h'}) :
 wpAny (model prog w) A (Builtin.«zip.__next__» ⟨[.ref (n+4)],[]⟩) (fun fin s'=>∃v,fin=.done (.ret v)/\Q v s') E s:=by
 obtain ⟨l0,l1⟩:=hn
 show wpAny _ _ (field (.ref (n+4)) 2 >>= _) _ _ _
 refine tqa (tqf hz rfl (x:=.bool false) rfl ?_)
 show wpAny _ _ (field (.ref (n+4)) 3 >>= _) _ _ _
 refine tqa (tqf hz rfl (x:=.ref (n+2)) rfl ?_)
 refine tqa (wpAny_seqItems hTI rfl ?_)
 show wpAny _ _ (Builtin.SmallTypes.ownedTupleIsFree (.ref (n+4)) >>= _) _ _ _
 refine tqa ?_
 unfold Builtin.SmallTypes.ownedTupleIsFree
 refine tqa (tqf hz rfl (x:=.none) rfl (tqb ?_))
 simp only [if_true]
 refine tqa (wpAny_rule ?_)
 refine tqa (tqf hz rfl (x:=.ref (n+3)) rfl ?_)
 refine tqa (wpAny_setField_rec hz (by simp) fun h0 hz0 hs0=>?_)
 replace hz0:IsZip h0 (n+4) (n+2) (n+3) .ellipsis:=hz0
 have k0:∀c o,c∉[n,(n+1),(n+3),(n+4)]->s.heap.get? c=some o->h0.get? c=some o:=fun c o hc e=>hs0.extBut _ _ (fun z=>hc (by rw [z];simp)) e
 have hTO0:h0.get? (n+3)=some {cls:=.type "tuple",data:=.seq #[u0,u1]}:=hs0.extBut _ _ (cp (by omega)) hTO
 have hsz0:h0.objs.size=s.heap.objs.size:=hs0.1
 refine tqa ?_
 simp only [List.zipIdx_cons,List.zipIdx_nil,List.forIn_cons,List.forIn_nil]
 have j0_0:dn b0 h0 n a0 i:=i0.extBut hs0.extBut (cp (by omega))
 have p0_0:cD b0 h0 a0 xs0:=q0.extBut hs0.extBut (cp (by omega))
 have j1_0:dn b1 h0 (n+1) a1 i:=i1.extBut hs0.extBut (cp (by omega))
 have p1_0:cD b1 h0 a1 xs1:=q1.extBut hs0.extBut (cp (by omega))
 refine tqa (tqa (wpAny_onRaise ?_))
 show wpAny _ _ (Builtin.SmallTypes.nextOf (.ref n) >>= _) _ _ _
 refine tqa (lQ j0_0 p0_0 e0 fun h1 j0_1 hs1=>tqb ?_)
 have hTO1:h1.get? (n+3)=some {cls:=.type "tuple",data:=.seq #[u0,u1]}:=hs1.extBut _ _ (cp (by omega)) hTO0
 refine tqa (wpAny_seqItems hTO1 rfl ?_)
 refine tqa (uw hTO1 (by simp) fun h2 hTO2 hs2=>?_)
 replace hTO2:h2.get? (n+3)=some {cls:=.type "tuple",data:=.seq #[x0,u1]}:=hTO2
 have hz2:IsZip h2 (n+4) (n+2) (n+3) .ellipsis:=hs2.extBut _ _ (cp (by omega)) (hs1.extBut _ _ (cp (by omega)) hz0)
 have k2:∀c o,c∉[n,(n+1),(n+3),(n+4)]->s.heap.get? c=some o->h2.get? c=some o:=fun c o hc e=>hs2.extBut _ _ (fun z=>hc (by rw [z];simp)) (hs1.extBut _ _ (fun z=>hc (by rw [z];simp)) (k0 c o hc e))
 have hsz2:h2.objs.size=s.heap.objs.size:=by rw [hs2.1,hs1.1,hsz0]
 have j0_2:dn b0 h2 n a0 (i+1):=j0_1.extBut hs2.extBut (cp (by omega))
 have p0_2:cD b0 h2 a0 xs0:=(p0_0.extBut hs1.extBut (cp (by omega))).extBut hs2.extBut (cp (by omega))
 have j1_2:dn b1 h2 (n+1) a1 i:=(j1_0.extBut hs1.extBut (cp (by omega))).extBut hs2.extBut (cp (by omega))
 have p1_2:cD b1 h2 a1 xs1:=(p1_0.extBut hs1.extBut (cp (by omega))).extBut hs2.extBut (cp (by omega))
 refine tqa (wpAny_letGo (tqb ?_))
 refine tqa (tqa (wpAny_onRaise ?_))
 show wpAny _ _ (Builtin.SmallTypes.nextOf (.ref (n+1)) >>= _) _ _ _
 refine tqa (lQ j1_2 p1_2 e1 fun h3 j1_3 hs3=>tqb ?_)
 have hTO3:h3.get? (n+3)=some {cls:=.type "tuple",data:=.seq #[x0,u1]}:=hs3.extBut _ _ (cp (by omega)) hTO2
 refine tqa (wpAny_seqItems hTO3 rfl ?_)
 refine tqa (uw hTO3 (by simp) fun h4 hTO4 hs4=>?_)
 replace hTO4:h4.get? (n+3)=some {cls:=.type "tuple",data:=.seq #[x0,x1]}:=hTO4
 have hz4:IsZip h4 (n+4) (n+2) (n+3) .ellipsis:=hs4.extBut _ _ (cp (by omega)) (hs3.extBut _ _ (cp (by omega)) hz2)
 have k4:∀c o,c∉[n,(n+1),(n+3),(n+4)]->s.heap.get? c=some o->h4.get? c=some o:=fun c o hc e=>hs4.extBut _ _ (fun z=>hc (by rw [z];simp)) (hs3.extBut _ _ (fun z=>hc (by rw [z];simp)) (k2 c o hc e))
 have hsz4:h4.objs.size=s.heap.objs.size:=by rw [hs4.1,hs3.1,hsz2]
 have j0_4:dn b0 h4 n a0 (i+1):=(j0_2.extBut hs3.extBut (cp (by omega))).extBut hs4.extBut (cp (by omega))
 have p0_4:cD b0 h4 a0 xs0:=(p0_2.extBut hs3.extBut (cp (by omega))).extBut hs4.extBut (cp (by omega))
 have j1_4:dn b1 h4 (n+1) a1 (i+1):=j1_3.extBut hs4.extBut (cp (by omega))
 have p1_4:cD b1 h4 a1 xs1:=(p1_2.extBut hs3.extBut (cp (by omega))).extBut hs4.extBut (cp (by omega))
 refine tqa (wpAny_letGo (tqb (tqb ?_)))
 refine tqa (wpAny_seqItems hTO4 rfl ?_)
 refine tqa (wpAny_newTuple ?_)
 have hzlt:(n+4)<h4.objs.size:=tqd hz4
 show wpAny _ _ (Builtin.SmallTypes.ownedTupleHandOut (.ref (n+4)) (.ref h4.objs.size) >>= _) _ _ _
 refine tqa ?_
 unfold Builtin.SmallTypes.ownedTupleHandOut
 have hz6:IsZip (h4.push {cls:=.type "tuple",data:=.seq #[x0,x1]}) (n+4) (n+2) (n+3) .ellipsis:=tqc _ hz4
 refine tqa (wpAny_setField_rec hz6 (by simp) fun h7 hz7 hs7=>?_)
 replace hz7:IsZip h7 (n+4) (n+2) (n+3) (rawInt h4.objs.size):=hz7
 refine wpAny_setField_rec hz7 (by simp) fun h8 hz8 hs8=>?_
 replace hz8:IsZip h8 (n+4) (n+2) (n+3) (rawInt h4.objs.size):=hz8
 have up:∀c o,c≠(n+4)->h4.get? c=some o->h8.get? c=some o:=fun c o c1 e=>hs8.extBut _ _ c1 (hs7.extBut _ _ c1 (tqc _ e))
 have hT8:h8.get? h4.objs.size=some {cls:=.type "tuple",data:=.seq #[x0,x1]}:=hs8.extBut _ _ (Nat.ne_of_gt hzlt) (hs7.extBut _ _ (Nat.ne_of_gt hzlt) (tqe _ rfl))
 have hzz:h8.objs.size=h4.objs.size+1:=by rw [hs8.1,hs7.1,Heap.size_push]
 rw [hsz4] at hz8 hT8 hzz
 refine tqb ⟨_,rfl,?_⟩
 show Q (.ref h4.objs.size) _
 rw [hsz4]
 exact hQ h8 hz8 (up _ _ (cp (by omega)) hTO4) (j0_4.at fun o e=>up _ o (cp (by omega)) e) (j1_4.at fun o e=>up _ o (cp (by omega)) e) hT8 hzz fun c o hc e=>up c o (fun z=>hc (by rw [z];simp)) (k4 c o hc e)
theorem Ba {n i:Nat}{a0 a1:Nat}{b0 b1:Bool}{xs0 xs1:Array Value}{u0 u1:Value}{Q:Fin->Shared->Prop}(hh:A.handled=none)(hn:a0<n/\a1<n)
 (hz:IsZip s.heap (n+4) (n+2) (n+3) .none) (hTI:s.heap.get? (n+2)=some {cls:=.type "tuple",data:=.seq #[.ref n,.ref (n+1)]}) (hTO:s.heap.get? (n+3)=some {cls:=.type "tuple",data:=.seq #[u0,u1]})
 (i0:dn b0 s.heap n a0 i) (i1:dn b1 s.heap (n+1) a1 i) (q0:cD b0 s.heap a0 xs0) (q1:cD b1 s.heap a1 xs1)
 (hend:xs0[i]?=none\/xs1[i]?=none)
 (hE:∀h' e,(∀c o,c∉[n,(n+1),(n+3),(n+4)]->s.heap.get? c=some o->h'.get? c=some o)->(∃o,h'.get? e=some o/\o.cls=.type "StopIteration")->E (.ref e) {s with heap:=h'}) :
 wpAny (model prog w) A (Builtin.«zip.__next__» ⟨[.ref (n+4)],[]⟩) Q E s:=by
 obtain ⟨l0,l1⟩:=hn
 show wpAny _ _ (field (.ref (n+4)) 2 >>= _) _ _ _
 refine tqa (tqf hz rfl (x:=.bool false) rfl ?_)
 show wpAny _ _ (field (.ref (n+4)) 3 >>= _) _ _ _
 refine tqa (tqf hz rfl (x:=.ref (n+2)) rfl ?_)
 refine tqa (wpAny_seqItems hTI rfl ?_)
 show wpAny _ _ (Builtin.SmallTypes.ownedTupleIsFree (.ref (n+4)) >>= _) _ _ _
 refine tqa ?_
 unfold Builtin.SmallTypes.ownedTupleIsFree
 refine tqa (tqf hz rfl (x:=.none) rfl (tqb ?_))
 simp only [if_true]
 refine tqa (wpAny_rule ?_)
 refine tqa (tqf hz rfl (x:=.ref (n+3)) rfl ?_)
 refine tqa (wpAny_setField_rec hz (by simp) fun h0 hz0 hs0=>?_)
 replace hz0:IsZip h0 (n+4) (n+2) (n+3) .ellipsis:=hz0
 have k0:∀c o,c∉[n,(n+1),(n+3),(n+4)]->s.heap.get? c=some o->h0.get? c=some o:=fun c o hc e=>hs0.extBut _ _ (fun z=>hc (by rw [z];simp)) e
 have hTO0:h0.get? (n+3)=some {cls:=.type "tuple",data:=.seq #[u0,u1]}:=hs0.extBut _ _ (cp (by omega)) hTO
 refine tqa ?_
 simp only [List.zipIdx_cons,List.zipIdx_nil,List.forIn_cons,List.forIn_nil]
 have j0_0:dn b0 h0 n a0 i:=i0.extBut hs0.extBut (cp (by omega))
 have p0_0:cD b0 h0 a0 xs0:=q0.extBut hs0.extBut (cp (by omega))
 have j1_0:dn b1 h0 (n+1) a1 i:=i1.extBut hs0.extBut (cp (by omega))
 have p1_0:cD b1 h0 a1 xs1:=q1.extBut hs0.extBut (cp (by omega))
 refine tqa (tqa (wpAny_onRaise ?_))
 show wpAny _ _ (Builtin.SmallTypes.nextOf (.ref n) >>= _) _ _ _
 cases e0:xs0[i]? with
 | none =>
   refine tqa (qF hh j0_0 p0_0 e0 fun h1 e hs1 he=>?_)
   obtain ⟨oe,hoe,hce⟩:=he
   have hz1:IsZip h1 (n+4) (n+2) (n+3) .ellipsis:=hs1 _ _ (cp (by omega)) hz0
   have hez:e≠(n+4):=fun x=>by subst x;rw [hz1] at hoe;cases hoe;simp at hce
   exact wpAny_setField_rec hz1 (by simp) fun h2 _ hs2=>hE h2 e (fun c o hc x=>hs2.extBut _ _ (fun z=>hc (by rw [z];simp)) (hs1 _ _ (fun z=>hc (by rw [z];simp)) (k0 c o hc x))) ⟨oe,hs2.extBut _ _ hez hoe,hce⟩
 | some x0 =>
   refine tqa (lQ j0_0 p0_0 e0 fun h1 j0_1 hs1=>tqb ?_)
   have hTO1:h1.get? (n+3)=some {cls:=.type "tuple",data:=.seq #[u0,u1]}:=hs1.extBut _ _ (cp (by omega)) hTO0
   refine tqa (wpAny_seqItems hTO1 rfl ?_)
   refine tqa (uw hTO1 (by simp) fun h2 hTO2 hs2=>?_)
   replace hTO2:h2.get? (n+3)=some {cls:=.type "tuple",data:=.seq #[x0,u1]}:=hTO2
   have hz2:IsZip h2 (n+4) (n+2) (n+3) .ellipsis:=hs2.extBut _ _ (cp (by omega)) (hs1.extBut _ _ (cp (by omega)) hz0)
   have k2:∀c o,c∉[n,(n+1),(n+3),(n+4)]->s.heap.get? c=some o->h2.get? c=some o:=fun c o hc e=>hs2.extBut _ _ (fun z=>hc (by rw [z];simp)) (hs1.extBut _ _ (fun z=>hc (by rw [z];simp)) (k0 c o hc e))
   have j1_2:dn b1 h2 (n+1) a1 i:=(j1_0.extBut hs1.extBut (cp (by omega))).extBut hs2.extBut (cp (by omega))
   have p1_2:cD b1 h2 a1 xs1:=(p1_0.extBut hs1.extBut (cp (by omega))).extBut hs2.extBut (cp (by omega))
   refine tqa (wpAny_letGo (tqb ?_))
   refine tqa (tqa (wpAny_onRaise ?_))
   show wpAny _ _ (Builtin.SmallTypes.nextOf (.ref (n+1)) >>= _) _ _ _
   cases e1:xs1[i]? with
   | none =>
     refine tqa (qF hh j1_2 p1_2 e1 fun h3 e hs3 he=>?_)
     obtain ⟨oe,hoe,hce⟩:=he
     have hz3:IsZip h3 (n+4) (n+2) (n+3) .ellipsis:=hs3 _ _ (cp (by omega)) hz2
     have hez:e≠(n+4):=fun x=>by subst x;rw [hz3] at hoe;cases hoe;simp at hce
     exact wpAny_setField_rec hz3 (by simp) fun h4 _ hs4=>hE h4 e (fun c o hc x=>hs4.extBut _ _ (fun z=>hc (by rw [z];simp)) (hs3 _ _ (fun z=>hc (by rw [z];simp)) (k2 c o hc x))) ⟨oe,hs4.extBut _ _ hez hoe,hce⟩
   | some x1 =>
     exfalso
     rcases hend with h|h
     ·rw [e0] at h;cases h
     ·rw [e1] at h;cases h
end
end LD
namespace LD
open PySem PySem.Spec PyProof.Rows L2
def pd (K:PySem.W.Frag)(H:Hp):Bool->Addr->List V->Prop
 |true,a,xs=>dA K H a xs
 |false,a,xs=>eD K H a xs
def jH:D->Bool
 |.tup _=>false
 |_=>true
def ig:D->Bool
 |.tup _=>true
 |.lst _=>true
 |.frz _=>true
 |.cell _=>true
 |_=>false
theorem l7 {X:Cx}{pins:List (Addr×Obj)}{σ:L2.St}{H:Hp}{s:Shared}{b:Bool}{a:Addr}{xs:List V}(I:Inv X pins σ H s)(h:pd X.K H b a xs):∃its:List Value,Vals xs its/\cD b s.heap a its.toArray:=by
 cases b with
 |true=>obtain ⟨its,r,p,_⟩:=I.list h;exact ⟨its,r,p.isList⟩
 |false=>obtain ⟨its,r,p,_⟩:=I.tuple h;exact ⟨its,r,p⟩
theorem uS {X:Cx}{pins:List (Addr×Obj)}{σ:L2.St}{H:Hp}{s:Shared}{b:Bool}{a:Addr}{xs ys:List V}(I:Inv X pins σ H s)(h:pd X.K H b a xs)(h':pd X.K H b a ys):xs=ys:=by
 cases b with
 |true=>exact I.list_inj h h'
 |false=>exact I.tuple_inj h h'
theorem pD {fa:Fa}{X:Cx}{μ:Mu}{H:Hp}{M:Mem}{d:D}{a:Addr}{ds:List D}(hM:RelM fa X.K μ H M)(h:Rep fa X.K μ H d (.ref a))(e:de M d=some ds):∃vs,pd X.K H (jH d) a vs/\bf fa X.K μ H ds vs:=by
 cases d with
 |tup xs=>cases e;obtain ⟨a',vs,e,s,r⟩:=h;cases e;exact ⟨vs,s,r⟩
 |lst xs=>obtain ⟨a',vs,e',s,r⟩:=cw hM h (show gW M (.lst xs)=some ds from e);cases e';exact ⟨vs,s,r⟩
 |frz xs=>obtain ⟨a',vs,e',s,r⟩:=cw hM h (show gW M (.frz xs)=some ds from e);cases e';exact ⟨vs,s,r⟩
 |cell k=>obtain ⟨a',vs,e',s,r⟩:=cw hM h (show gW M (.cell k)=some ds from e);cases e';exact ⟨vs,s,r⟩
 |_=>cases e
theorem uR {fa:Fa}{X:Cx}{pins:List (Addr×Obj)}{σ:L2.St}{μ:Mu}{H:Hp}{s:Shared}{M:Mem}{d:D}{v:V}(I:Inv X pins σ H s)(hM:RelM fa X.K μ H M)(h:Rep fa X.K μ H d v)(e:ig d=true):∃(a:Nat) (its:Array Value),v=.ref a/\cD (jH d) s.heap a its:=by
 have key:∀ds,de M d=some ds->∃(a:Nat) (its:Array Value),v=.ref a/\cD (jH d) s.heap a its:=fun ds z=>by
  obtain ⟨a,vs,rfl,_,_⟩:=kZ hM h z
  obtain ⟨vs,s1,_⟩:=pD hM h z
  obtain ⟨its,_,p⟩:=l7 I s1
  exact ⟨a,its.toArray,rfl,p⟩
 cases d with
 |tup xs=>exact key xs rfl
 |lst xs=>exact key xs rfl
 |frz xs=>exact key xs rfl
 | cell k =>
   obtain ⟨a,e,hk⟩:=id h
   obtain ⟨ds,_,z,_⟩:=hM.mu_lt hk
   exact key ds z
 |_=>cases e
theorem cD.lt {b:Bool}{h:Heap}{a:Addr}{its:Array Value}(x:cD b h a its):a<h.objs.size:=by
 cases b<;>(obtain ⟨o,ho,r⟩:=x;exact tqd ho)
theorem cD.push {b:Bool}{h:Heap}{a:Addr}{its:Array Value}(x:cD b h a its)(ob:Obj):cD b (h.push ob) a its:=by
 cases b<;>(obtain ⟨o,ho,r⟩:=x;exact ⟨o,tqc _ ho,r⟩)
def ue (b:Bool)(a:Addr):Obj:={cls:=.type (if b then "list_iterator" else "tuple_iterator"),data:=.fields #[.ref a,.int 0 0]}
theorem dn.new {b:Bool}{h:Heap}{it a:Addr}(e:h.get? it=some (ue b a)):dn b h it a 0:=by
 cases b<;>exact ⟨_,e,rfl,rfl⟩
theorem qj {prog:Program}{w:World}{A:Around}{E:Value->Shared->Prop}{s:Shared}{b:Bool}{a:Addr}{its:Array Value}{Q:Value->Shared->Prop}(h:cD b s.heap a its)(hQ:Q (.ref s.heap.objs.size) {s with heap:=s.heap.push (ue b a)}):wpAny (model prog w) A (pyIter (.ref a)) Q E s:=by
 cases b with
 |true=>exact wpAny_pyIter_list h hQ
 |false=>exact wpAny_pyIter_tuple h hQ
def IW (K:PySem.W.Frag)(b0:Bool)(a0:Nat)(b1:Bool)(a1:Nat):It:=
 ⟨fun i H => (∃ xs x, pd K H b0 a0 xs /\ xs[i]? = some x) /\ (∃ xs x, pd K H b1 a1 xs /\ xs[i]? = some x),
  fun i H v H'=>∃p x0 x1,H p=none/\v=.ref p/\H'=upd H p (.tup [x0,x1])/\(∀xs,pd K H b0 a0 xs->xs[i]?=some x0)/\(∀xs,pd K H b1 a1 xs->xs[i]?=some x1),
  fun i H=>∃xs0 xs1,pd K H b0 a0 xs0/\pd K H b1 a1 xs1/\(xs0.length<=i\/xs1.length<=i)⟩
def n8 (n:Nat)(b0:Bool)(a0:Nat)(b1:Bool)(a1:Nat)(i:Nat)(h:Heap)(f0:Value):Prop:=IsZip h (n+4) (n+2) (n+3) f0/\h.get? (n+2)=some {cls:=.type "tuple",data:=.seq #[.ref n,.ref (n+1)]}/\(∃u0 u1,h.get? (n+3)=some {cls:=.type "tuple",data:=.seq #[u0,u1]})/\dn b0 h n a0 i/\dn b1 h (n+1) a1 i
theorem n8.keep {n i:Nat}{a0 a1:Nat}{b0 b1:Bool}{h h':Heap}{f0:Value}(x:n8 n b0 a0 b1 a1 i h f0)(k:∀b∈[(n+4),n,(n+1),(n+2),(n+3)],∀o,h.get? b=some o->h'.get? b=some o):n8 n b0 a0 b1 a1 i h' f0:=by
 obtain ⟨h1,h2,⟨u0,u1,h3⟩,j0,j1⟩:=x
 exact ⟨k _ (by simp) _ h1,k _ (by simp) _ h2,⟨u0,u1,k _ (by simp) _ h3⟩,j0.at fun o e=>k _ (by simp) o e,j1.at fun o e=>k _ (by simp) o e⟩
theorem zk {P:Program}{w:World}{K:PySem.W.Frag}{elts:List Expr}{kk:Nat}{pos:Pos}(n:Nat)(b0:Bool)(a0:Nat)(b1:Bool)(a1:Nat)(hn:a0<n/\a1<n) :
 Turn P w K (.Tuple elts kk pos) (IW K b0 a0 b1 a1) [(n+4),n,(n+1),(n+2),(n+3)] (n+4) (fun i h=>n8 n b0 a0 b1 a1 i h .none) where
 mem:=by simp
 obj:=fun i h ⟨h1,h2,⟨u0,u1,h3⟩,j0,j1⟩ b hb=>by
  simp only [List.mem_cons,List.not_mem_nil,or_false] at hb
  rcases hb with z|z|z|z|z
  ·subst z;exact ⟨_,h1,fun v z=>by cases z⟩
  ·subst z;exact j0.obj
  ·subst z;exact j1.obj
  ·subst z;exact ⟨_,h2,fun v z=>by cases z⟩
  ·subst z;exact ⟨_,h3,fun v z=>by cases z⟩
 keep:=fun i h h' st k=>st.keep k
 item:=by
  intro X hP hw hK hc i pins s σ H E I hf st hg
  subst hP hw hK
  obtain ⟨⟨xs0,x0,hq0,hx0⟩,⟨xs1,x1,hq1,hx1⟩⟩:=hg
  obtain ⟨h1,h2,⟨u0,u1,h3⟩,j0,j1⟩:=st
  obtain ⟨its0,rv0,p0⟩:=l7 I hq0
  obtain ⟨w0,hw0,rw0⟩:=rv0.get hx0
  obtain ⟨its1,rv1,p1⟩:=l7 I hq1
  obtain ⟨w1,hw1,rw1⟩:=rv1.get hx1
  have hT:s.TypeIs (.ref (n+4)) "zip":=⟨_,h1,rfl⟩
  unfold pyNext
  refine tqa (wpAny_attempt (wpAny_callSpecial?_slot (name:=Str.ofString "__next__") hT F.slot_zip_next
   (wpAny_call_entry F.slot_zip_next hT F.entry_zip_next
    (y9 (E:=_) hn h1 h2 h3 j0 j1 p0 p1 (x0:=w0) (by simpa using hw0) (x1:=w1) (by simpa using hw1) fun h4 z1 z2 g0 g1 hTT hsz hk=>tqb ⟨_,rfl,?_⟩) (F.args_zip_next_1 _))))
  have hT0:H s.heap.objs.size=none:=I.hok.fresh (tqg _)
  have zlt:(n+4)<s.heap.objs.size:=tqd h1
  refine wpAny_letOwnedTupleGo_zip (s:={s with heap:=h4}) z1 fun h5 hz5 hs5=>?_
  have hT5:h5.get? s.heap.objs.size=some {cls:=.type "tuple",data:=.seq #[w0,w1]}:=(hs5.2 _ (Nat.ne_of_gt zlt)).trans hTT
  refine ⟨.ref s.heap.objs.size,upd H s.heap.objs.size (.tup [x0,x1]),sD (s:=s) (t':=s.toks) I hf (fun b o hb q=>(hs5.2 b (fun z=>hb (by rw [z];simp))).trans (hk b o (fun z=>hb (by simp only [List.mem_cons,List.not_mem_nil,or_false] at z ⊢;rcases z with z|z|z|z<;>simp [z])) q)) (tqg _) ⟨?_,[w0,w1],.cons rw0 (.cons rw1 (.nil)),⟨_,hT5,rfl,_,rfl⟩⟩,rfl,
   ⟨_,x0,x1,hT0,rfl,rfl,fun ys hy=>by rw [uS I hy hq0];exact hx0,fun ys hy=>by rw [uS I hy hq1];exact hx1⟩,⟨hz5,hs5.extBut _ _ (cp (by omega)) (hk _ _ (by simp) h2),⟨w0,w1,hs5.extBut _ _ (cp (by omega)) z2⟩,g0.extBut hs5.extBut (cp (by omega)),g1.extBut hs5.extBut (cp (by omega))⟩,fun b hb=>?_⟩
  ·show 2<=sizeLine;decide
  ·have:b<s.heap.objs.size:=by
    have zl:(n+4)<s.heap.objs.size:=zlt
    simp only [List.mem_cons,List.not_mem_nil,or_false] at hb
    rcases hb with z|z|z|z|z<;>(rw [z];(first|exact zl|exact Nat.lt_trans (by omega) zl))
   rw [aX (tqk this)];exact (hf b hb).1
 done:=by
  intro X hP hw hK hc i pins s σ H E I hf st hg
  subst hP hw hK
  obtain ⟨xs0,xs1,hq0,hq1,hend⟩:=hg
  obtain ⟨h1,h2,⟨u0,u1,h3⟩,j0,j1⟩:=st
  obtain ⟨its0,rv0,p0⟩:=l7 I hq0
  have hl0:=rv0.length
  obtain ⟨its1,rv1,p1⟩:=l7 I hq1
  have hl1:=rv1.length
  have hT:s.TypeIs (.ref (n+4)) "zip":=⟨_,h1,rfl⟩
  unfold pyNext
  refine tqa (wpAny_attempt (wpAny_callSpecial?_slot (name:=Str.ofString "__next__") hT F.slot_zip_next
   (wpAny_call_entry F.slot_zip_next hT F.entry_zip_next (Ba (I.ok.hd hc) hn h1 h2 h3 j0 j1 p0 p1 (by
    rcases hend with z|z
    ·exact .inl (by simp;omega)
    ·exact .inr (by simp;omega)
    ) fun h' e hk he=>?_) (F.args_zip_next_1 _))))
  obtain ⟨o,ho,hcl⟩:=he
  refine tqa (wpAny_isInstance (T:="StopIteration") (b:=true) ⟨o,ho,hcl⟩ isSubtype_stop ?_)
  exact tqb ⟨rfl,wF (s:=s) I hf (t':=s.toks) fun b o hb q=>hk b o (fun z=>hb (by simp only [List.mem_cons,List.not_mem_nil,or_false] at z ⊢;rcases z with z|z|z|z<;>simp [z])) q⟩
 self:=fun _ _ _ _ _ st h=>wpAny_pyIter_zip st.1 h
abbrev pY (h:Heap)(b0:Bool)(a0:Nat)(b1:Bool)(a1:Nat):Heap:=h.push (ue b0 a0)
abbrev tY (h:Heap)(b0:Bool)(a0:Nat)(b1:Bool)(a1:Nat):Heap:=(pY h b0 a0 b1 a1).push (ue b1 a1)
abbrev tX (h:Heap)(b0:Bool)(a0:Nat)(b1:Bool)(a1:Nat):Heap:=(tY h b0 a0 b1 a1).push {cls:=.type "tuple",data:=.seq #[.ref h.objs.size,.ref (pY h b0 a0 b1 a1).objs.size]}
abbrev tW (h:Heap)(b0:Bool)(a0:Nat)(b1:Bool)(a1:Nat):Heap:=(tX h b0 a0 b1 a1).push {cls:=.type "tuple",data:=.seq #[.none,.none]}
abbrev my (h:Heap)(b0:Bool)(a0:Nat)(b1:Bool)(a1:Nat):Heap:=(tW h b0 a0 b1 a1).push {cls:=.type "zip",data:=.fields #[.none,.bool false,.bool false,.ref (tY h b0 a0 b1 a1).objs.size,.ref (tX h b0 a0 b1 a1).objs.size]}
theorem yu (b0:Bool)(a0:Nat)(b1:Bool)(a1:Nat)(xs0 xs1:Array Value) :
 Meets (Builtin.«zip.__new__» ⟨[.type "zip",.ref a0,.ref a1],[]⟩) (fun _ R s=>cD b0 s.heap a0 xs0/\cD b1 s.heap a1 xs1/\
  R (.ok (.ret (.ref (tW s.heap b0 a0 b1 a1).objs.size))) {s with heap:=my s.heap b0 a0 b1 a1}):=
 .of_wp fun prog w A R s h=>by
  obtain ⟨hp,g,d,tk,os⟩:=s;obtain ⟨q0,q1,h⟩:=h
  have hsub:=sub_zip
  have L0:cD b0 (Shared.heap ⟨hp,g,d,tk,os⟩) a0 xs0:=q0
  have L1:cD b1 (Shared.heap ⟨(pY hp b0 a0 b1 a1),g,d,tk,os⟩) a1 xs1:=(q1).push _
  wp_walk using qj L0,qj L1
  exact ⟨_,rfl,h⟩
theorem A2 {prog:Program}{w:World}{A:Around}{E:Value->Shared->Prop}{s:Shared}{a0 a1:Nat}{b0 b1:Bool}{xs0 xs1:Array Value}{Q:Value->Shared->Prop}(q0:cD b0 s.heap a0 xs0)(q1:cD b1 s.heap a1 xs1)
 (h:∀h',n8 s.heap.objs.size b0 a0 b1 a1 0 h' .none->(∀c o,s.heap.get? c=some o->h'.get? c=some o)->Q (.ref (s.heap.objs.size+4)) {s with heap:=h'}) :
 wpAny (model prog w) A (call (.type "zip") [.ref a0,.ref a1]) Q E s:=by
 refine callType_new F.called_zip (by decide) (F.typeCall_zip_2 _ _) (F.newCall_zip_2 _ _) (fun obj=>F.args_object_init_3 obj _ _) F.entry_zip_new (yu b0 a0 b1 a1 xs0 xs1) ⟨q0,q1,?_⟩
 have z1:(pY s.heap b0 a0 b1 a1).objs.size=s.heap.objs.size+1:=by rw [Heap.size_push]
 have z2:(tY s.heap b0 a0 b1 a1).objs.size=s.heap.objs.size+2:=by rw [Heap.size_push,z1]
 have z3:(tX s.heap b0 a0 b1 a1).objs.size=s.heap.objs.size+3:=by rw [Heap.size_push,z2]
 have z4:(tW s.heap b0 a0 b1 a1).objs.size=s.heap.objs.size+4:=by rw [Heap.size_push,z3]
 have z5:(my s.heap b0 a0 b1 a1).objs.size=s.heap.objs.size+5:=by rw [Heap.size_push,z4]
 have g1:(my s.heap b0 a0 b1 a1).get? s.heap.objs.size=some _:=tqc _ (tqc _ (tqc _ (tqc _ (tqe _ rfl))))
 have g2:(my s.heap b0 a0 b1 a1).get? (pY s.heap b0 a0 b1 a1).objs.size=some _:=tqc _ (tqc _ (tqc _ (tqe _ rfl)))
 have g3:(my s.heap b0 a0 b1 a1).get? (tY s.heap b0 a0 b1 a1).objs.size=some _:=tqc _ (tqc _ (tqe _ rfl))
 have g4:(my s.heap b0 a0 b1 a1).get? (tX s.heap b0 a0 b1 a1).objs.size=some _:=tqc _ (tqe _ rfl)
 have g5:(my s.heap b0 a0 b1 a1).get? (tW s.heap b0 a0 b1 a1).objs.size=some _:=tqe _ rfl
 show _/\_
 rw [z1] at g2
 rw [z2] at g3
 rw [z3] at g4
 rw [z4] at g5
 rw [z1] at g3
 rw [z2,z3] at g5
 rw [z4]
 exact ⟨⟨_,g5,rfl⟩,h _ ⟨g5,g3,⟨_,_,g4⟩,dn.new g1,dn.new g2⟩ fun c o x=>tqc _ (tqc _ (tqc _ (tqc _ (tqc _ (x)))))⟩
def oi (d0 d1:D):Walk:=fun M=>(de M d0).bind fun y0=>(de M d1).map fun y1=>dJ y0 y1
def lG (g0 g1:Env->Mem->Res D):Env->Mem->Res Walk:=fun Z M=>(g0 Z M).bind fun d0 M=>(g1 Z M).bind fun d1 M=>if ig d0&&ig d1 then .ok (oi d0 d1) M else .bad
theorem uo:∀(y0 y1:List D) (i:Nat) (d:D),(dJ y0 y1)[i]?=some d↔∃e0 e1,y0[i]?=some e0/\y1[i]?=some e1/\d=.tup [e0,e1]
 |c0::t0,c1::t1,0,d=>by simp [dJ,eq_comm]
 | c0 :: t0, c1 :: t1, i + 1, d => by
   have:=uo t0 t1 i d
   simpa [dJ] using this
 |[],_,i,d=>by simp [dJ]
 |_::_,[],i,d=>by simp [dJ]
theorem um:∀(y0 y1:List D) (i:Nat),(dJ y0 y1).length<=i->y0.length<=i\/y1.length<=i
 |c0::t0,c1::t1,0,h=>by simp [dJ] at h
 | c0 :: t0, c1 :: t1, i + 1, h => by
   have:=um t0 t1 i (by simpa [dJ] using h)
   simpa using this
 |[],_,i,h=>by simp
 |_::_,[],i,h=>by simp
theorem ze {fa:Fa}{X:Cx}{μ0:Mu}{H0:Hp}{d0 d1:D}{a0 a1:Nat}(r0:Rep fa X.K μ0 H0 d0 (.ref a0))(r1:Rep fa X.K μ0 H0 d1 (.ref a1)):fy fa X.K μ0 H0 (oi d0 d1) (IW X.K (jH d0) a0 (jH d1) a1):=fun μ H M ds x hM e=>by
 unfold oi at e
 cases s0:de M d0 with
 |none=>simp [s0] at e
 |some y0=>
 cases s1:de M d1 with
 |none=>simp [s0,s1] at e
 |some y1=>
 simp only [s0,s1,Option.bind_some,Option.map_some,Option.some.injEq] at e
 subst e
 obtain ⟨v0,q0,l0⟩:=pD hM (Rep.extW x r0) s0
 obtain ⟨v1,q1,l1⟩:=pD hM (Rep.extW x r1) s1
 refine ⟨fun i d hd=>?_,fun i hi=>⟨v0,v1,q0,q1,?_⟩⟩
 ·obtain ⟨e0,e1,h0,h1,rfl⟩:=(uo y0 y1 i d).mp hd
  obtain ⟨w0,hw0,rw0⟩:=l0.get h0
  obtain ⟨w1,hw1,rw1⟩:=l1.get h1
  refine ⟨⟨⟨v0,w0,q0,hw0⟩,⟨v1,w1,q1,hw1⟩⟩,fun y H' ⟨p,x0,x1,hp,ey,eH,t0,t1⟩=>?_⟩
  have z0:=t0 v0 q0
  rw [hw0] at z0;cases z0
  have z1:=t1 v1 q1
  rw [hw1] at z1;cases z1
  subst eH ey
  exact ⟨Ext.alloc hM hp,hM.alloc hp,p,[w0,w1],rfl,.inl (.inl cE),⟨w0,[w1],rfl,rw0.ext (Ext.alloc hM hp),⟨w1,[],rfl,rw1.ext (Ext.alloc hM hp),rfl⟩⟩⟩
 ·rcases um y0 y1 i hi with z|z
  ·exact .inl (by rw [l0.length];exact z)
  ·exact .inr (by rw [l1.length];exact z)
theorem E5 {fa:Fa}{X:Cx}{elts:List Expr}{kk:Nat}{tp p pos:Pos}{e0 e1:Expr}{g0 g1:Env->Mem->Res D}(h0:DE fa X e0 g0)(h1:DE fa X e1 g1)(hg:Gl X "zip")(hm:X.mg "zip"=none)
 (hs0:starEach [e0,e1] X.env=[(false,eval e0 X.env),(false,eval e1 X.env)]) (hs1:starEach [e1] X.env=[(false,eval e1 X.env)]):DI fa X (.Tuple elts kk tp) (.Call (.Name "zip" p) [e0,e1] [] pos) (lG g0 g1):=by
 intro pins s σ H R I ⟨μ,Z,M,hE,hM,h⟩
 obtain ⟨d0,M0,c0,t0⟩:=bq h
 obtain ⟨d1,M1,c1,t1⟩:=bq t0
 split at t1
 ·next hsq=>
  simp only [Bool.and_eq_true] at hsq
  obtain ⟨hq0,hq1⟩:=hsq
  refine Call_ (jP I hg hm boot_zip (PyProof.Rows.callWith_type1 (bz (di h0 (di h1 fO hs1) (by rw [hs0,hs1]) pos pins s σ H (fun vs H1=>∃v0 v1 μ1,vs=[v0,v1]/\Ext μ H μ1 H1/\RelM fa X.K μ1 H1 M1/\Rep fa X.K μ1 H1 d0 v0/\Rep fa X.K μ1 H1 d1 v1) I ?_) fun us s1 ⟨vs,H1,I1,r1,v0,v1,μ1,ev,x1,m1,rv0,rv1⟩=>?_) (by rw [hs0,hs1]) (by rw [hs1];rfl)))
  ·refine ⟨μ,Z,M,hE,hM,?_⟩
   rw [c0]
   intro v0 H1 μ1 x1 m1 r0
   refine ⟨μ1,Z,M0,(hE.ext x1),m1,?_⟩
   rw [c1]
   intro v1 H2 μ2 x2 m2 r1
   exact ⟨v0,v1,μ2,rfl,(x1.trans x2),m2,(r0.ext x2),r1⟩
  subst ev
  obtain ⟨a0,its0,rfl,z0⟩:=uR I1 m1 rv0 hq0
  obtain ⟨a1,its1,rfl,z1⟩:=uR I1 m1 rv1 hq1
  cases r1 with
  | cons y0 r1 =>
    cases r1 with
    | cons y1 r1 =>
      cases r1
      obtain rfl:=y0
      obtain rfl:=y1
      refine A2 z0 z1 fun h1 za hk=>?_
      have I2:Inv X pins σ H1 {s1 with heap:=h1}:=I1.kept (t':=s1.toks) hk
      refine wpAny_pyIter_zip (s:={s1 with heap:=h1}) za.1 ?_
      refine ⟨s1.heap.objs.size+4,[s1.heap.objs.size+4,s1.heap.objs.size,s1.heap.objs.size+1,s1.heap.objs.size+2,s1.heap.objs.size+3],_,_,H1,rfl,I2,zk s1.heap.objs.size (jH d0) a0 (jH d1) a1 ⟨z0.lt,z1.lt⟩,za,fun b hb=>?_,t1 _ H1 μ1 x1 m1 (ze rv0 rv1)⟩
      have hb:s1.heap.objs.size<=b:=by
       simp only [List.mem_cons,List.not_mem_nil,or_false] at hb
       rcases hb with z|z|z|z|z<;>(rw [z];first|exact tqg _|exact Nat.le_add_right _ _)
      exact I1.fpOk hb (I1.hok.fresh hb)
 ·exact t1.elim
end LD
namespace LD
open PySem PySem.Spec PyProof.Rows L2
abbrev GE:=Env->Mem->Res D
abbrev GT:=Env->Mem->Res Bool
abbrev GA:=Env->Mem->Res (List D)
abbrev GW:=Env->Mem->Res Walk
abbrev GS:=Env->Mem->Res Fl
abbrev GB:=Env->List D->Mem->Res (List D)
abbrev Call:=Nat->List D->Mem->Res D
def ah (i:Nat):GE:=fun Z M=>dv M (Z[i]?.getD none)
def gC (d:D):GE:=fun _ M=>.ok d M
def aH (m:Bool)(o:nv)(a b:GE):GE:=fun Z M=>(a Z M).bind fun x M=>(b Z M).bind fun y M=>fR m o x y M
def aW (o:iW)(a b:GE):GE:=fun Z M=>(a Z M).bind fun x M=>(b Z M).bind fun y M=>(dv M (bN o x y M)).bind fun b M=>.ok (.bl b) M
def lS (o o':iW)(a b c:GE):GE:=fun Z M=>(a Z M).bind fun x M=>(b Z M).bind fun y M=>(dv M (bN o x y M)).bind fun k M=>
 if k then (c Z M).bind fun z M=>(dv M (bN o' y z M)).bind fun b M=>.ok (.bl b) M else .ok (.bl false) M
def eW (a:GE):GE:=fun Z M=>(a Z M).bind fun x M=>match x with|.int i=>.ok (.int (-i)) M|_=>.bad
def fB (a b:GE):GE:=fun Z M=>(a Z M).bind fun x M=>match x with|.bl true=>b Z M|.bl false=>.ok (.bl false) M|_=>.bad
def xr (a b:GE):GE:=fun Z M=>(a Z M).bind fun x M=>match x with|.bl true=>.ok (.bl true) M|.bl false=>b Z M|_=>.bad
def Ig (a:GE):GE:=fun Z M=>(a Z M).bind fun x M=>match x with|.bl k=>.ok (.bl (!k)) M|_=>.bad
def ll (t:GT)(a b:GE):GE:=fun Z M=>(t Z M).bind fun k M=>if k then a Z M else b Z M
def aO (a b:GE):GE:=fun Z M=>(a Z M).bind fun x M=>(b Z M).bind fun y M=>dv M (cY x y M)
def dG (m hl hh:Bool)(a lo hi:GE):GE:=fun Z M=>(a Z M).bind fun x M=>(lo Z M).bind fun l M=>(hi Z M).bind fun h M=>if cL hl l&&cL hh h then eG m x l h M else .bad
def av:GA:=fun _ M=>.ok [] M
def ag (a:GE)(s:GA):GA:=fun Z M=>(a Z M).bind fun x M=>(s Z M).bind fun xs M=>.ok (x::xs) M
def bZ (s:GA):GE:=fun Z M=>(s Z M).bind mT
def bD (m:Bool)(s:GA):GE:=fun Z M=>(s Z M).bind (cf m)
def aA (f:Nat)(c:Call)(s:GA):GE:=fun Z M=>(s Z M).bind fun ds M=>c f ds M
def nV (i:Nat)(c:Call)(s:GA):GE:=fun Z M=>match Z[i]?.getD none with|some (.fn f)=>(s Z M).bind fun ds M=>c f ds M|_=>.bad
def bt (f:vZ)(s:GA):GE:=fun Z M=>(s Z M).bind fun ds M=>gp f ds M
def cy (t:Ty)(a:GE):GE:=fun Z M=>(a Z M).bind fun x M=>(dv M (cx t x)).bind fun b M=>.ok (.bl b) M
def aJ (a:GE):GT:=fun Z M=>(a Z M).bind fun x M=>dv M (lN M x)
def gP (a b:GT):GT:=fun Z M=>(a Z M).bind fun k M=>if k then b Z M else .ok false M
def fi (a b:GT):GT:=fun Z M=>(a Z M).bind fun k M=>if k then .ok true M else b Z M
def cn (a:GT):GT:=fun Z M=>(a Z M).bind fun k M=>.ok (!k) M
def aV (t:dD)(a:GE):GS:=fun Z M=>(a Z M).bind fun x M=>(dv M (c7 t x Z)).bind fun ρ1 M=>.ok (.next ρ1) M
def fZ (a b d:GE):GS:=fun Z M=>(d Z M).bind fun z M=>(a Z M).bind fun x M=>(b Z M).bind fun y M=>match x,y with
 | .cell k, .int n => match M[k]? with
   | some ds => match cb ds.length n with
     |some j=>.ok (.next Z) (M.set k (ds.set j z))
     |none=>.bad
   |none=>.bad
 |_,_=>.bad
def nH (a d:GE):GS:=fun Z M=>(a Z M).bind fun x M=>(d Z M).bind fun z M=>match x with
 | .cell k => match M[k]? with
   |some ds=>if ds.length<sz then .ok (.next Z) (M.set k (ds++[z])) else .bad
   |none=>.bad
 |_=>.bad
def bh (a:GE):GS:=fun Z M=>(a Z M).bind fun x M=>.ok (.ret x) M
def Jp:GS:=fun _ M=>.ok (.ret .non) M
def Jq:GS:=fun Z M=>.ok (.next Z) M
def Lo:GS:=fun _ _=>.bad
def bo (c:GT)(a b:GS):GS:=fun Z M=>(c Z M).bind fun k M=>if k then a Z M else b Z M
def iw (t:dD)(w:GW)(b:GS):GS:=fun Z M=>(w Z M).bind fun w M=>eF (j6 t b) w (.next Z) M
def ax:GS:=fun Z M=>.ok (.next Z) M
def aj (a b:GS):GS:=fun Z M=>(a Z M).bind fun fl M=>match fl with
 |.next Z=>b Z M
 |fl=>.ok fl M
def notStar:Expr->Bool
 |.Starred _ _=>false
 |_=>true
theorem cX {a:Expr}{es:List Expr}{env:PySem.Env}(h:notStar a=true):starEach (a::es) env=(false,eval a env)::starEach es env:=by
 cases a<;>first|rfl|cases h
theorem eV {pos:Pos}{env:PySem.Env}:∀{es:List Expr},es.all notStar=true->(backTo pos (starEach es env)).any (·.1)=false
 |[],_=>rfl
 | a :: es, h => by
   simp only [List.all_cons,Bool.and_eq_true] at h
   have ih:=eV (pos:=pos) (env:=env) h.2
   rw [cX h.1]
   simpa [backTo] using ih
section
variable {fa:Fa}{X:Cx}{a b d:Expr}{ga gb gd:GE}{ta tb:GT}{pos p:Pos}{es:List Expr}{gs:GA}{n:Nat}
theorem Gd {x:Str}{i:Int}{t:Tok}(hg:Gl X x)(hm:X.mg x=some (.int i t))(hd:(x==("__debug__":Str))=false):DE fa X (.Name x pos) (gC (.int i)):=mn (v:=.int i) (ot hg hm ⟨t,rfl⟩ hd) fun _ _=>rfl
theorem uU (m:Bool){i:Nat}{y:Str}{py spos:Pos}{elt tg iter:Expr}{ifs:List Expr}{rest:List Comprehension}{scope:Scope}{own bn:List Str}{t:dD}{W:List Nat}{body:Addr->PySem.Env->Sem Unit}{gw:GW}{g:GB}
 (S:fX X own bn scope) (hcalm:X.calm=true) (hi:DI fa X tg iter gw) (B:Block fa X own bn scope tg t W body g) (hT:qZ X elt tg iter ifs rest scope pos body) (hW:∀i∈W,i∉slots t) (hn:∀i∈slots t++W,i<own.length)
 (hs:∀x,foldedSetIterable iter X.env x=pure x) (hN:X.N.Nodup) (hy:X.N[i]?=some y) (hl:X.env.scope.names.lookup y=some .local)
 (hsw:swapsWith (.ListComp elt (⟨tg,iter,ifs,0⟩::rest) scope pos) (some (.Name y py)) spos.line X.env=pure true) :
 DS fa X (.Assign [.Name y py] (.ListComp elt (⟨tg,iter,ifs,0⟩::rest) scope pos) spos) (aV (.one i) (bX m own.length t gw g)):=yO m S hcalm hi B hT hW hn hs hN hy hl hsw
end
structure Df where
 params:Nat
 slots:Nat
 body:Call->GS
def MI:Fl->Mem->Res D
 |.ret d,M=>.ok d M
 |.next _,M=>.ok .non M
 |.exc x _,M=>.err x M
def MH:Res Fl->Res D
 |.ok fl M=>MI fl M
 |_=>.bad
def iO (c:Call)(d:Df)(ds:List D)(M:Mem):Res D:=if ds.length=d.params then MH (d.body c (ds.map some++List.replicate (d.slots-ds.length) none) M) else .bad
def aw (P:Nat->Option Df):Nat->Call
 |0,_,_,_=>.bad
 | n + 1, f, ds, M => match P f with
   |none=>.bad
   |some d=>iO (aw P n) d ds M
structure uk (fa:Fa) (P:Program) (w:World) (K:PySem.W.Frag) (mg:Str->Option Value) (base:Heap) (f:Nat) (d:Df):Prop where
 ex:∃(ad:Addr) (fd:FuncData) (ps N:List Str) (st:Stmt) (x qual:Str),fa f=some ad/\pe K x qual st ad fd/\Binds K fd ps []/\iq N ps (aT st)/\d.params=ps.length/\d.slots=N.length/\
  ∀(call:Call) (n:Nat) (cdv:Value) (A:Around) (outer:List PySem.Env) (s:Shared) (H:Hp) (E:XK),(∀f,iD fa P w K mg base n f (call f))->cU (n+4) (A.deeper (envOfC qual (aT st) s.heap.objs.size ad cdv))->
   iC fa (gQ (iX P w) P w K mg base N qual (aT st) ad cdv A outer s H E) (dH st) (d.body call)
theorem zy {fa:Fa}{K:PySem.W.Frag}{μ:Mu}{H:Hp}{N:List Str}{ds:List D}{vs:List V}(h:bf fa K μ H ds vs):bL fa K μ H (L2.start N vs) (ds.map some++List.replicate (N.length-ds.length) none):=by
 have hl:=h.length
 refine ⟨by unfold L2.start;simp [hl],fun i d e=>?_⟩
 by_cases hi:i<ds.length
 ·rw [List.getElem?_append_left (by simpa using hi),List.getElem?_map] at e
  cases e1:ds[i]? with
  |none=>rw [e1] at e;cases e
  | some d' =>
    rw [e1] at e
    cases e
    obtain ⟨v,hv,rv⟩:=h.get e1
    refine ⟨v,?_,rv⟩
    unfold L2.start
    rw [List.getElem?_append_left (by simp;omega),List.getElem?_map,hv]
    rfl
 ·rw [List.getElem?_append_right (by simp;omega),List.getElem?_replicate] at e
  split at e<;>cases e
theorem r9 {P:Program}{w:World}{K:PySem.W.Frag}{mg:Str->Option Value}{base:Heap}{x qual:Str}{st:Stmt}{f:Addr}{fd:FuncData}{N ps:List Str}{k:Nat}{sp:Sp}(F:pe K x qual st f fd)(S:iq N ps (aT st))(len:∀vs H Q E,sp vs H Q E->vs.length=ps.length)
 (hbody:∀(cdv:Value) (A:Around) (outer:List PySem.Env) (s:Shared) (H:Hp) (vs:List V) (Q:VK) (E:XK),cU k (A.deeper (envOfC qual (aT st) s.heap.objs.size f cdv))->sp vs H Q E->
  ∃t,oa (gQ (iX P w) P w K mg base N qual (aT st) f cdv A outer s H E) (dH st) t/\t {nx:=fun _ H'=>Q .non H',rt:=Q} (start N vs) H):lX P w K mg base (iX P w) (k+1) f fd ps sp:=by
 obtain ⟨oc,od,kV,doc,pm,an,cdv,ct,osl,rfl,lk,hcd⟩:=F.ex
 exact JU lk hcd S len fun A outer s H vs Q E hr hsp=>hbody cdv A outer s H vs Q E hr hsp
theorem tm {fa:Fa}{P:Program}{w:World}{K:PySem.W.Frag}{mg:Str->Option Value}{base:Heap}{N:List Str}{qual:Str}{scope:Scope}{f:Addr}{cd:Value}{A:Around}{outer:List PySem.Env}{s:Shared}{H:Hp}{E:XK}{Q:VK}{d:Df}{c:Call}{ds:List D}{vs:List V}{μ:Mu}{M:Mem}
 (hs:d.slots=N.length) (hM:RelM fa K μ H M) (hr:bf fa K μ H ds vs) (hq:j5 (iO c d ds M) (bG fa K μ H Q) (yY fa K μ H E)):tF fa (gQ (iX P w) P w K mg base N qual scope f cd A outer s H E) (d.body c) {nx:=fun _ H'=>Q .non H',rt:=Q} (start N vs) H:=by
 unfold iO at hq
 split at hq
 ·refine ⟨μ,_,M,zy hr,hM,?_⟩
  rw [<- hs]
  cases e1:d.body c (ds.map some++List.replicate (d.slots-ds.length) none) M with
  | ok fl M1 =>
    rw [e1] at hq
    cases fl with
    | next ρ' =>
      have q1:bG fa K μ H Q .non M1:=hq
      exact fun σ' H' μ' x' e' m'=>q1 .non H' μ' x' m' rfl
    |ret d=>exact hq
    | exc x ρ' =>
      have q1:yY fa K μ H E x M1:=hq
      exact fun pins σ' H' μ' s' a C dx c p I y _ m ex hc hn fl=>Cp I fl (q1 C dx c p H' μ' y m ex hc hn)
  |err=>rw [e1] at hq;exact hq.elim
  |bad=>rw [e1] at hq;exact hq.elim
 ·exact hq.elim
theorem vS {fa:Fa}{P:Program}{w:World}{K:PySem.W.Frag}{mg:Str->Option Value}{base:Heap}{Pg:Nat->Option Df}(h:∀f d,Pg f=some d->uk fa P w K mg base f d):∀(n f:Nat),iD fa P w K mg base n f (aw Pg n f)
 |0,f=>.inl fun _ _=>rfl
 | n + 1, f => by
   have ih:=vS h n
   cases e:Pg f with
   |none=>exact .inl fun ds M=>by show (match Pg f with|none=>Res.bad|some d=>iO (aw Pg n) d ds M)=Res.bad;rw [e]
   | some d =>
     have eq:∀ds M,aw Pg (n+1) f ds M=iO (aw Pg n) d ds M:=fun ds M=>by show (match Pg f with|none=>Res.bad|some d=>iO (aw Pg n) d ds M)=_;rw [e]
     obtain ⟨ad,fd,ps,N,st,x,qual,h1,F,hb,S,hp,hs,hbody⟩:=(h f d e).ex
     refine .inr ⟨ad,fd,ps,h1,F.kp,hb,fun ds M hl=>?_,?_⟩
     ·rw [eq];unfold iO;rw [if_neg (by rw [hp];exact hl)]
     ·refine r9 (k:=n+4) F S (fun vs H Q E hsp=>hsp.1) fun cdv A outer s H vs Q E hr hsp=>⟨_,hbody (aw Pg n) n cdv A outer s H E ih hr,?_⟩
      obtain ⟨hl,μ,M,ds,hM,hr,hq⟩:=hsp
      rw [eq] at hq
      exact tm hs hM hr hq
end LD
namespace LD
open PySem PySem.Spec PyProof.Rows L2
def pX (P:Params)(e:DictEntry)(kv:Str×Addr):Prop:=∃t,e=⟨PyData.keyHash P kv.1,.str kv.1 t,.ref kv.2⟩
structure jK (K:PySem.W.Frag) (P:Params) (a:Addr) (kvs:List (Str×Addr)):Prop where
 ex:∃(es:Array DictEntry) (n:Nat),K.lookup a=some {cls:=.type "dict",data:=.dict es n}/\Paired (pX P) es.toList kvs
 nd:(kvs.map (·.1)).Nodup
 ns:(a==sysModules)=false
def xj (kvs:List (Str×Addr)):List (Key×Value):=kvs.map fun kv=>(Sum.inr kv.1,.ref kv.2)
theorem vM {P:Params}:∀{es:List DictEntry}{kvs:List (Str×Addr)},Paired (pX P) es kvs->∀e∈es,∃x t,e.key=.str x t/\e.hash=PyData.keyHash P x
 |_,_,.nil,e,h=>nomatch h
 | _, _, .cons r t, e, h => by
   rcases List.mem_cons.mp h with z|z
   ·subst z;obtain ⟨t,rfl⟩:=r;exact ⟨_,t,rfl,rfl⟩
   ·exact vM t e z
theorem qV {prog:Program}{w:World}:∀{es:List DictEntry}{kvs:List (Str×Addr)},Paired (pX w.params) es kvs->Pairs (mh prog w) es (xj kvs)
 |_,_,.nil=>.nil
 | e :: es, kv :: kvs, .cons r t => by
   obtain ⟨u,rfl⟩:=r
   exact Pairs.cons (kv:=((Sum.inr kv.1:Key),Value.ref kv.2)) (lE kv.1 u) rfl (qV t)
theorem vB {X:Cx}{pins:List (Addr×Obj)}{σ:L2.St}{H:Hp}{s:Shared}{a:Addr}{kvs:List (Str×Addr)}(I:Inv X pins σ H s)(h:jK X.K X.w.params a kvs):s.heap.DictOf (mh X.prog X.w) a (xj kvs):=by
 obtain ⟨es,n,lk,pr⟩:=h.ex
 refine ⟨_,es,n,I.kIn _ _ lk,⟨rfl,rfl,rfl⟩,rfl,fun e he=>?_,qV pr,?_⟩
 ·obtain ⟨x,t,e1,e2⟩:=vM pr e (by simpa using he)
  exact ⟨Sum.inr x,by rw [e1];exact lE x t,e2⟩
 ·have e:(xj kvs).map (·.1)=(kvs.map (·.1)).map Sum.inr:=by unfold xj;simp
  rw [e]
  exact List.Pairwise.map _ (fun a b (n:a≠b) z=>n (Sum.inr.inj z)) h.nd
theorem AB (kvs:List (Str×Addr))(k:Str):valueAt (xj kvs) (Sum.inr k:Key)=(kvs.lookup k).map Value.ref:=by
 induction kvs with
 |nil=>rfl
 | cons kv r ih =>
   unfold valueAt xj at ih ⊢
   rw [List.map_cons,List.find?_cons,List.lookup_cons]
   by_cases e:kv.1=k
   ·subst e;simp
   ·have e2:decide ((Sum.inr kv.1:Key)=Sum.inr k)=false:=decide_eq_false fun z=>e (Sum.inr.inj z)
    have e3:(k==kv.1)=false:=beq_eq_false_iff_ne.mpr (Ne.symm e)
    rw [e2,e3]
    exact ih
def gu (fa:Fa)(kvs:List (Str×Addr))(fs:List (Str×Nat)):Prop:=Paired (fun (p:Str×Addr) (q:Str×Nat)=>p.1=q.1/\fa q.2=some p.2) kvs fs
theorem gu.look {fa:Fa}{k:Str}:∀{kvs:List (Str×Addr)}{fs:List (Str×Nat)},gu fa kvs fs->(fs.lookup k=none/\kvs.lookup k=none)\/∃f ad,fs.lookup k=some f/\kvs.lookup k=some ad/\fa f=some ad
 |_,_,.nil=>.inl ⟨rfl,rfl⟩
 | (x, a) :: r, (y, f) :: t, .cons ⟨e1, e2⟩ q => by
   have e1:x=y:=e1
   subst e1
   rw [List.lookup_cons,List.lookup_cons]
   cases e:k==x with
   |true=>exact .inr ⟨f,a,rfl,rfl,e2⟩
   |false=>exact gu.look q
def oG (fs:List (Str×Nat))(i:GE):GE:=fun Z M=>(i Z M).bind fun d M=>match d with
 |.str k=>dv M ((fs.lookup k).map D.fn)
 |_=>.bad
def oF (fs:List (Str×Nat))(i:GE):GE:=fun Z M=>(i Z M).bind fun d M=>match d with
 |.str k=>.ok (.bl (!(fs.lookup k).isSome)) M
 |_=>.bad
section
variable {fa:Fa}{X:Cx}{a b:Expr}{ga gb:GE}{pos p:Pos}{ad:Addr}{kvs:List (Str×Addr)}{fs:List (Str×Nat)}{x:Str}
theorem Cu (hd:jK X.K X.w.params ad kvs):mw X (fun x y H Q=>∃k v,x=.ref ad/\y=.str k/\kvs.lookup k=some v/\Q (.ref v) H):=by
 intro value slice pins s σ H x y v u Q I rx ry h hs
 obtain ⟨k,c,rfl,rfl,hk,q⟩:=h
 cases rx
 obtain ⟨t,rfl⟩:=ry
 have dd:=vB I hd
 have hT:s.TypeIs (.ref ad) "dict":=let ⟨o,_,_,ho,⟨hc,_⟩,_⟩:=dd;⟨o,ho,hc⟩
 refine tail_any hT PySem.F.slot_dict_getitem.lookup (wpAny_getItem_of (k:=(Sum.inr k:Key)) (lE k t) dd.mapOf (v:=.ref c) ?_ ?_) hs
 ·rw [AB,hk];rfl
 ·exact ⟨.ref c,H,I.tok _,rfl,q⟩
theorem B4 (hd:jK X.K X.w.params ad kvs):cI X (compareOp .NotIn) (fun x y H Q=>∃k,x=.str k/\y=.ref ad/\Q (.bl (!(kvs.lookup k).isSome)) H):=by
 intro pins s σ H x y v u Q I rx ry h
 obtain ⟨k,rfl,rfl,q⟩:=h
 obtain ⟨t,rfl⟩:=rx
 cases ry
 have dd:=vB I hd
 refine wpAny_notIn_of (k:=(Sum.inr k:Key)) (lE k t) hd.ns dd.mapOf ?_
 rw [AB,Option.isSome_map]
 exact ⟨.bl _,H,I.tok _,rfl,q⟩
theorem Ge (hd:jK X.K X.w.params ad kvs)(ho:gu fa kvs fs)(hg:Gl X x)(hm:X.mg x=some (.ref ad))(hdb:(x==("__debug__":Str))=false)(hb:DE fa X b gb)(hs:mv b):DE fa X (.Subscript (.Name x p) b pos) (oG fs gb):=
 cG (De (Cu hd) (ot (v:=.ref ad) hg hm rfl hdb) hb hs) fun σ H Q ⟨μ,Z,M,hE,hM,h⟩=>t1 hE hM h fun d M1 v H1 μ1 x1 hE1 hM1 r1 h1=>by
  cases d with
  | str k =>
    obtain ⟨d,e,q⟩:=oy h1
    rcases ho.look (k:=k) with ⟨e1,_⟩|⟨f,c,e1,e2,e3⟩
    ·rw [e1] at e;cases e
    ·rw [e1] at e
     cases e
     exact ⟨k,c,rfl,r1,e2,q (.ref c) H1 μ1 x1 hM1 ⟨c,rfl,e3⟩⟩
  |_=>exact h1.elim
theorem B7 {d:D}{M1:Mem}{P:D->Mem->Prop}(h:au (match d with|.str k=>Res.ok (.bl (!(fs.lookup k).isSome)) M1|_=>.bad) P):∃k,d=.str k/\P (.bl (!(fs.lookup k).isSome)) M1:=by
 cases d with
 |str k=>exact ⟨k,rfl,h⟩
 |_=>exact h.elim
theorem CI (ho:gu fa kvs fs)(k:Str):(kvs.lookup k).isSome=(fs.lookup k).isSome:=by
 rcases ho.look (k:=k) with ⟨e1,e2⟩|⟨f,c,e1,e2,_⟩<;>rw [e1,e2]<;>rfl
theorem Ic (ho:gu fa kvs fs)(σ:L2.St)(H:Hp)(Q:VK)(h:tE fa X.K (oF fs ga) σ H Q):zw (fun x y H Q=>∃k,x=.str k/\y=.ref ad/\Q (.bl (!(kvs.lookup k).isSome)) H) (tE fa X.K ga) (tC (.ref ad)) σ H Q:=by
 obtain ⟨μ,Z,M,hE,hM,h⟩:=h
 refine t1 hE hM h fun d M1 v H1 μ1 x1 hE1 hM1 r1 h1=>?_
 obtain ⟨k,rfl,q⟩:=B7 h1
 refine ⟨k,r1,rfl,?_⟩
 rw [CI ho]
 exact q (.bl _) H1 μ1 x1 hM1 rfl
theorem Gp (hd:jK X.K X.w.params ad kvs)(ho:gu fa kvs fs)(hg:Gl X x)(hm:X.mg x=some (.ref ad))(hdb:(x==("__debug__":Str))=false)(ha:DE fa X a ga)(hmk:behindInMarks .NotIn (.Name x p)=false):DT fa X (.Compare a [.NotIn] [.Name x p] pos) (aJ (oF fs ga)):=
 nM (wX (B4 hd) ha (ot (v:=.ref ad) hg hm rfl hdb) hmk) fun σ H Q h=>by
  refine Ic ho σ H _ ?_
  obtain ⟨μ,Z,M,hE,hM,h⟩:=h
  obtain ⟨z,M3,e,q⟩:=bq h
  refine ⟨μ,Z,M,hE,hM,?_⟩
  rw [e]
  have hz:∃k,z=.bl k:=by
   obtain ⟨d,M1,e1,e2⟩:=gq e
   cases d<;>first|(cases e2;exact ⟨_,rfl⟩)|cases e2
  obtain ⟨k,rfl⟩:=hz
  intro v H' μ' x' m' r'
  obtain rfl:v=.bl k:=r'
  exact ⟨k,rfl,q H' μ' x' m'⟩
def nS (m:Bool)(a:GE):GE:=fun Z M=>(a Z M).bind fun x M=>match x with
 |.int n=>if -(2^62)<=n/\n<2^20 then cf m ((List.range n.toNat).map fun (k:Nat)=>D.int (k:Int)) M else .bad
 |_=>.bad
theorem yH:∀(n:Nat) (its:List Value),its.length=n->(∀(i:Nat) (v:Value),its[i]?=some v->∃t,v=.int (i:Int) t)->Vals ((List.range n).map fun (k:Nat)=>V.int (k:Int)) its:=by
 intro n its hl h
 have key:∀(k:Nat) (its:List Value),(∀(i:Nat) (v:Value),its[i]?=some v->∃t,v=.int ((k+i:Nat):Int) t)->Vals ((List.range its.length).map fun (j:Nat)=>V.int ((k+j:Nat):Int)) its:=by
  intro k its
  induction its generalizing k with
  |nil=>intro _;exact .nil
  | cons v r ih =>
    intro h
    rw [List.length_cons,List.range_succ_eq_map,List.map_cons,List.map_map]
    refine .cons (h 0 v rfl) ?_
    have:=ih (k+1) fun i u e=>by
     have:=h (i+1) u (by simpa using e)
     rw [show k+1+i=k+(i+1) by omega];exact this
    refine cast (congrArg (fun f=>Vals ((List.range r.length).map f) r) ?_) this
    funext j
    show V.int _=V.int _
    congr 2
    omega
 have:=key 0 its fun i v e=>by rw [Nat.zero_add];exact h i v e
 rw [hl] at this
 simpa using this
theorem Ea (m:Bool){p1 p2 pos2:Pos}(hc:X.calm=true)(ha:DE fa X a ga)(hgl:Gl X "list")(hml:X.mg "list"=none)(hg:Gl X "range")(hm:X.mg "range"=none)(hs:starEach [a] X.env=[(false,eval a X.env)])
 (hs2:starEach [.Call (.Name "range" p2) [a] [] pos2] X.env=[(false,eval (.Call (.Name "range" p2) [a] [] pos2) X.env)]) :
 DE fa X (.Call (.Name "list" p1) [.Call (.Name "range" p2) [a] [] pos2] [] pos) (nS m ga):=by
 intro pins s σ H Q I ⟨μ,Z,M,hE,hM,h⟩
 obtain ⟨x,M1,e,q⟩:=bq h
 have key:∀n,x=.int n->au (if -(2^62)<=n/\n<2^20 then cf m ((List.range n.toNat).map fun (k:Nat)=>D.int (k:Int)) M1 else .bad) (bG fa X.K μ H Q)->
  wpAny (model X.prog X.w) X.A (eval (.Call (.Name "list" p1) [.Call (.Name "range" p2) [a] [] pos2] [] pos) X.env) (EP X pins σ Q) X.xe s:=fun n en q'=>by
  subst en
  by_cases c:-(2^62)<=n/\n<2^20
  ·rw [if_pos c] at q'
   refine Call_ (jP I hgl hml (by decide +kernel:bootBuiltins "list"=some (.type "list")) (PyProof.Rows.callWith_type1 ?_ hs2 rfl))
   rw [hs2]
   refine Calls.spliced_cons ?_
   refine Call_ (jP I hg hm boot_range (PyProof.Rows.callWith_type1 (bz (di ha fO hs pos2 pins s σ H (fun vs H1=>∃μ1,vs=[.int n]/\Ext μ H μ1 H1/\RelM fa X.K μ1 H1 M1) I ⟨μ,Z,M,hE,hM,?_⟩) fun us s1 ⟨vs,H1,I1,r1,μ1,ev,x1,m1⟩=>?_) hs rfl))
   ·rw [e]
    intro v H1 μ1 x1 m1 r1
    obtain rfl:v=.int n:=r1
    exact ⟨μ1,rfl,x1,m1⟩
   subst ev
   cases r1 with
   | cons r rr =>
     cases rr
     obtain ⟨t,rfl⟩:=r
     refine call_range_1 ?_
     refine Calls.spliced_nil ?_
     refine call_list_range (n:=n.toNat) (I.ok.hd hc) (IsRange.new ..) (small_one (by omega) (by omega) (by omega) (by omega)) (by rw [rangeSize_one];split<;>omega) (by omega) fun h' tk acc' c' kp eS its=>?_
     obtain ⟨hsz,hit⟩:=its
     have I2:Inv X pins σ H1 {s1 with heap:=s1.heap.push {cls:=.type "range",data:=.fields #[.int 0 s1.toks,.int n t,.int 1 (s1.toks+1)]},toks:=s1.toks+1+1}:=I1.kept fun b o e=>tqc _ e
     have hv:Vals ((List.range n.toNat).map fun (k:Nat)=>V.int (k:Int)) acc'.toList:=yH n.toNat acc'.toList (by simpa using hsz) fun i v e=>by
      obtain ⟨u,z⟩:=hit i v (by simpa using e)
      exact ⟨u,by rw [z];simp⟩
     have rl:bf fa X.K μ1 H1 ((List.range n.toNat).map fun (k:Nat)=>D.int (k:Int)) ((List.range n.toNat).map fun (k:Nat)=>V.int (k:Int)):=by
      have:=bf.ints (fa:=fa) (K:=X.K) (μ:=μ1) (H:=H1) ((List.range n.toNat).map fun (k:Nat)=>(k:Int))
      simpa [List.map_map,Function.comp_def] using this
     obtain ⟨c1,k1⟩:=iL m1 rl (md q' x1)
     refine ⟨.ref _,_,I2.laid (t':=tk) (o:=.lst ((List.range n.toNat).map fun (k:Nat)=>V.int (k:Int))) kp (tqg _) ⟨?_,acc'.toList,c',hv,by simpa using eS⟩,rfl,k1 _ (I2.hok.fresh (tqg _))⟩
     rw [rl.length,<- d5];exact c1
  ·rw [if_neg c] at q';exact q'.elim
 cases x with
 |int n=>exact key n rfl q
 |_=>exact q.elim
end
end LD
namespace LD
open PySem PySem.Spec PyProof.Rows L2
def xB (bn N:List Str)(sc scope:Scope):Bool:=
 scope.names.all (fun y=>y.2 != .cell&&(y.2 != .local||scope.names.lookup y.1==some .local)&&(y.2 != .free||sc.names.lookup y.1==some .cell||sc.names.lookup y.1==some .free)) &&
 bn.length==N.length&&(bn.zip N).all fun p=>(p.1==p.2&&scope.names.lookup p.2 != some .local)||scope.names.lookup p.1==none
theorem qt {α β:Type}{R:α->β->Prop}:∀{l:List α}{r:List β},l.length=r.length->(∀p∈l.zip r,R p.1 p.2)->Paired R l r
 |[],[],_,_=>.nil
 |a::l,b::r,h,g=>.cons (g (a,b) List.mem_cons_self) (qt (by simpa using h) fun p hp=>g p (List.mem_cons_of_mem _ hp))
 |[],_::_,h,_=>by cases h
 |_::_,[],h,_=>by cases h
theorem bS {X:Cx}{own bn N:List Str}{sc scope:Scope}(hk:scope.kind=.function)(hs:X.env.scope=sc)(hN:X.N=N)(h:xB bn N sc scope=true):fX X own bn scope:=by
 unfold xB at h
 rw [Bool.and_eq_true,Bool.and_eq_true,List.all_eq_true,List.all_eq_true] at h
 obtain ⟨⟨h1,hl⟩,h2⟩:=h
 refine ⟨hk,fun y hy=>?_,fun y hy e=>?_,fun y hy e=>?_,?_⟩
 ·have:=h1 y hy
  simp only [Bool.and_eq_true] at this
  simpa using this.1.1
 ·have:=h1 y hy
  simp only [Bool.and_eq_true] at this
  have:=this.1.2
  rw [e] at this
  simpa using this
 ·have:=h1 y hy
  simp only [Bool.and_eq_true] at this
  have:=this.2
  rw [e] at this
  show X.env.scope.names.lookup y.1=_\/X.env.scope.names.lookup y.1=_
  rw [hs]
  simpa using this
 ·rw [hN]
  refine qt (by simpa using hl) fun p hp=>?_
  have:=h2 p hp
  simp only [Bool.or_eq_true,Bool.and_eq_true,beq_iff_eq,bne_iff_ne] at this
  exact this
section
variable {fa:Fa}{X:Cx}{elt tg iter c t2 i2:Expr}{scope:Scope}{pos:Pos}{own bn:List Str}{t u:dD}{gw gw2:GW}{ge:GE}{gc:GT}
theorem kS {n:Nat}{l:List Nat}(h:l.all (· < n)=true):∀i∈l,i<n:=fun i hi=>by
 have:=List.all_eq_true.mp h i hi
 simpa using this
theorem zP {l W:List Nat}(h:W.all (fun i=>!l.contains i)=true):∀i∈W,i∉l:=fun i hi z=>by
 have:=List.all_eq_true.mp h i hi
 simp [z] at this
variable {i:Nat}{y:Str}{py spos:Pos}
theorem D7 (m:Bool)(S:fX X own bn scope)(hc:X.calm=true)(hi:DI fa X tg iter gw)(pg:∀cl C fp s H,PG (cC X own bn scope cl C fp s H) tg (gT fa X.K t))(hi2:∀cl C fp s H,DI fa (cC X own bn scope cl C fp s H) t2 i2 gw2)(pg2:∀cl C fp s H,PG (cC X own bn scope cl C fp s H) t2 (gT fa X.K u))(he:∀cl C fp s H,DE fa (cC X own bn scope cl C fp s H) elt ge)
 (hn:(slots t++slots u).all (· < own.length)=true) (hW:(slots u).all (fun i=>!(slots t).contains i)=true) (hs:∀x,foldedSetIterable iter X.env x=pure x) (hs2:∀cl C fp s H,∀x,foldedSetIterable i2 (cC X own bn scope cl C fp s H).env x=pure x)
 (hN:X.N.Nodup) (hy:X.N[i]?=some y) (hl:X.env.scope.names.lookup y=some .local)
 (hsw:swapsWith (.ListComp elt [⟨tg,iter,[],0⟩,⟨t2,i2,[],0⟩] scope pos) (some (.Name y py)) spos.line X.env=pure true):DS fa X (.Assign [.Name y py] (.ListComp elt [⟨tg,iter,[],0⟩,⟨t2,i2,[],0⟩] scope pos) spos) (aV (.one i) (bX m own.length t gw (r8 u gw2 (cg ge)))):=
 uU m (W:=slots u) (body:=fun a env=>eval i2 env >>= fun x=>standAt i2.pos >>= fun _=>foldedSetIterable i2 env x >>= fun x=>holding [x] (pyIter x) >>= fun j=>runOwn (.compStart (.ListComp elt [⟨tg,iter,[],0⟩,⟨t2,i2,[],0⟩] scope pos) 1 j (.ref a) env) env >>= fun _=>pure ())
  S hc hi ⟨pg,fun cl C fp s H a=>IG (X:=cC X own bn scope cl C fp s H) rfl hc (hi2 cl C fp s H) (pg2 cl C fp s H) (he cl C fp s H) (hs2 cl C fp s H)⟩ (fun it a env=>Br elt tg iter t2 i2 scope pos (.ref it) (.ref a) env) (zP hW) (kS hn) hs hN hy hl hsw
end
end LD
namespace LD
open PySem PySem.Spec PyProof.Rows L2
theorem ki {α β:Type}{f g:α->Option β}:∀{l:List α},(∀x∈l,f x=g x)->l.filterMap f=l.filterMap g
 |[],_=>rfl
 | a :: l, h => by
   rw [List.filterMap_cons,List.filterMap_cons,h a List.mem_cons_self,ki (l:=l) fun x hx=>h x (List.mem_cons_of_mem _ hx)]
theorem sP (n:Nat)(xs:List Value)(h:xs.length=n):(List.range n).filterMap (fun (k:Nat)=>xs[n-1-k]?)=xs.reverse:=by
 have e:∀k∈List.range n,xs[n-1-k]?=some (xs.reverse.getD k .none):=fun k hk=>by
  have hk:=List.mem_range.mp hk
  rw [List.getD_eq_getElem?_getD,List.getElem?_reverse (by omega),h,List.getElem?_eq_getElem (by omega)]
  simp
 have:(List.range n).filterMap (fun (k:Nat)=>xs[n-1-k]?)=(List.range n).map fun k=>xs.reverse.getD k .none:=by
  rw [ki (g:=fun k=>some (xs.reverse.getD k .none)) e]
  simp
 rw [this]
 refine List.ext_getElem? fun i=>?_
 rw [List.getElem?_map]
 by_cases hi:i<n
 ·rw [List.getElem?_range hi]
  show some (xs.reverse.getD i .none)=_
  rw [List.getD_eq_getElem?_getD,List.getElem?_eq_getElem (show i<xs.reverse.length by simp;omega)]
  simp
 ·rw [List.getElem?_eq_none (by simp;omega),List.getElem?_eq_none (by simp;omega)]
  rfl
theorem tM (its:List Value):slicePick its.toArray none none (some (-1))=its.reverse.toArray:=by
 unfold slicePick sliceBounds sliceRange
 simp only [Option.getD_some,List.size_toArray]
 have e1:¬ ((-1:Int) > 0):=by decide
 simp only [e1,if_false]
 have e2:(if (its.length:Int)-1 > -1 then ((its.length:Int)-1 - -1 - -1-1) / (- -1) else 0).toNat=its.length:=by
  split
  ·simp
  ·omega
 rw [e2,List.filterMap_map,<- sP its.length its rfl]
 congr 1
 refine ki fun k hk=>?_
 have hk:=List.mem_range.mp hk
 have e3:((its.length:Int)-1+-1*(k:Int)).toNat=its.length-1-k:=by omega
 show its.toArray[((its.length:Int)-1+-1*(k:Int)).toNat]?=_
 rw [e3]
 simp
section
variable {prog:Program}{w:World}{A:Around}{E:Value->Shared->Prop}{s:Shared}
theorem oX {t sl:Addr}{items:Array Value}{k:Tok}{Q:Value->Shared->Prop}(ht:IsTup s.heap t items)(hs:s.heap.IsSliceOf sl .none .none (.int (-1) k))
 (h:Q (.ref s.heap.objs.size) {s with heap:=s.heap.push {cls:=.type "tuple",data:=.seq items.toList.reverse.toArray}})
 (hsz:items.size<=sizeLine):wpAny (model prog w) A (getItem (.ref t) (.ref sl)) Q E s:=by
 have htake:sizeOk (.seq items.toList.reverse.toArray):=by
  show items.toList.reverse.toArray.size<=sizeLine
  simpa using hsz
 obtain ⟨os,hos,hcs,hds⟩:=id hs
 have hTs:s.TypeIs (.ref sl) "slice":=⟨os,hos,hcs⟩
 unfold getItem
 try with_reducible refine tqo ?_
 first|refine tqa (tqb ?_)|skip
 refine tqa (wpAny_sequenceKey ht.typeIs (by decide) ?_)
 refine tqa (wpAny_callSpecial?_slot (name:=Str.ofString "__getitem__") ht.typeIs PyProof.Rows.slot_tuple_getitem
  (wpAny_call_entry PyProof.Rows.slot_tuple_getitem ht.typeIs entry_tuple_getitem ?_ (args_tuple_getitem _ _)))
 show wpAny _ _ (Builtin.Tuple.tupleItemsOf (.ref t) >>= _) _ _ s
 refine tqa (tupleItemsOf_ ht ?_)
 refine tqa (wpAny_typeOf hTs ?_)
 rw [if_pos (by decide)]
 unfold Builtin.Slice.sliceApplied Builtin.Slice.sliceFields
 refine tqa (tqa (tqa (tqf hos hds (x:=.none) rfl (tqa (tqf hos hds (x:=.none) rfl (tqa (tqf hos hds (x:=.int (-1) k) rfl (tqb ?_))))))))
 refine tqa (slicePart_int ?_)
 show wpAny _ _ (if ((-1:Int)==0)=true then _ else _) _ _ s
 rw [if_neg (by decide)]
 refine tqa (slicePart_none (tqa (slicePart_none (tqa (tqb ?_)))))
 have ea:Builtin.Slice.sliceAdjust none none (-1) (items.size:Int)=((items.size:Int)-1,-1):=by simp [Builtin.Slice.sliceAdjust]
 have ep:Builtin.Slice.slicePlaces ((items.size:Int)-1) (-1) (-1)=items.size:=by
  unfold Builtin.Slice.slicePlaces
  rw [if_neg (by decide)]
  split
  ·simp
  ·omega
 show wpAny _ _ (match Builtin.Slice.sliceAdjust none none (-1) (items.size:Int) with|(lo,hi)=>pure (lo,(-1:Int),Builtin.Slice.slicePlaces lo hi (-1))) _ _ s
 rw [ea]
 show wpAny _ _ (pure ((items.size:Int)-1,(-1:Int),Builtin.Slice.slicePlaces ((items.size:Int)-1) (-1) (-1))) _ _ s
 rw [ep]
 refine tqb ?_
 have hno:¬ ((((items.size:Int)-1)==0&&(-1:Int)==1&&items.size==items.size)=true):=by simp
 show wpAny _ _ (if (((items.size:Int)-1)==0&&(-1:Int)==1&&items.size==items.size)=true then _ else _) _ _ s
 rw [if_neg hno]
 have pick:((List.range items.size).filterMap fun (m:Nat)=>items[(((items.size:Int)-1)+(m:Int) * -1).toNat]?).toArray=items.toList.reverse.toArray:=by
  rw [<- sP items.size items.toList (by simp)]
  congr 1
  refine ki fun m hm=>?_
  have hm:=List.mem_range.mp hm
  have e3:((items.size:Int)-1+(m:Int) * -1).toNat=items.size-1-m:=by omega
  rw [e3]
  simp
 rw [pick]
 first
  |exact tqa (m:=Builtin.Tuple.tupleExact _) (wpAny_newObj_type (tqb ⟨_,rfl,tqb h⟩) htake)
  |exact tqa (m:=Builtin.Tuple.tupleExact _) (wpAny_newObj_type (tqa (tqb (tqb ⟨_,rfl,tqb h⟩))) htake)
  |exact tqa (tqa (m:=Builtin.Tuple.tupleExact _) (wpAny_newObj_type (tqb (tqb ⟨_,rfl,tqb h⟩)) htake))
  |exact tqa (tqa (m:=Builtin.Tuple.tupleExact _) (wpAny_newObj_type (tqb ⟨_,rfl,tqb h⟩) htake))
end
section
variable {fa:Fa}{X:Cx}{a st:Expr}{ga:GE}{pos p2:Pos}
def xQ (m:Bool)(x:D)(M:Mem):Res D:=match x with
 |.tup xs=>.ok (.tup xs.reverse) M
 | x => match gW M x with
   |some xs=>cf m xs.reverse M
   |none=>.bad
def rZ (m:Bool)(a:GE):GE:=fun Z M=>(a Z M).bind fun x M=>xQ m x M
def Gi (K:PySem.W.Frag):V->Hp->VK->Prop:=fun x H Q=>∃a xs,x=.ref a/\((dA K H a xs/\∀p,H p=none->Q (.ref p) (upd H p (.lst xs.reverse)))\/(eD K H a xs/\∀p,H p=none->Q (.ref p) (upd H p (.tup xs.reverse))))
theorem pz:∀{xs:List V}{us:List Value},Vals xs us->Vals xs.reverse us.reverse
 |_,_,.nil=>.nil
 | _, _, .cons p r => by
   rw [List.reverse_cons,List.reverse_cons]
   exact (pz r).append (.cons p .nil)
theorem GF {ta:TE}(ha:PE X a ta){ts:TE}(hst:PE X st ts) :
 PE X (.Subscript a (.Slice none none (some st) p2) pos) (fun σ H Q=>ta σ H fun x H1=>ts σ H1 fun y H2=>y=.int (-1)/\Gi X.K x H2 Q):=by
 intro pins s σ H Q I h
 refine Subscript_ (bz (ha pins s σ H _ I h) fun v s1 ⟨x,H1,I1,r1,q1⟩=>?_)
 refine wpAny_Slice ?_
 rw [evalPart_none]
 refine tqb ?_
 refine tqb ?_
 rw [evalPart_some]
 refine bz (hst pins s1 σ H1 _ I1 q1) fun vu s3 ⟨y,H3,I3,r3,ey,q3⟩=>?_
 subst ey
 obtain ⟨k,rfl⟩:=r3
 have I4:Inv X pins σ H3 {s3 with heap:=s3.heap.push {cls:=.type "slice",data:=.fields #[.none,.none,.int (-1) k]}}:=I3.kept (t':=s3.toks) fun b ob q=>tqc _ q
 have hsl:(s3.heap.push {cls:=.type "slice",data:=.fields #[.none,.none,.int (-1) k]}).IsSliceOf s3.heap.objs.size .none .none (.int (-1) k):=Heap.IsSliceOf.new ..
 obtain ⟨b,xs,rfl,q⟩:=q3
 cases r1
 have key:∃T id,typeLookup (.type T) "__getitem__"=pure (some (.builtin id))/\Shared.TypeIs {s3 with heap:=s3.heap.push {cls:=.type "slice",data:=.fields #[.none,.none,.int (-1) k]}} (.ref b) T/\wpAny (model X.prog X.w) X.A (getItem (.ref b) (.ref s3.heap.objs.size)) (EP X pins σ Q) X.xe {s3 with heap:=s3.heap.push {cls:=.type "slice",data:=.fields #[.none,.none,.int (-1) k]}}:=by
  rcases q with ⟨hx,q⟩|⟨hx,q⟩
  ·obtain ⟨its,r,ht,hz⟩:=I4.list hx
   have hlen:=r.length
   refine ⟨"list",_,slot_list_getitem.lookup,ht.isList.typeIs,?_⟩
   refine wpAny_getItem_list_slice ht.isList hsl .none .none (.int (-1) k) (by decide) ?_ (by rw [List.size_toArray]<;>omega)
   rw [tM]
   refine ⟨.ref _,_,I4.laid (t':=s3.toks) (o:=.lst xs.reverse) (fun b ob q=>tqc _ q) (tqg _) ?_,rfl,q _ (I4.hok.fresh (tqg _))⟩
   exact ⟨by simpa using hz,_,0,pz r,tqe _ rfl⟩
  ·obtain ⟨its,r,ht,hz⟩:=I4.tuple hx
   have hlen:=r.length
   refine ⟨"tuple",_,PyProof.Rows.slot_tuple_getitem.lookup,ht.typeIs,?_⟩
   refine oX ht hsl ?_ (by rw [List.size_toArray,<- hlen];exact hz)
   refine ⟨.ref _,_,I4.laid (t':=s3.toks) (o:=.tup xs.reverse) (fun b ob q=>tqc _ q) (tqg _) ?_,rfl,q _ (I4.hok.fresh (tqg _))⟩
   exact ⟨by simpa using hz,_,pz r,IsTup.new _ _⟩
 obtain ⟨T,id,hT,ht,hg⟩:=key
 show wpAny (model X.prog X.w) X.A (subscriptTail a (.Slice none none (some st) p2) (.ref b) (.ref s3.heap.objs.size)) (EP X pins σ Q) X.xe {s3 with heap:=s3.heap.push {cls:=.type "slice",data:=.fields #[.none,.none,.int (-1) k]}}
 exact tail_any (ops:=[.ref b,.ref s3.heap.objs.size]) ht hT hg (by with_unfolding_all rfl)
theorem Jr (m:Bool){pc pu:Pos}{k:Nat}(ha:DE fa X a ga):DE fa X (.Subscript a (.Slice none none (some (.UnaryOp .USub (.Constant (.int 1) k pc) pu)) p2) pos) (rZ m ga):=
 cG (GF ha (Dd zj Aa)) fun σ H Q ⟨μ,Z,M,hE,hM,h⟩=>t1 hE hM h fun x M1 v H1 μ1 x1 hE1 hM1 r1 h1=>by
  refine ⟨1,rfl,rfl,?_⟩
  have lst:∀(ds:List D) (b:Addr) (vs:List V),dA X.K H1 b vs->bf fa X.K μ1 H1 ds vs->au (cf m ds.reverse M1) (bG fa X.K μ H Q)->Gi X.K (.ref b) H1 Q:=fun ds b vs hs hr h1=>by
   obtain ⟨_,q⟩:=iL hM1 hr.reverse (md h1 x1)
   exact ⟨b,vs,rfl,.inl ⟨hs,q⟩⟩
  cases x with
  | tup ds =>
    obtain ⟨b,vs,rfl,hs,hr⟩:=r1
    exact ⟨b,vs,rfl,.inr ⟨hs,ju hM1 hr.reverse (bG.ext h1 x1)⟩⟩
  | lst ds =>
    obtain ⟨b,vs,rfl,hs,hr⟩:=r1
    exact lst ds b vs (dA.of hs.1) hr h1
  | frz ds =>
    obtain ⟨b,vs,rfl,hs,hr⟩:=r1
    exact lst ds b vs (hs.elim (fun ⟨o,z⟩=>.inl (.inr ⟨o,z⟩)) .inr) hr h1
  | cell k =>
    obtain ⟨b,rfl,hk⟩:=r1
    obtain ⟨ds,vs,e,hH,hr⟩:=hM1.mu_lt hk
    have h1:au (match M1[k]? with|some xs=>cf m xs.reverse M1|none=>.bad) (bG fa X.K μ H Q):=h1
    rw [e] at h1
    exact lst ds b vs (dA.of hH) hr h1
  |_=>exact h1.elim
end
end LD
namespace LD
open PySem PySem.Spec PyProof.Rows L2
theorem mm {fa:Fa}{mg:Str->Option Value}{i:Nat}{x:Str}{f:Addr}(e:fa i=some f)(m:mg x=some (.ref f)):∀ad,fa i=some ad->mg x=some (.ref ad):=fun ad h=>by rw [e] at h;cases h;exact m
theorem us1 {α:Type}{p:List α->Prop}(h:∀a,p [a])(us:List α)(hl:us.length=1):p us:=by
 obtain ⟨a,rfl⟩:=List.length_eq_one_iff.mp hl;exact h a
theorem Kq {α:Type}{p:List α->Prop}(h:∀a b,p [a,b]):∀(us:List α) (hl:us.length=2),p us
 |[a,b],_=>h a b
theorem us3 {α:Type}{p:List α->Prop}(h:∀a b c,p [a,b,c]):∀(us:List α) (hl:us.length=3),p us
 |[a,b,c],_=>h a b c
theorem us4 {α:Type}{p:List α->Prop}(h:∀a b c d,p [a,b,c,d]):∀(us:List α) (hl:us.length=4),p us
 |[a,b,c,d],_=>h a b c d
theorem JL {K:PySem.W.Frag}{h:Heap}{mg:Str->Option Value}{f:Addr}{x:Str}{st:Stmt}{oc:Value}{od an:Option Addr}{osl:Array (Option Value)}{kV doc pm cdv ct:Value}(X:K.In h)(G:h.Ns mainGlobals mg)
 (a:PySem.W.nsIn K mainGlobals x=some (some (.ref f))) (l:K.lookup f=some ⟨oc,od,.func (PySem.W.fnOf x x (gK st) (dH st) (aT st) .none kV doc pm an cdv ct),osl⟩)
 (c:PySem.W.codeIn K cdv x=true) (k:PySem.W.keepIn K (.ref f)=true):∃f fd,mg x=some (.ref f)/\pe K x x st f fd:=⟨f,_,PySem.W.mg_of X G a,AM l c k⟩
theorem mf {K:PySem.W.Frag}{h:Heap}{mg:Str->Option Value}{x:Str}{i:Int}{t:Tok}(X:K.In h)(G:h.Ns mainGlobals mg)(a:PySem.W.nsIn K mainGlobals x=some (some (.int i t))):∃t,mg x=some (.int i t):=⟨t,PySem.W.mg_of X G a⟩
theorem eA {K:PySem.W.Frag}{h:Heap}{mg:Str->Option Value}{x:Str}{f:Addr}(X:K.In h)(G:h.Ns mainGlobals mg)(a:PySem.W.nsIn K mainGlobals x=some (some (.ref f))):mg x=some (.ref f):=PySem.W.mg_of X G a
theorem gA {K:PySem.W.Frag}{h:Heap}{mg:Str->Option Value}{x:Str}(X:K.In h)(G:h.Ns mainGlobals mg)(a:PySem.W.nsIn K mainGlobals x=some none):mg x=none:=PySem.W.mg_none_of X G a
theorem AD {P:Params}:Paired (pX P) [] []:=.nil
theorem iS {P:Params}{x:Str}{t:Tok}{a:Addr}{es:List DictEntry}{kvs:List (Str×Addr)}(h:Paired (pX P) es kvs):Paired (pX P) (⟨PyData.keyHash P x,.str x t,.ref a⟩::es) ((x,a)::kvs):=.cons ⟨t,rfl⟩ h
def C8 (K:PySem.W.Frag):Sp:=fun vs H Q _=>∃(a:Addr) (ns:List Int),vs=[.ref a]/\dA K H a (ns.map V.int)/\yZ H/\ns.length<=63/\∀H',Q (.bl true) H'
theorem HP {fa:Fa}{P:Program}{w:World}{K:PySem.W.Frag}{mg:Str->Option Value}{base:Heap}{Pg:Nat->Option Df}{n f:Nat}{ad:Addr}{d:Df}{fd:FuncData}{N:List Str}{st:Stmt}{x qual y:Str}(h:∀f d,Pg f=some d->uk fa P w K mg base f d)
 (hl:∀ns:List Int,ns.length<=63->∃M,aw Pg (n+1) f [.frz (ns.map D.int)] []=.ok (.bl true) M) (e:Pg f=some d) (F:pe K x qual st ad fd) (S:iq N [y] (aT st)) (hs:d.slots=N.length)
 (hbody:∀(call:Call) (n:Nat) (cdv:Value) (A:Around) (outer:List PySem.Env) (s:Shared) (H:Hp) (E:XK),(∀f,iD fa P w K mg base n f (call f))->cU (n+4) (A.deeper (envOfC qual (aT st) s.heap.objs.size ad cdv))->
  iC fa (gQ (iX P w) P w K mg base N qual (aT st) ad cdv A outer s H E) (dH st) (d.body call)):lX P w K mg base (iX P w) (n+4+1) ad fd [y] (C8 K):=by
 have eq:∀ds M,aw Pg (n+1) f ds M=iO (aw Pg n) d ds M:=fun ds M=>by show (match Pg f with|none=>Res.bad|some d=>iO (aw Pg n) d ds M)=_;rw [e]
 refine r9 F S (fun vs H Q E hsp=>?_) fun cdv A outer s H vs Q E hr hsp=>⟨_,hbody (aw Pg n) n cdv A outer s H E (vS h n) hr,?_⟩
 ·obtain ⟨a,ns,rfl,_⟩:=hsp;rfl
 ·obtain ⟨a,ns,rfl,hS,hO,hn,q⟩:=hsp
  obtain ⟨M',e'⟩:=hl ns hn
  rw [eq] at e'
  have rp:bf fa K ⟨fun _=>none,[]⟩ H [.frz (ns.map D.int)] [.ref a]:=by
   refine ⟨.ref a,[],rfl,⟨a,ns.map V.int,rfl,?_,bf.ints ns⟩,rfl⟩
   rcases hS with (z|⟨o,z⟩)|z
   ·rcases hO a with y|⟨o,xs,y⟩
    ·rw [y] at z;cases z
    ·rw [y] at z;cases z
   ·exact .inl ⟨o,z⟩
   ·exact .inr z
  refine tm (μ:=⟨fun _=>none,[]⟩) (M:=[]) hs ⟨fun k ds z=>by simp at z,fun _ _=>rfl,(fun _ _ _ z=>nomatch z),(fun _ z=>nomatch z)⟩ rp ?_
  rw [e']
  intro v H' μ' _ _ r
  obtain rfl:v=.bl true:=r
  exact q H'
theorem D9 {o:Option Value}{a b:Addr}(h:o=some (.ref a))(h':o=some (.ref b)):a=b:=by rw [h] at h';cases h';rfl
theorem g8 {fa:Fa}{x:Str}{a b:Addr}{i:Nat}{kvs:List (Str×Addr)}{fs:List (Str×Nat)}{o:Option Value}(h:fa i=some a)(h1:o=some (.ref a))(h2:o=some (.ref b))(r:gu fa kvs fs):gu fa ((x,b)::kvs) ((x,i)::fs):=
 .cons ⟨rfl,by rw [<- D9 h1 h2];exact h⟩ r
theorem xi {K:PySem.W.Frag}{h:Heap}{mg:Str->Option Value}{x:Str}{ad:Addr}{P:Params}{es:Array DictEntry}{n:Nat}{kvs:List (Str×Addr)}{fa:Fa}{fs:List (Str×Nat)}(X:K.In h)(G:h.Ns mainGlobals mg)(a:PySem.W.nsIn K mainGlobals x=some (some (.ref ad)))
 (l:K.lookup ad=some {cls:=.type "dict",data:=.dict es n}) (he:Paired (pX P) es.toList kvs) (nd:(kvs.map (·.1)).Nodup) (ns:(ad==sysModules)=false) (dk:gu fa kvs fs):∃ad kvs,mg x=some (.ref ad)/\jK K P ad kvs/\gu fa kvs fs:=
 ⟨ad,kvs,PySem.W.mg_of X G a,⟨⟨es,n,l,he⟩,nd,ns⟩,dk⟩
end LD
namespace LD
open PySem PySem.Spec PyProof.Rows L2
theorem zx (lo hi:Option Int)(n:Nat):Builtin.Str.strSliceIndices lo hi 1 n=(List.range (HT.a9 n n hi-HT.a9 n 0 lo)).map (HT.a9 n 0 lo+·):=by
 rw [<- sliceRange_one]
 unfold Builtin.Str.strSliceIndices
 simp only [show (1:Int) > 0 by decide,if_true]
 congr 1
 ·cases lo with
  |none=>rfl
  | some i =>
    simp only [HT.a9]
    split<;>omega
 ·cases hi with
  |none=>rfl
  | some i =>
    simp only [HT.a9]
    split<;>omega
def jD (z:Str)(l h:Nat):Str:=⟨(cut z.cps.toList l h).toArray⟩
section
variable {fa:Fa}{X:Cx}{a b:Expr}{ga gb:GE}{pos p2:Pos}{tg:Expr}
theorem u7 {v:Value}{o:Option Int}(h:IsPart v o):∃p:Option (Int×Tok),v=partValue p/\p.map (·.1)=o:=by
 cases h with
 |none=>exact ⟨none,rfl,rfl⟩
 |int i t=>exact ⟨some (i,t),rfl,rfl⟩
theorem FR:nt X (fun x lo hi H Q=>∃z:Str,x=.str z/\z.cps.size<=sizeLine/\Q (.str (jD z (HT.a9 z.cps.size 0 lo) (HT.a9 z.cps.size z.cps.size hi))) H):=by
 intro pins s σ H x v vl vu lo hi sl Q I rx hs pl pu h
 obtain ⟨z,rfl,hz,q⟩:=h
 obtain ⟨t,rfl⟩:=rx
 obtain ⟨l,rfl,el⟩:=u7 pl
 obtain ⟨u,rfl,eu⟩:=u7 pu
 refine ⟨"str",_,slot_str_getitem.lookup,typeIs_str s z t,?_⟩
 refine wpAny_getItem_str_slice (l:=l) (u:=u) (st:=none) hs rfl ?_
 have e:(slicePicked z l u none).filterMap (z.cps[·]?)=cut z.cps.toList (HT.a9 z.cps.size 0 lo) (HT.a9 z.cps.size z.cps.size hi):=by
  unfold slicePicked
  rw [el,eu]
  show (Builtin.Str.strSliceIndices lo hi 1 z.cps.size).filterMap _=_
  rw [zx,pick_run]
  rfl
 unfold sliceMade
 split
 ·next c=>
  have c':(slicePicked z l u none).length=z.length:=by simpa using c
  have e2:jD z (HT.a9 z.cps.size 0 lo) (HT.a9 z.cps.size z.cps.size hi)=z:=by
   have hl:HT.a9 z.cps.size z.cps.size hi-HT.a9 z.cps.size 0 lo=z.cps.size:=by
    unfold slicePicked at c'
    rw [el,eu] at c'
    have c':(Builtin.Str.strSliceIndices lo hi 1 z.cps.size).length=z.cps.size:=c'
    rw [zx] at c'
    simpa using c'
   have hh:HT.a9 z.cps.size z.cps.size hi<=z.cps.size:=by
    cases hi with
    |none=>exact tqg _
    |some i=>simp only [HT.a9];split<;>omega
   have h0:HT.a9 z.cps.size 0 lo=0\/z.cps.size=0:=by omega
   unfold jD cut
   rw [hl]
   rcases h0 with h0|h0
   ·rw [h0]
    rcases z with ⟨zs⟩
    show (⟨(List.take zs.size (List.drop 0 zs.toList)).toArray⟩:Str)=⟨zs⟩
    rw [List.drop_zero,List.take_of_length_le (by simp)]
   ·have:z.cps=#[]:=Array.eq_empty_of_size_eq_zero h0
    rcases z with ⟨zs⟩
    simp at this
    subst this
    simp
  rw [e2] at q
  exact ⟨.str z,H,I,⟨t,rfl⟩,q⟩
 ·rw [e]
  refine ⟨?_,.str _,H,I.tok _,⟨_,rfl⟩,q⟩
  have:(cut z.cps.toList (HT.a9 z.cps.size 0 lo) (HT.a9 z.cps.size z.cps.size hi)).length<=z.cps.size:=by
   unfold cut
   rw [List.length_take,List.length_drop]
   simp
   omega
  show (cut z.cps.toList _ _).toArray.size<=sizeLine
  simp at this ⊢
  omega
def oB (hl hh:Bool)(a lo hi:GE):GE:=fun Z M=>(a Z M).bind fun x M=>(lo Z M).bind fun l M=>(hi Z M).bind fun h M=>if cL hl l&&cL hh h then (match x with
 | .str z => if z.cps.size <= sz then (match a9 z.cps.size 0 l, a9 z.cps.size z.cps.size h with
   |some l,some h=>.ok (.str (jD z l h)) M
   |_,_=>.bad) else .bad
 |_=>.bad) else .bad
theorem Ga (hl hh:Bool){lo hi:Option Expr}{gl gh:GE}(ha:DE fa X a ga)(hlo:DO fa X lo hl gl)(hhi:DO fa X hi hh gh):DE fa X (.Subscript a (.Slice lo hi none p2) pos) (oB hl hh ga gl gh):=
 cG (u5 FR ha hlo hhi) fun σ H Q ⟨μ,Z,M,hE,hM,h⟩=>t1 hE hM h fun x M1 v H1 μ1 x1 hE1 hM1 r1 h1=>by
  obtain ⟨l,M2,e2,h2⟩:=bq h1
  obtain ⟨u,M3,e3,h3⟩:=bq h2
  split at h3
  ·next c=>
   rw [Bool.and_eq_true] at c
   obtain ⟨ol,el⟩:=part_of c.1
   obtain ⟨ou,eu⟩:=part_of c.2
   refine ⟨μ1,Z,M1,hE1,hM1,?_⟩
   rw [e2]
   refine ⟨ol,c.1,el,fun H2 μ2 x2 hM2=>⟨μ2,Z,M2,hE1.ext x2,hM2,?_⟩⟩
   rw [e3]
   refine ⟨ou,c.2,eu,fun H3 μ3 x3 hM3=>?_⟩
   cases x with
   | str z =>
     obtain rfl:v=.str z:=r1
     dsimp only at h3
     split at h3
     ·next hz=>
      simp only [pE,el,eu,Option.map_some] at h3
      exact ⟨z,rfl,by rw [<- d5];exact hz,bE (v:=.str _) hM3 (bG.ext h3 ((x1.trans x2).trans x3)) rfl⟩
     ·exact h3.elim
   |_=>exact h3.elim
  ·exact h3.elim
def signs (z:Str):List D:=z.cps.toList.map fun c=>.str ⟨#[c]⟩
def IY (z:Str):It:=⟨fun i _=>i<z.cps.size,fun i H x H'=>H'=H/\∃c,z.cps[i]?=some c/\x=.str ⟨#[c]⟩,fun i _=>z.cps.size<=i⟩
theorem ux {P:Program}{w:World}{K:PySem.W.Frag}{n:String}(hn:["enumerate","zip","dict_itemiterator","dict_reverseitemiterator","odict_iterator","itertools.zip_longest","itertools.pairwise"].contains n=false)(it:Addr)(z:Str)(t:Tok)
 (W:∀A':Around,A'.handled=none->Walks P w A' it [it] [it] z.cps.size (SignAt z) (fun i h=>h.IsStrIter it n z t i))
 (S:∀(A:Around) (i:Nat) (s:Shared) (Q:Value->Shared->Prop) (E:Value->Shared->Prop),s.heap.IsStrIter it n z t i->Q (.ref it) s->wpAny (model P w) A (pyIter (.ref it)) Q E s)
 (D:∀(A:Around) (hh:A.handled=none) (i:Nat) (s:Shared) (Q:Option Value->Shared->Prop) (E:Value->Shared->Prop),s.heap.IsStrIter it n z t i->z.cps.size<=i->(∀h',(∀b o,b≠it->s.heap.get? b=some o->h'.get? b=some o)->Q none {s with heap:=h'})->wpAny (model P w) A (pyNext (.ref it)) Q E s) :
 Turn P w K tg (IY z) [it] it (fun i h=>h.IsStrIter it n z t i) where
 mem:=by simp
 obj:=fun i h st b hb=>by
  have e:b=it:=by simpa using hb
  subst e
  obtain ⟨o,e,c,d⟩:=st
  exact ⟨o,e,fun v z=>by rw [d] at z;cases z⟩
 keep:=fun i h h' st k=>let ⟨o,e,r⟩:=st;⟨o,k it (by simp) o e,r⟩
 item:=by
  intro X hP hw hK hc i pins s σ H E I hf st hg
  subst hP hw hK
  obtain ⟨f0,f1,f2,f3,f4,f5⟩:=hf it (by simp)
  refine (W X.A (I.ok.hd hc)).item i s _ _ hg st fun v h' tk hv st' kk=>?_
  obtain ⟨c,u,hc',rfl⟩:=hv
  have I1:Inv X pins σ H {s with heap:=h',toks:=tk}:=I.turned (fun b o hb e=>kk b o (by simpa using hb) e) f0 f1 f3 f4 f5
  obtain ⟨o,e,co,d⟩:=id st'
  exact ⟨_,rfl,ug (s:={s with heap:=h',toks:=tk}) e co d hn ⟨.str ⟨#[c]⟩,H,I1,⟨u,rfl⟩,⟨rfl,c,hc',rfl⟩,st',fun b hb=>(hf b hb).1⟩⟩
 done:=by
  intro X hP hw hK hc i pins s σ H E I hf st hg
  subst hP hw hK
  obtain ⟨f0,f1,f2,f3,f4,f5⟩:=hf it (by simp)
  exact D X.A (I.ok.hd hc) i s _ _ st hg fun h' eb=>⟨rfl,I.turned (t':=s.toks) (fun b o hb e=>eb b o hb e) f0 f1 f3 f4 f5⟩
 self:=fun A i s Q E st h=>S A i s Q E st h
theorem Gx {l:Expr}{tl:TE}(hl:PE X l tl):PI X tg l (fun σ H R=>tl σ H fun x H1=>∃z,x=.str z/\R (IY z) H1):=by
 intro pins s σ H R I h
 refine bz (hl pins s σ H _ I h) fun v s1 ⟨x,H1,I1,r1,q1⟩=>?_
 obtain ⟨z,rfl,q⟩:=q1
 obtain ⟨t,rfl⟩:=r1
 have fp:∀b∈[s1.heap.objs.size],iy X pins H1 b:=fun b hb=>by
  have e:b=s1.heap.objs.size:=by simpa using hb
  subst e
  exact I1.fpOk (tqg _) (I1.hok.fresh (tqg _))
 cases ha:z.cps.all (· < 128)
 ·refine wpAny_pyIter_wide ha ?_
  exact ⟨s1.heap.objs.size,[s1.heap.objs.size],_,_,H1,rfl,I1.kept (t':=s1.toks) fun b o e=>tqc _ e,ux (n:="str_iterator") rfl _ z t (fun A' h=>Walks.strWide h _ z t) (fun A i s Q E st h=>wpAny_pyIter_striter_wide st h) (fun A hh i s Q E st hi k=>wpAny_pyNext_wide_end hh st (by simp;omega) k),⟨_,tqe _ rfl,rfl,rfl⟩,fp,q⟩
 ·refine wpAny_pyIter_ascii ha ?_
  exact ⟨s1.heap.objs.size,[s1.heap.objs.size],_,_,H1,rfl,I1.kept (t':=s1.toks) fun b o e=>tqc _ e,ux (n:="str_ascii_iterator") rfl _ z t (fun A' h=>Walks.strAscii h _ z t) (fun A i s Q E st h=>wpAny_pyIter_striter_ascii st h) (fun A hh i s Q E st hi k=>wpAny_pyNext_ascii_end hh st (by simp;omega) k),⟨_,tqe _ rfl,rfl,rfl⟩,fp,q⟩
def qR (ga:GE):Env->Mem->Res Walk:=fun Z M=>(ga Z M).bind fun x M=>match x with
 |.str z=>.ok (fun _=>some (signs z)) M
 |_=>.bad
theorem Bm {μ0:Mu}{H0:Hp}(z:Str):fy fa X.K μ0 H0 (fun _=>some (signs z)) (IY z):=fun μ H M ds x hM e=>by
 cases e
 refine ⟨fun i d hd=>?_,fun i hi=>(show z.cps.size<=i by simpa [signs] using hi)⟩
 have hd:(signs z)[i]?=some d:=hd
 unfold signs at hd
 rw [List.getElem?_map] at hd
 cases e:z.cps.toList[i]? with
 |none=>rw [e] at hd;cases hd
 | some c =>
   rw [e] at hd
   have e':D.str ⟨#[c]⟩=d:=Option.some.inj hd
   subst e'
   have e2:z.cps[i]?=some c:=by simpa using e
   refine ⟨(Array.getElem?_eq_some_iff.mp e2).1,fun y H' ⟨e1,c',e3,e4⟩=>?_⟩
   rw [e2] at e3
   cases e3
   subst e1 e4
   exact ⟨.refl,hM,rfl⟩
theorem E6 (ha:DE fa X a ga):DI fa X tg a (qR ga):=fun pins s σ H R I ⟨μ,Z,M,hE,hM,h⟩=>by
 obtain ⟨x,M1,e,q⟩:=bq h
 refine Gx ha pins s σ H R I ⟨μ,Z,M,hE,hM,?_⟩
 rw [e]
 intro v H1 μ1 x1 m1 r1
 cases x with
 | str z =>
   obtain rfl:v=.str z:=r1
   exact ⟨z,rfl,q _ H1 μ1 x1 m1 (Bm z)⟩
 |_=>exact q.elim
end
end LD
namespace LD
open PySem PySem.Spec PySem.Calls PyProof.Rows PySem.W
section
variable {prog:Program}{w:World}{A:Around}{E:Value->Shared->Prop}{s:Shared}{K:Frag}{x C:Addr}{ox:Obj}{od:Option Obj}{name:Str}
def mC (K:Frag)(C:Addr):Bool:=findIn K (.ref C) "__getattribute__"==some (some (.builtin "BaseException.__getattribute__"))&&findIn K (.ref C) "__getattr__"==some none&&mroIn K C (.type "BaseException")==some true&&mroIn K C (.type "object")==some true &&
 findIn K (.ref C) "__class__"==some (some (.builtin "object.__class__"))&&specialIn K (.builtin "object.__class__") "__get__"==some (some (.builtin "getset_descriptor.__get__"))&&takesIn K (.builtin "object.__class__")==some true
def MF (prog:Program)(w:World)(A:Around)(x C:Addr)(Q:Value->Shared->Prop)(E:Value->Shared->Prop)(s:Shared):Builtin.ObjectAttr.Found->Prop
 |.value v=>wpAny (model prog w) A (handedOut v) Q E s
 |.bind g a=>wpAny (model prog w) A.in1 (call g [a,.ref x,.ref C]) (fun v s'=>wpAny (model prog w) A (handedOut v) Q E s') (fun _ _=>False) s
 |.missing=>False
theorem xt {r:Builtin.ObjectAttr.Found}{tk:Tok}{fill expr:Bool}{Q:Value->Shared->Prop}(X:K.In s.heap)(I:InstAt s.heap x ox C od)(hg:mC K C=true)(hf:findObj K C od name=some r)
 (h:MF prog w A x C Q E s r) :
 wpAny (model prog w) A (getAttrBy (.ref x) (.str name tk) fill expr) Q E s:=by
 unfold mC at hg
 simp only [Bool.and_eq_true,beq_iff_eq] at hg
 obtain ⟨⟨⟨⟨⟨⟨hga,hgn⟩,hmB⟩,hmO⟩,_⟩,_⟩,_⟩:=hg
 obtain ⟨hh,g,d,t,os⟩:=s
 have L0:=I.type (M:=model prog w)
 have L1:=looks_findIn (M:=model prog w) X hga
 have L2:=looks_findIn (M:=model prog w) X hgn
 have L3:=looks_find (M:=model prog w) X I hf
 have L4:=looks_mroIn (M:=model prog w) X hmB
 have hx2:(Value.builtin "BaseException.__getattribute__"==Value.builtin "object.__getattribute__")=false:=by decide +kernel
 have hk:builtinKind "BaseException.__getattribute__"=some .slot:=by decide +kernel
 have hsplit:splitId "BaseException.__getattribute__"=some ("BaseException","__getattribute__"):=by decide +kernel
 unfold getAttrBy
 refine tqo (tqa (L0.at (tqa (L1.at ?_))))
 show wpAny _ _ (if (true&&Value.builtin "BaseException.__getattribute__"==Value.builtin "object.__getattribute__")=true then _ else _) _ _ _
 rw [hx2,if_neg (by decide)]
 unfold getAttrByItsOwn
 refine tqa (show wpAny _ _ (typeLookup (.ref C) "__getattr__") _ _ _ from L2.at (tqa (wpAny_attempt (tqo ?_))))
 unfold callGetattribute
 rw [if_neg (by cases expr<;>decide)]
 unfold boundAndCalled
 refine tqa (wpAny_of_eq (PySem.F.excAttr_ValueError.ga.bind (.ref x)) ?_)
 refine wpAny_call (codeAny_call_builtin PySem.F.excAttr_ValueError.ga.plain F.entry_bexc_ga ?_)
 simp only [checkBuiltinCall,hk,hsplit]
 refine tqa (show wpAny _ _ (isInstance (.ref x) (.type "BaseException")) _ _ _ from tqa (L0.at (L4.at ?_)))
 have ha:=F.args_bexc_ga (.ref x) (.str name tk)
 repeat (any_goals (first|assumption|wp_step))
 refine wpAny_loadPart_at I.at_ (tqb ?_)
 rw [I.cls]
 refine tqa (L3.at ?_)
 cases r with
 |value v=>exact tqb h
 | bind g a =>
   show wpAny _ _ (holding [a] (call g [a,.ref x,.ref C]) >>= ret) _ _ _
   exact tqa (tqo (wpAny_mono h (fun v s' z=>tqb z) fun _ _ z=>z.elim))
 |missing=>exact h.elim
theorem AQ {Q:Option Value->Shared->Prop}(X:K.In s.heap)(I:InstAt s.heap x ox C od)(hg:mC K C=true)(h:Q (some (.ref C)) {s with toks:=s.toks+1}):wpAny (model prog w) A (getAttr? (.ref x) "__class__") Q E s:=by
 have hg':=hg
 unfold mC at hg'
 simp only [Bool.and_eq_true,beq_iff_eq] at hg'
 obtain ⟨⟨⟨⟨⟨⟨_,_⟩,_⟩,hm⟩,ha⟩,hn⟩,htk⟩:=hg'
 have hf:findObj K C od "__class__"=some (.bind (.builtin "getset_descriptor.__get__") (.builtin "object.__class__")):=by
  obtain ⟨cd,hc,_⟩:=Option.bind_eq_some_iff.mp hm
  unfold findObj
  rw [hc,Option.bind_some,ha,Option.bind_some]
  simp [hn,htk]
 unfold getAttr? getAttrBy?
 refine tqa (wpAny_mkText (tqa (wpAny_attempt (xt (s:={s with toks:=s.toks+1}) (r:=.bind (.builtin "getset_descriptor.__get__") (.builtin "object.__class__")) X I hg hf ?_))))
 exact wpAny_call (class_get (s:={s with toks:=s.toks+1}) (ox:=ox) (od:=od) X I hm (handed_on rfl (tqb h)))
theorem EV {c:Value}{Q:Value->Shared->Prop}(X:K.In s.heap)(I:InstAt s.heap x ox C od)(hg:mC K C=true)(hty:∀(M:Model) h',K.In h'->Looks M h' (typeOf c) (.type "type"))(his:∀(M:Model) h',K.In h'->Looks M h' (isType c) true)
 (hne:(Value.ref C==c)=false) (hsub:∀(M:Model) h',K.In h'->Looks M h' (isSubtype (.ref C) c) false) (h:Q (.bool false) {s with toks:=s.toks+1}):wpAny (model prog w) A (call (.builtin "isinstance") [.ref x,c]) Q E s:=by
 refine call_isinstance_of ?_ (by intro q;cases q)
 have hisD:Looks (model prog w) s.heap (isType (.ref C)) true:=by
  have hg':=hg
  unfold mC at hg'
  simp only [Bool.and_eq_true,beq_iff_eq] at hg'
  obtain ⟨cd,hc,_⟩:=Option.bind_eq_some_iff.mp hg'.1.1.1.2
  unfold clsIn at hc
  split at hc
  ·rename_i c' d' cd' sl' ho
   intro A' Q' E' s' k q
   unfold isType loadHead
   exact tqa (wpAny_loadPart (k _ _ (X _ _ ho)) (tqb q))
  ·cases hc
 have hty:=hty (model prog w) s.heap X
 have his:=his (model prog w) s.heap X
 have hsub:=hsub (model prog w) s.heap X
 obtain ⟨h0,g,d,tt,os⟩:=s
 have L0:=I.type (M:=model prog w)
 have LI:Looks (model prog w) h0 (isInstance (.ref x) c) false:=L0.andThen hsub
 unfold Builtin.«isinstance.nested»
 refine tqa (L0.at ?_)
 rw [if_neg (fun q=>by rw [hne] at q;exact Bool.noConfusion q)]
 refine tqa (hty.at ?_)
 rw [if_pos (by decide)]
 k_delta "plainIsInstance"
 refine tqa (tqa (his.at ?_))
 simp only [Bool.not_true,Bool.false_eq_true,if_false]
 refine tqa (LI.at ?_)
 simp only [Bool.false_eq_true,if_false]
 refine tqa (AQ X I hg ?_)
 refine tqa (hisD.at ?_)
 simp only [Bool.not_true,Bool.false_eq_true,if_false]
 refine tqa (wpAny_rule ?_)
 refine hsub.at ?_
 exact tqb h
theorem CA {D:Addr}{Q:Value->Shared->Prop}(X:K.In s.heap)(I:InstAt s.heap x ox C od)(hg:mC K C=true)(e:kin_not K C D=true)(h:Q (.bool false) {s with toks:=s.toks+1}):wpAny (model prog w) A (call (.builtin "isinstance") [.ref x,.ref D]) Q E s:=by
 unfold kin_not at e
 rw [Bool.and_eq_true,Bool.and_eq_true,Bool.and_eq_true] at e
 obtain ⟨⟨⟨e0,e1⟩,e2⟩,e3⟩:=e
 refine EV X I hg (fun _ h' X'=>looks_typeIn X' (beq_iff_eq.mp e2)) (fun _ h' X'=>?_) ?_ (fun _ h' X'=>looks_subIn X' (beq_iff_eq.mp e3)) h
 ·unfold clsIn at e1
  split at e1
  ·rename_i c' d' cd' sl' ho
   intro A' Q' E' s' k q
   unfold isType loadHead
   exact tqa (wpAny_loadPart (k _ _ (X' _ _ ho)) (tqb q))
  ·cases e1
 ·exact Bool.eq_false_iff.mpr fun q=>of_decide_eq_true e0 (Value.ref.inj (beq_iff_eq.mp q))
theorem EW {T:String}{Q:Value->Shared->Prop}(X:K.In s.heap)(I:InstAt s.heap x ox C od)(hty:typeOf (.type T)=pure (.type "type"))(hm:mroIn K C (.type T)=some true)(h:Q (.bool true) s):wpAny (model prog w) A (call (.builtin "isinstance") [.ref x,.type T]) Q E s:=by
 refine call_isinstance_of ?_ (by intro q;cases q)
 have L1:=looks_mroIn (M:=model prog w) X hm
 obtain ⟨h0,g,d,tt,os⟩:=s
 have L0:=I.type (M:=model prog w)
 have LI:Looks (model prog w) h0 (isInstance (.ref x) (.type T)) true:=L0.andThen L1
 unfold Builtin.«isinstance.nested»
 refine tqa (L0.at ?_)
 rw [if_neg (by intro q;cases beq_iff_eq.mp q)]
 refine tqa (wpAny_of_eq hty ?_)
 rw [if_pos (by decide)]
 k_delta "plainIsInstance"
 refine tqa (tqa (wpAny_of_eq (a:=true) rfl ?_))
 simp only [Bool.not_true,Bool.false_eq_true,if_false]
 refine tqa (LI.at ?_)
 simp only [if_true]
 exact tqb (tqb h)
end
end LD
namespace LD
open PySem PySem.Spec PyProof.Rows L2
def dZ (f:Nat)(c:Call)(s:GA):GE:=fun Z M=>match s Z M with
 |.ok ds M=>c f ds M
 |_=>.bad
def FE (k:D->Mem->Res Fl)(Z:Env):Res D->Res Fl
 |.ok d M=>k d M
 |.err x M=>.ok (.exc x Z) M
 |.bad=>.bad
def jB (a:GE):GS:=fun Z M=>FE (fun _ M=>.ok (.next Z) M) Z (a Z M)
def oq (t:dD)(a:GE):GS:=fun Z M=>FE (fun x M=>(dv M (c7 t x Z)).bind fun ρ1 M=>.ok (.next ρ1) M) Z (a Z M)
def oC (t:GT)(a b:GE):GE:=fun Z M=>match t Z M with
 |.ok k M=>if k then a Z M else b Z M
 |_=>.bad
def jN (c:Nat)(s:GA):GS:=fun Z M=>match s Z M with
 |.ok ds M=>if ds.length<=sz then .ok (.exc (.exc c none) Z) M else .bad
 |_=>.bad
def ji (o:Option Nat)(a:GE):GE:=fun Z M=>(a Z M).bind fun x M=>match x with
 |.exc c _=>.ok (.bl (match o with|some k=>k==c|none=>true)) M
 |_=>.bad
def Bh (i:Nat):Fl->Mem->Res Fl
 |.next Z,M=>.ok (.next (Z.set i none)) M
 |.ret d,M=>.ok (.ret d) M
 |.exc _ _,_=>.bad
def K0 (i:Nat)(h:GS):Fl->Mem->Res Fl
 |.exc x Z,M=>(h (Z.set i (some x)) M).bind (Bh i)
 |fl,M=>.ok fl M
def uV (b:GS)(i:Nat)(h:GS):GS:=fun Z M=>(b Z M).bind (K0 i h)
def Kv (fa:Fa)(X:Cx)(g:GE):TE:=fun σ H Q=>∃μ Z M,bL fa X.K μ H σ Z/\RelM fa X.K μ H M/\j5 (g Z M) (bG fa X.K μ H Q) (fun x M'=>XW fa X μ H x Z M')
abbrev DX (fa:Fa)(X:Cx)(e:Expr)(g:GE):Prop:=PE X e (Kv fa X g)
section
variable {fa:Fa}{X:Cx}{a b:Expr}{ga gb:GE}{ta:GT}{pos p:Pos}{es:List Expr}{gs:GA}{n:Nat}
theorem x_call (f:Nat){x:Str}{call:Call}(C:∀f,iD fa X.prog X.w X.K X.mg X.base n f (call f))(hr:cU (n+4) X.A)(hex:X.ex=[])(hg:Gl X x)(hm:∀ad,fa f=some ad->X.mg x=some (.ref ad))(hs:DA fa X (a::es) gs)
 (hdb:(x==("__debug__":Str))=false) (he:notStar a=true) (hpl:es.all notStar=true):DX fa X (.Call (.Name x p) (a::es) [] pos) (dZ f call gs):=by
 intro pins s σ H Q I ⟨μ,Z,M,hE,hM,h⟩
 unfold dZ at h
 cases eg:gs Z M with
 |err=>rw [eg] at h;exact h.elim
 |bad=>rw [eg] at h;exact h.elim
 | ok ds M1 =>
   rw [eg] at h
   have h:j5 (call f ds M1) (bG fa X.K μ H Q) (fun x M'=>XW fa X μ H x Z M'):=h
   rcases C f with hb|⟨ad,fd,ps,h1,h2,h3,h4,F⟩
   ·rw [hb] at h;exact h.elim
   ·have hl:ds.length=ps.length:=by
     by_cases hl:ds.length=ps.length
     ·exact hl
     ·rw [h4 ds M1 hl] at h;exact h.elim
    refine wpAny_Call_Name_kw (jC I hg (hm ad h1) ?_ hdb)
    refine PySem.W.callWith_K (h₀:=X.base) I.ok.mod.kin h2 (bz (hs pos pins s σ H (fun vs H1=>∃μ1,Ext μ H μ1 H1/\RelM fa X.K μ1 H1 M1/\bf fa X.K μ1 H1 ds vs) I ⟨μ,Z,M,hE,hM,by rw [eg];exact fun vs H1 μ1 x1 m1 r1=>⟨μ1,x1,m1,r1⟩⟩) fun us s1 ⟨vs,H1,I1,r,μ1,x1,m1,r1⟩=>⟨I1.kIn,?_⟩) (cX he) (eV hpl)
    have hsp:FO fa X.K ps.length (call f) vs H1 Q fun Cv dx H'=>∃y M' μ' C' c p,Cv=.ref C'/\Ext μ1 H1 μ' H'/\RelM fa X.K μ' H' M'/\y=.exc c p/\fa (fu c)=some C'/\yW H' c dx p/\XW fa X μ H y Z M':=by
     refine ⟨by rw [r1.length];exact hl,μ1,M1,ds,m1,r1,?_⟩
     cases ec:call f ds M1 with
     |ok d M2=>rw [ec] at h;exact bG.ext h x1
     |err y M2=>rw [ec] at h;exact fun C dx c p H' μ' y' m ex hc hn=>⟨_,M2,μ',C,c,p,rfl,y',m,ex,hc,hn,h⟩
     |bad=>rw [ec] at h;exact h.elim
    have hl2:us.length=ps.length:=by rw [<- r.length,r1.length];exact hl
    have hb:=h3 s1 us I1.kIn (by simpa using hl2)
    rw [List.append_nil] at hb
    refine wpAny_call (codeAny_mono (F.run X.A X.stack s1 H1 ⟨us,[]⟩ us vs Q _ hr I1.env0 hb r hsp) fun r' s' hq=>?_)
    cases r' with
    | error e =>
      unfold CR at hq
      dsimp only at hq
      obtain ⟨a',C',dx,H',rfl,I',fl,y,M',μ',C2,c,p,ec,ye,m',ey,hc,hn,hw⟩:=AG I1 hex hq
      cases ec
      exact hw pins σ H' μ' s' a' C' dx c p I' (x1.trans ye) ((hE.ext x1).ext ye) m' ey hc hn fl
    | ok fl =>
      cases fl with
      |ret u=>exact I1.after hq
      |next=>exact False.elim hq
      |brk=>exact False.elim hq
      |cont=>exact False.elim hq
theorem Jb {c:Expr}(hc:DT fa X c ta)(ha:DX fa X a ga)(hb:DX fa X b gb):DX fa X (.IfExp c a b pos) (oC ta ga gb):=
 cG (u6 hc ha hb) fun σ H Q ⟨μ,Z,M,hE,hM,h⟩=>by
  unfold oC at h
  cases et:ta Z M with
  |err=>rw [et] at h;exact h.elim
  |bad=>rw [et] at h;exact h.elim
  | ok k M1 =>
    rw [et] at h
    refine ⟨μ,Z,M,hE,hM,?_⟩
    rw [et]
    intro H1 μ1 x1 m1
    have go:∀g:GE,j5 (g Z M1) (bG fa X.K μ H Q) (fun x M'=>XW fa X μ H x Z M')->Kv fa X g σ H1 Q:=fun g q=>by
     refine ⟨μ1,Z,M1,hE.ext x1,m1,?_⟩
     cases e:g Z M1 with
     |ok d M2=>rw [e] at q;exact bG.ext q x1
     |err y M2=>rw [e] at q;exact XW.ext q x1
     |bad=>rw [e] at q;exact q
    cases k with
    |true=>exact go ga h
    |false=>exact go gb h
theorem Jo (ha:DX fa X a ga)(hs:swapsWith a none pos.line X.env=pure false):DS fa X (.Expr a pos) (jB ga):=
 jd (rB ha hs) fun D' σ H ⟨μ,Z,M,hE,hM,h⟩=>⟨μ,Z,M,hE,hM,by
  unfold jB at h
  cases e:ga Z M with
  |ok d M1=>rw [e] at h;exact fun v H1 μ1 x1 m1 r1=>h σ H1 μ1 x1 (hE.ext x1) m1
  |err x M1=>rw [e] at h;exact h
  |bad=>rw [e] at h;exact h.elim⟩
theorem FX {tg:Expr}{t:dD}(ha:DX fa X a ga)(hg:PG X tg (gT fa X.K t))(hs:swapsWithSole [tg] a pos.line X.env=pure false)(hw:swappedStores [tg] a X.env=pure none)(h1:(assignEach [tg] X.env).map (·.2)=[assign tg X.env]) :
 DS fa X (.Assign [tg] a pos) (oq t ga):=
 jd (u3 ha hg hs hw h1) fun D σ H ⟨μ,Z,M,hE,hM,h⟩=>⟨μ,Z,M,hE,hM,by
  unfold oq at h
  cases e:ga Z M with
  | ok d M1 =>
    rw [e] at h
    obtain ⟨ρ1,M2,e',q⟩:=bq h
    cases eb:c7 t d Z with
    |none=>rw [eb] at e';cases e'
    | some ρ2 =>
      rw [eb] at e'
      cases e'
      exact fun v H1 μ1 x1 m1 r1=>⟨μ1,Z,_,d,ρ1,hE.ext x1,m1,r1,eb,fun σ1 hE2=>q σ1 H1 μ1 x1 hE2 m1⟩
  |err x M1=>rw [e] at h;exact h
  |bad=>rw [e] at h;exact h.elim⟩
end
abbrev mq:List Value:=[.type "ValueError",.type "Exception",.type "BaseException",.type "object"]
theorem CC {K:PySem.W.Frag}{h:Heap}{C:Addr}{bmB:List Value}{newId:String}(X:K.In h)(q:PySem.W.excIn K C bmB newId=true) :
 ∃bm N nm q bs hdct sn sub ab col dd k0 k1 k2 k3 k5 mN,h.get? C=some (excClassObj nm q C N bs bm hdct sn sub ab col dd k0 k1 k2 k3 k5 newId)/\h.Ns N mN/\mN "__init__"=none/\OwnTail h bmB bm:=by
 unfold PySem.W.excIn at q
 split at q
 ·rename_i dd cd sl ho
  split at q
  ·rename_i C' bm k0 k1 k2 k3 n k5 hm hs
   simp only [Bool.and_eq_true,beq_iff_eq,Bool.not_eq_true'] at q
   obtain ⟨⟨⟨⟨⟨rfl,rfl⟩,hdel⟩,ht⟩,hok⟩,hni⟩:=q
   obtain ⟨nm,bs,mro,ns,qn,hd,sn,sub,ab,col,del⟩:=cd
   dsimp only at hm hdel hok hni
   subst hm hdel
   have hsl:sl=#[k0,k1,k2,k3,some (.builtin n),k5]:=by
    obtain ⟨l⟩:=sl
    simp only at hs
    rw [hs]
   subst hsl
   exact ⟨bm,ns,nm,qn,bs,hd,sn,sub,ab,col,dd,k0,k1,k2,k3,k5,_,X _ _ ho,.of_isNs (PySem.W.isNs_of_in X hok),PySem.W.nsMap_none_of_in X hok hni,PySem.W.tail_of_in X ht⟩
  ·cases q
 ·cases q
theorem Ar {P:Program}{w:World}{H:Hp}{h:Heap}{a:Addr}{o:HO}(x:dC P w H h a o):∃ob,h.get? a=some ob:=by
 cases o with
 |lst xs=>obtain ⟨_,_,_,_,e⟩:=x;exact ⟨_,e⟩
 |tup xs=>obtain ⟨_,_,_,ob,e,_⟩:=x;exact ⟨_,e⟩
 |dK kvs=>obtain ⟨_,_,_,_,o,_,_,e,_⟩:=x;exact ⟨_,e⟩
 |dT kvs=>obtain ⟨_,_,_,_,o,_,_,e,_⟩:=x;exact ⟨_,e⟩
 |set S n=>obtain ⟨o,_,_,_,e,_⟩:=x;exact ⟨_,e⟩
 |ins C dx fs=>obtain ⟨_,_,_,e,_⟩:=x;exact ⟨_,e⟩
 |own y=>exact x
 |xd fs=>obtain ⟨_,⟨_,_,_,e,_⟩,_⟩:=x;exact ⟨_,e⟩
 |rng lo hi=>obtain ⟨_,_,_,e⟩:=x;exact ⟨_,e⟩
 |frz ob u=>obtain ⟨e,_⟩:=x;exact ⟨_,e⟩
 |tbl ps=>exact ⟨_,x⟩
 |met f y=>exact ⟨_,x⟩
 |ext φ=>obtain ⟨_,e,_⟩:=x;exact e
theorem pQ {X:Cx}{pins:List (Addr×Obj)}{σ:L2.St}{H:Hp}{s:Shared}(I:Inv X pins σ H s)(hex:X.ex=[]){e:Addr}(hn:s.heap.get? e=none):og X e/\H e=none:=by
 refine ⟨⟨?_,fun p hp z=>?_⟩,?_⟩
 ·cases q:X.s₀.heap.get? e with
  |none=>rfl
  | some o =>
    obtain ⟨o',e'⟩:=I.base.there e o q (by rw [hex];simp)
    rw [hn] at e';cases e'
 ·have:=(I.pin p (List.mem_append_left _ hp)).1
  rw [z,hn] at this;cases this
 ·cases q:H e with
  |none=>rfl
  | some u =>
    obtain ⟨ob,z⟩:=Ar (I.hok e u q)
    rw [hn] at z;cases z
section
variable {fa:Fa}{X:Cx}{a b:Expr}{ga gb:GE}{ta:GT}{pos p:Pos}{es:List Expr}{gs:GA}{n:Nat}
theorem D6 (c:Nat){x:Str}{np cpos:Pos}(hx:∃C,X.mg x=some (.ref C)/\fa (fu c)=some C/\PySem.W.excIn X.K C mq "ValueError.__new__"=true)(hex:X.ex=[])(hg:Gl X x)(hc:X.calm=true)(hs:DA fa X (a::es) gs)
 (hdb:(x==("__debug__":Str))=false) (he:notStar a=true) (hpl:es.all notStar=true):DS fa X (.Raise (some (.Call (.Name x np) (a::es) [] cpos)) none pos) (jN c gs):=by
 intro pins s σ H D' I ⟨μ,Z,M,hE,hM,h⟩
 obtain ⟨C,hmC,hfC,hin⟩:=hx
 obtain ⟨bm,N,nm,q,bs,hdct,sn,sub,ab,col,dd,k0,k1,k2,k3,k5,mN,hC,hN,hni,T⟩:=CC I.ok.mod.kin hin
 unfold jN at h
 cases eg:gs Z M with
 |err=>rw [eg] at h;exact h.elim
 |bad=>rw [eg] at h;exact h.elim
 | ok ds M1 =>
   rw [eg] at h
   dsimp only at h
   split at h
   ·next hz=>
    have h:XW fa X μ H (.exc c none) Z M1:=h
    refine wpAny_Raise_call_subT (nm:=nm) (q:=q) (N:=N) (bs:=bs) (hdct:=hdct) (sn:=sn) (sub:=sub) (ab:=ab) (col:=col) (dd:=dd) (k0:=k0) (k1:=k1) (k2:=k2) (k3:=k3) (k5:=k5) PySem.F.excBase_ValueError (T.hasType (by decide +kernel)) (I.ok.hd hc) (eV (es:=a::es) (by simp [he,hpl])) hni (jC I hg hmC ⟨rfl,?_⟩ hdb)
    have ar:=bz (hs cpos pins s σ H (fun vs H1=>∃μ1,Ext μ H μ1 H1/\RelM fa X.K μ1 H1 M1/\bf fa X.K μ1 H1 ds vs) I ⟨μ,Z,M,hE,hM,by rw [eg];exact fun vs H1 μ1 x1 m1 r1=>⟨μ1,x1,m1,r1⟩⟩) (Q':=fun us s2=>([]:List (Str×Value))=[]/\us.length<=sizeLine/\s2.heap.get? C=some (excClassObj nm q C N bs bm hdct sn sub ab col dd k0 k1 k2 k3 k5 "ValueError.__new__")/\s2.heap.Ns N mN/\OwnTail s2.heap mq bm/\∀h' e,Heap.MadeExcOf s2.heap h' e (.ref C) us->X.xe (.ref e) {s2 with heap:=h'}) fun us s1 ⟨vs,H1,I1,r,μ1,x1,m1,r1⟩=>by
     refine ⟨rfl,?_,I1.bk _ _ hC,hN.keeps I1.bk,T.keeps I1.bk,fun h' e hm=>?_⟩
     ·rw [<- r.length,r1.length,<- d5];exact hz
     ·obtain ⟨t,ht,_,_⟩:=hm.there
      obtain ⟨n1,n2⟩:=pQ I1 hex hm.new
      exact h pins σ H1 μ1 {s1 with heap:=h'} e C none c none (I1.kept (t':=s1.toks) hm.keeps) x1 (hE.ext x1) m1 rfl hfC rfl ⟨n1,n2,_,_,ht,rfl,rfl,rfl,.inl rfl⟩
    rw [cX he] at ar ⊢
    exact PySem.Calls.evalArgs_plain ar
   ·exact h.elim
end
end LD
namespace LD
open PySem PySem.Spec PyProof.Rows L2
structure n9 (fa:Fa) (K:PySem.W.Frag):Prop where
 g:∀c C,fa (fu c)=some C->mC K C=true/\PySem.W.mroIn K C (.type "ValueError")=some true/\PySem.W.isIn K (.ref C) C=true
 d:∀c C D,fa (fu c)=some C->fa 999=some D->PySem.W.isIn K (.ref C) D=true/\PySem.W.mroIn K C (.ref D)=some true/\PySem.W.mroIn K D (.type "BaseException")=some true/\PySem.W.typeIn K (.ref D)=some (.type "type")
 n:∀c C c' C',fa (fu c)=some C->fa (fu c')=some C'->c'≠c->PySem.W.kin_not K C C'=true
section
variable {fa:Fa}{X:Cx}{pins:List (Addr×Obj)}{σ:L2.St}{H:Hp}{s:Shared}{μ:Mu}
theorem xm (I:Inv X pins σ H s){c:Nat}{p:Option Int}{v:V}(r:Rep fa X.K μ H (.exc c p) v):∃a C ox od,v=.ref a/\fa (fu c)=some C/\PySem.W.InstAt s.heap a ox C od:=by
 obtain ⟨a,C,dx,rfl,hf,hH,hn⟩:=r
 obtain ⟨⟨o,vs,h1,h2,h3,h4,h5⟩,_,_⟩:=I.hok a _ hH
 have hc:PySem.W.notCls o=true:=by unfold PySem.W.notCls;rw [h4]
 cases p with
 | none =>
   have hn:dx=none:=hn
   exact ⟨a,C,o,none,rfl,hf,h1,h2,hc,by rw [h3,hn];trivial⟩
 | some i =>
   obtain ⟨d,rfl,hd⟩:=hn
   obtain ⟨mA,⟨od,es,ep,e,_⟩,_⟩:=I.hok d _ hd
   exact ⟨a,C,o,some od,rfl,hf,h1,h2,hc,by rw [h3];exact e⟩
def uY (fa:Fa)(K:PySem.W.Frag)(o:Option Nat)(w:V)(xs:List V)(H:Hp)(Q:VK):Prop:=∃μ c p v,xs=[v,w]/\Rep fa K μ H (.exc c p) v/\Q (.bl (match o with|some k=>k==c|none=>true)) H
theorem ES (hc:n9 fa X.K){k:Nat}{D:Addr}(hD:fa (fu k)=some D):dN X (.builtin "isinstance") (uY fa X.K (some k) (.ref D)):=by
 intro pins s σ H xs us Q I r h
 obtain ⟨μ,c,p,v,rfl,hv,q⟩:=h
 obtain ⟨u,w,rfl,r1,r2⟩:=vals2 r
 obtain rfl:w=Value.ref D:=r2
 obtain ⟨a,C,ox,od,rfl,hf,IA⟩:=xm I hv
 obtain rfl:u=Value.ref a:=r1
 dsimp only at q
 by_cases hb:k=c
 ·subst hb
  rw [hD] at hf;cases hf
  rw [beq_self_eq_true] at q
  exact PySem.W.isi_call I.kIn (fun M=>IA.type) (hc.g k D hD).2.2 (by intro z;cases z) ⟨.bl true,H,I,rfl,q⟩
 ·rw [beq_eq_false_iff_ne.mpr hb] at q
  exact CA I.kIn IA (hc.g c C hf).1 (hc.n c C k D hf hD hb) ⟨.bl false,H,I.tok _,rfl,q⟩
theorem ET (hc:n9 fa X.K):dN X (.builtin "isinstance") (uY fa X.K none (.ty "ValueError")):=by
 intro pins s σ H xs us Q I r h
 obtain ⟨μ,c,p,v,rfl,hv,q⟩:=h
 obtain ⟨u,w,rfl,r1,r2⟩:=vals2 r
 obtain rfl:w=Value.type "ValueError":=r2
 obtain ⟨a,C,ox,od,rfl,hf,IA⟩:=xm I hv
 obtain rfl:u=Value.ref a:=r1
 exact EW I.kIn IA (by kernel_rfl) (hc.g c C hf).2.1 ⟨.bl true,H,I,rfl,q⟩
end
section
variable {fa:Fa}{X:Cx}{a:Expr}{ga:GE}{pos p1 p2:Pos}{x:Str}
theorem xo {o:Option Nat}{w:V}{σ:L2.St}{H:Hp}{Q:VK}(h:tE fa X.K (ji o ga) σ H Q):tE fa X.K ga σ H fun v H1=>uY fa X.K o w [v,w] H1 Q:=by
 obtain ⟨μ,Z,M,hE,hM,h⟩:=h
 exact t1 hE hM h fun x M1 v H1 μ1 x1 hE1 hM1 r1 h1=>by
  cases x with
  |exc c p=>exact ⟨μ1,c,p,v,rfl,r1,bE (v:=.bl _) hM1 (bG.ext h1 x1) rfl⟩
  |_=>exact h1.elim
theorem Eb (k:Nat)(hc:n9 fa X.K)(hx:∃D,X.mg x=some (.ref D)/\fa (fu k)=some D)(ha:DE fa X a ga)(hg:Gl X "isinstance")(hm:X.mg "isinstance"=none)(hgt:Gl X x)(hdb:(x==("__debug__":Str))=false)
 (he:starEach [a,.Name x p1] X.env=(false,eval a X.env)::starEach [.Name x p1] X.env):DE fa X (.Call (.Name "isinstance" p2) [a,.Name x p1] [] pos) (ji (some k) ga):=by
 obtain ⟨D,h1,h2⟩:=hx
 exact cG (mQ (ES (fa:=fa) hc h2) hg hm (by decide +kernel) (di ha (di (ot hgt h1 (v:=.ref D) rfl hdb) fO (by rfl)) he) (by decide) (by decide) he (by rfl)) fun σ H Q h=>xo h
end
theorem wy {prog:Program}{w:World}{A:Around}{E:Value->Shared->Prop}{s:Shared}{K:PySem.W.Frag}{x C D:Addr}{ox:Obj}{od:Option Obj}{Q:Bool->Shared->Prop}(X:K.In s.heap)(I:PySem.W.InstAt s.heap x ox C od)
 (hD:PySem.W.mroIn K D (.type "BaseException")=some true) (hT:PySem.W.typeIn K (.ref D)=some (.type "type")) (hs:PySem.W.mroIn K C (.ref D)=some true) (h:Q true s):wpAny (model prog w) A (excMatches (.ref x) (.ref D)) Q E s:=by
 obtain ⟨hh,g,d,t,os⟩:=s
 have LS:=PySem.W.looks_mroIn (M:=model prog w) X hs
 have LB:=PySem.W.looks_mroIn (M:=model prog w) X hD
 have LT:=PySem.W.looks_typeIn (M:=model prog w) X hT
 have f:=tc_notTuple
 obtain ⟨cd,hc,_⟩:=Option.bind_eq_some_iff.mp hD
 unfold PySem.W.clsIn at hc
 split at hc
 ·rename_i c' d' cd' sl' ho
  have hDo:=X _ _ ho
  have LI:PySem.W.Looks (model prog w) hh (isType (.ref D)) true:=fun A' Q' E' s' k q=>by
   unfold isType loadHead
   exact tqa (wpAny_loadPart (k _ _ hDo) (tqb q))
  unfold excMatches
  refine tqa (show wpAny _ _ (isInstance (.ref D) (.type "tuple")) _ _ _ from tqa (LT.at (wpAny_of_eq f ?_)))
  simp only [Bool.false_eq_true,if_false]
  repeat (first|with_reducible refine tqa (LI.at ?_)|with_reducible refine LB.at ?_|with_reducible refine LS.at ?_|with_reducible refine wpAny_loadPart_at I.at_ ?_|wp_step)
  rw [I.cls]
  refine LS.at ?_
  repeat (first|exact h|wp_step)
 ·cases hc
theorem yL {M:Model}{A:Around}{E:Value->Shared->Prop}{New:Addr->Prop}{C a:Addr}{dx:Option Addr}{H:Hp}{s:Shared}{Q:Unit->Shared->Prop}(f:oh New C dx a s.heap H)(h:Q () s):wpAny M A (setFlight (.ref a) none) Q E s:=by
 obtain ⟨_,_,o,vs,h1,_,_,h4,tr⟩:=f
 unfold setFlight
 rcases tr with t|⟨T,oT,ts,t1,_,_,_,t5,t6,t7⟩
 ·refine tqa (tqf h1 h4 t ?_)
  rw [if_neg (by decide)]
  exact tqb h
 ·refine tqa (tqf h1 h4 t1 ?_)
  rw [if_pos (show (Value.ref T != Value.none)=true from by simp)]
  refine wpAny_setField t5 t6 (Array.getElem?_eq_some_iff.mp t7).1 ?_
  have e:=Heap.update_setField_same s.heap T oT ts 3 .none t5 t6 t7
  show Q () {s with heap:=s.heap.update T (Obj.mapFields (·.setIfInBounds 3 .none))}
  rw [e];exact h
section
variable {X:Cx}{pins:List (Addr×Obj)}{σ:L2.St}{H:Hp}{s:Shared}
theorem xp {M:Model}{A:Around}{E:Value->Shared->Prop}{i:Nat}{x:Str}{ps:Pos}{Q:Unit->Shared->Prop}(I:Inv X pins σ H s)(hN:X.N.Nodup)(hi:X.N[i]?=some x)(hk:X.env.scope.names.lookup x=some .local)
 (h:∀s',Inv X pins (σ.set i none) H s'->Q () s'):wpAny M A (do bindName X.env x .none;unbindBehindTheSuite X.env x ps) Q E s:=by
 obtain ⟨m,hn,hl⟩:=id I.loc
 have hcls:(X.env.scope.kind==.class||(X.env.scope.kind==.module&&X.env.locals != X.env.globals))=false:=by rw [I.ok.kind];rfl
 refine wpAny_nameGoes_keeps hk hn hcls fun h' v hn' hs=>h _ ?_
 obtain ⟨oL,_,_,hoL,_⟩:=id hn
 have n0:∀b o,X.s₀.heap.get? b=some o->b≠X.env.locals:=fun b o e=>tqk (tqi (tqd e) I.ok.above)
 refine ⟨I.ok,I.os,I.bare,⟨fun b o e n hb hx=>?_,fun b o e n hb hx=>?_,I.base.free,fun b o e hx=>?_,I.base.tups,I.base.frzs,I.base.tbls⟩,⟨_,hn',fun j y v' e1 e2 e3=>?_⟩,fun y c e=>?_,I.free,I.freeC,fun p hp=>?_,fun b ob e=>?_,by simpa using I.len⟩
 ·exact (hs.2 b (n0 b o e)).trans (I.base.keep b o e n hb hx)
 ·obtain ⟨sl,e1⟩:=I.base.slot b o e n hb hx
  exact ⟨sl,(hs.2 b (n0 b o e)).trans e1⟩
 ·obtain ⟨o',e1⟩:=I.base.there b o e hx
  exact ⟨o',(hs.2 b (n0 b o e)).trans e1⟩
 ·by_cases hj:j=i
  ·subst hj
   by_cases hlt:j<σ.length
   ·rw [List.getElem?_set_self hlt] at e2;cases e2
   ·rw [List.getElem?_eq_none (by simpa using hlt)] at e2;cases e2
  ·rw [List.getElem?_set_ne (Ne.symm hj)] at e2
   obtain ⟨u',r',q⟩:=hl j y v' e1 e2 e3
   refine ⟨u',r',?_⟩
   rcases q with ⟨k,e⟩|⟨k,c,e,z⟩
   ·refine .inl ⟨k,?_⟩
    have:y≠x:=fun e=>hj (pK hN e1 (e ▸ hi))
    simp [this,e]
   ·exact .inr ⟨k,c,e,z.sameBut hs (I.cne y c e)⟩
 ·obtain ⟨w',z⟩:=I.cell y c e
  exact ⟨w',z.sameBut hs (I.cne y c e)⟩
 ·obtain ⟨e,n,ne,nf,d⟩:=I.pin p hp
  exact ⟨(hs.2 p.1 ne).trans e,n,ne,nf,d⟩
 ·refine (I.hok b ob e).stay (fun c w' hc q=>(hs.2 c ?_).trans q) (fun _ q=>q) fun _ _ q=>q
  rintro rfl
  rcases hc with hc|hc
  ·rw [<- hc,I.free] at e;cases e
  ·rw [I.free] at hc;cases hc
abbrev qO (X:Cx)(pn:List (Addr×Obj))(E:Value->Shared->Prop):Cx:={X with pn:=pn,xe:=E}
abbrev uf (X:Cx)(v:Value)(E:Value->Shared->Prop):Cx:={X with A:=X.A.mark (some v),calm:=false,xe:=E}
theorem AE (I:Inv X pins σ H s)(E:Value->Shared->Prop):Inv (qO X (X.pn++pins) E) [] σ H s:=
 ⟨⟨I.ok.mod,I.ok.kind,I.ok.glob,I.ok.blt,I.ok.above,I.ok.inj,I.ok.has,I.ok.cab,I.ok.hd,I.ok.frames,I.ok.stk,I.ok.exf,I.ok.bs,I.ok.bsz,I.ok.noex,I.ok.exfs,I.ok.funs,I.ok.frf⟩,I.os,I.bare,I.base,I.loc,I.cell,I.free,I.freeC,fun p hp=>I.pin p (by simpa using hp),I.hok,I.len⟩
theorem jQ {E:Value->Shared->Prop}{pins':List (Addr×Obj)}(I:Inv (qO X (X.pn++pins) E) pins' σ H s):Inv X pins σ H s:=
 ⟨⟨I.ok.mod,I.ok.kind,I.ok.glob,I.ok.blt,I.ok.above,I.ok.inj,I.ok.has,I.ok.cab,I.ok.hd,I.ok.frames,I.ok.stk,I.ok.exf,I.ok.bs,I.ok.bsz,I.ok.noex,I.ok.exfs,I.ok.funs,I.ok.frf⟩,I.os,I.bare,I.base,I.loc,I.cell,I.free,I.freeC,fun p hp=>I.pin p (List.mem_append_left _ hp),I.hok,I.len⟩
theorem sY (I:Inv X pins σ H s)(v:Value)(E:Value->Shared->Prop):Inv (uf X v E) pins σ H s:=
 ⟨⟨I.ok.mod,I.ok.kind,I.ok.glob,I.ok.blt,I.ok.above,I.ok.inj,I.ok.has,I.ok.cab,(fun z=>nomatch z),I.ok.frames,I.ok.stk,I.ok.exf,I.ok.bs,I.ok.bsz,I.ok.noex,I.ok.exfs,I.ok.funs,I.ok.frf⟩,I.os,I.bare,I.base,I.loc,I.cell,I.free,I.freeC,I.pin,I.hok,I.len⟩
theorem sZ {v:Value}{E:Value->Shared->Prop}(hh:X.calm=true->X.A.handled=none)(I:Inv (uf X v E) pins σ H s):Inv X pins σ H s:=
 ⟨⟨I.ok.mod,I.ok.kind,I.ok.glob,I.ok.blt,I.ok.above,I.ok.inj,I.ok.has,I.ok.cab,hh,I.ok.frames,I.ok.stk,I.ok.exf,I.ok.bs,I.ok.bsz,I.ok.noex,I.ok.exfs,I.ok.funs,I.ok.frf⟩,I.os,I.bare,I.base,I.loc,I.cell,I.free,I.freeC,I.pin,I.hok,I.len⟩
end
section
variable {fa:Fa}{X:Cx}{pos np hp:Pos}{x nm:Str}{i:Nat}{body suite:List Stmt}{b0:Stmt}{gB gH:GS}
theorem bL.unset {K:PySem.W.Frag}{μ:Mu}{H:Hp}{σ:L2.St}{Z:Env}(h:bL fa K μ H σ Z)(i:Nat):bL fa K μ H (σ.set i none) (Z.set i none):=by
 refine ⟨by simp [h.len],fun j d e=>?_⟩
 by_cases hj:j=i
 ·subst hj
  by_cases hl:j<Z.length
  ·rw [List.getElem?_set_self hl] at e;cases e
  ·rw [List.getElem?_eq_none (by simpa using hl)] at e;cases e
 ·rw [List.getElem?_set_ne (Ne.symm hj)] at e
  obtain ⟨v,h1,h2⟩:=h.at' j d e
  exact ⟨v,by rw [List.getElem?_set_ne (Ne.symm hj)];exact h1,h2⟩
theorem Jn (hc:n9 fa X.K)(hx:∃D,X.mg x=some (.ref D)/\fa 999=some D)(hex:X.ex=[])(hst:X.stack=X.env::X.outer)(hfr:X.env.frame=some X.env.locals)(hN:X.N.Nodup)(hi:X.N[i]?=some nm)(hl:X.env.scope.names.lookup nm=some .local)
 (hg:Gl X x) (hdb:(x==("__debug__":Str))=false) (hb:∀pn E,iC fa (qO X pn E) body gB) (hh:∀v E,iC fa (uf X v E) (b0::suite) gH) :
 DS fa X (.Try body [.ExceptHandler (some (.Name x np)) (some nm) (b0::suite) hp] [] [] pos) (uV gB i gH):=by
 intro pins s σ H D' I ⟨μ,Z,M,hE,hM,h⟩
 obtain ⟨D,hmD,hfD⟩:=hx
 obtain ⟨fl,M1,e,q⟩:=bq h
 refine wpAny_Try_except (wpAny_mono (hb (X.pn++pins) (fun e s₁=>wpAny (model X.prog X.w) X.A (noteFrame e X.env) (fun _ s₂=>wpAny (model X.prog X.w) X.A (setFlight e none) (fun _ s₃=>wpAny (model X.prog X.w) X.A (handleBy e X.env [.ExceptHandler (some (.Name x np)) (some nm) (b0::suite) hp]) (SP X pins D') X.xe s₃) X.xe s₂) X.xe s₁) [] s σ H D' (AE I _) ⟨μ,Z,M,hE,hM,?_⟩) (fun f s1 z=>?_) fun _ _ z=>z)
 ·rw [e]
  cases fl with
  |next ρ'=>exact q
  |ret d=>exact q
  | exc y ρ1 =>
    intro pins' σ' H' μ' s' a C dx c p I1 ye hE1 hM1 ey hcC hn fl
    have I1:=I1.pins_of (pins':=[]) (fun p hp=>nomatch hp)
    have hall:∀p∈X.pn++pins,p.1≠a:=fl.1.2
    refine xh (P:=X.prog) (w:=X.w) (base:=X.base) (New:=og (qO X (X.pn++pins) _)) (outer:=X.outer) (by rw [<- hst];exact I1.ok.frames) (by rw [<- hst];exact I1.stack) hfr fl (fun b z=>(pQ I1 hex (Heap.get?_none_of_le z)).1) I1.hok (by rw [<- hst];exact I1.stkFree) fun h' ch hch u hok fl2=>?_
    have I2:Inv X pins σ' H' {s' with heap:=h'}:=Cw (jQ I1) (fun b hb=>⟨(hch b hb).1.1,(hch b hb).2.2,(hch b hb).1.2⟩) (by rw [hst];exact u) hok
    have hcD:=hc.d c C D hcC hfD
    obtain ⟨nw,ha,o,vs,h1,h2,h3,h4,tr⟩:=id fl2
    have hxat:xE C dx a h':=⟨o,vs,h1,h2,h3,h4,by
     rcases tr with t|⟨T,oT,ts,t,_⟩
     ·exact (Array.getElem?_eq_some_iff.mp t).1
     ·exact (Array.getElem?_eq_some_iff.mp t).1⟩
    have hnc:PySem.W.notCls o=true:=by unfold PySem.W.notCls;rw [h4]
    refine wpAny_handleBy_cons (codeAny_handlers_test (jC (sY I2 (.ref a) X.xe) hg hmD ?_ hdb)) (by intro z;cases z)
    have IA:∃od,PySem.W.InstAt h' a o C od:=by
     cases p with
     | none =>
       have hn:dx=none:=hn
       exact ⟨none,h1,h2,hnc,by rw [h3,hn];trivial⟩
     | some k =>
       obtain ⟨d,rfl,hd⟩:=hn
       obtain ⟨mA,⟨od,es,ep,ed,_⟩,_⟩:=hok d _ hd
       exact ⟨some od,h1,h2,hnc,by rw [h3];exact ed⟩
    obtain ⟨od,IA⟩:=IA
    refine wy I2.kIn IA hcD.2.2.1 hcD.2.2.2 hcD.2.1 ?_
    refine codeAny_handlers_suite_as (yL fl2 ?_)
    have I3:Inv X pins σ' (upd H' a (.ext (xE C dx a))) {s' with heap:=h'}:=sX I2 hex ha nw.1 ⟨o,vs,h1,h4⟩ hall ⟨hxat,⟨o,h1⟩,fun g1 g2 ⟨o,vs,k1,k2⟩ kk=>⟨o,vs,kk o k1,k2⟩⟩
    have xa:Ext μ' H' μ' (upd H' a (.ext (xE C dx a))):=Ext.alloc hM1 ha
    have rp:Rep fa X.K μ' (upd H' a (.ext (xE C dx a))) y (.ref a):=by
     rw [ey]
     refine ⟨a,C,dx,rfl,hcC,cE,?_⟩
     cases p with
     |none=>exact hn
     |some k=>exact let ⟨d,z1,z2⟩:=hn;⟨d,z1,by rw [aX (bA z2 ha)];exact z2⟩
    refine uH I3 hN hi (.inl hl) (v:=.ref a) rfl (fun s4 I4=>?_) (.inr hl)
    have q:au ((gH (ρ1.set i (some y)) M1).bind (Bh i)) (pf fa X μ H D'):=q
    obtain ⟨fl3,M2,e3,q3⟩:=bq q
    refine wpAny_mono (hh (.ref a) _ pins s4 (σ'.set i (some (.ref a))) (upd H' a (.ext (xE C dx a))) {nx:=fun σ2 H2=>D'.nx (σ2.set i none) H2,rt:=D'.rt} (sY I4 (.ref a) _) ⟨μ',_,M1,(hE1.ext xa).set rp,hM1.alloc ha,?_⟩) (fun f s5 z=>?_) fun _ _ z=>z
    ·rw [e3]
     cases fl3 with
     |next ρ2=>exact fun σ2 H2 μ2 x2 hE2 hM2=>q3 (σ2.set i none) H2 μ2 ((ye.trans xa).trans x2) (hE2.unset i) hM2
     |ret d=>exact bG.ext q3 (ye.trans xa)
     |exc=>exact q3.elim
    ·dsimp only
     cases f with
     | next =>
       obtain ⟨σ5,H5,I5,z⟩:=z
       exact xp (sZ I2.ok.hd I5) hN hi hl fun s6 I6=>⟨_,H5,I6,z⟩
     | ret u =>
       obtain ⟨v,σ5,H5,I5,r5,z⟩:=z
       exact xp (sZ I2.ok.hd I5) hN hi hl fun s6 I6=>⟨v,_,H5,I6,r5,z⟩
     |brk=>obtain ⟨_,_,_,z⟩:=z;exact z.elim
     |cont=>obtain ⟨_,_,_,z⟩:=z;exact z.elim
 ·cases f with
  |next=>obtain ⟨σ5,H5,I5,z⟩:=z;exact wpAny_execs_nil ⟨σ5,H5,jQ I5,z⟩
  |ret u=>obtain ⟨v,σ5,H5,I5,r5,z⟩:=z;exact ⟨v,σ5,H5,jQ I5,r5,z⟩
  |brk=>obtain ⟨σ5,H5,I5,z⟩:=z;exact ⟨σ5,H5,jQ I5,z⟩
  |cont=>obtain ⟨σ5,H5,I5,z⟩:=z;exact ⟨σ5,H5,jQ I5,z⟩
end
def FD (K:PySem.W.Frag)(cl:List (Nat×Addr))(D:Addr):Bool:=PySem.W.mroIn K D (.type "BaseException")==some true&&PySem.W.typeIn K (.ref D)==some (.type "type") &&
 cl.all fun q=>mC K q.2&&PySem.W.mroIn K q.2 (.type "ValueError")==some true&&PySem.W.isIn K (.ref q.2) q.2&&PySem.W.isIn K (.ref q.2) D&&PySem.W.mroIn K q.2 (.ref D)==some true&&cl.all fun r=>r.1==q.1||PySem.W.kin_not K q.2 r.2
def AO (l cl:List (Nat×Addr))(D:Addr):Fa:=fun i=>if i<999 then l.lookup i else if i=999 then some D else cl.lookup (i-1000)
theorem lookup_mem:∀{l:List (Nat×Addr)}{c:Nat}{C:Addr},l.lookup c=some C->(c,C)∈l
 |[],_,_,h=>by cases h
 | (a, b) :: r, c, C, h => by
   rw [List.lookup_cons] at h
   split at h
   ·next e=>cases h;rw [eq_of_beq e];exact List.mem_cons_self
   ·exact List.mem_cons_of_mem _ (lookup_mem h)
theorem mj {l cl:List (Nat×Addr)}{D:Addr}{c:Nat}{C:Addr}(h:AO l cl D (fu c)=some C):(c,C)∈cl:=by
 unfold AO fu at h
 rw [if_neg (by omega),if_neg (by omega),Nat.add_sub_cancel_left] at h
 exact lookup_mem h
theorem FC {K:PySem.W.Frag}{l cl:List (Nat×Addr)}{D:Addr}(h:FD K cl D=true):n9 (AO l cl D) K:=by
 unfold FD at h
 simp only [Bool.and_eq_true,beq_iff_eq,List.all_eq_true,Bool.or_eq_true] at h
 obtain ⟨⟨h1,h2⟩,h3⟩:=h
 refine ⟨fun c C e=>?_,fun c C D' e e'=>?_,fun c C c' C' e e' n=>?_⟩
 ·obtain ⟨⟨⟨⟨⟨a1,a2⟩,a3⟩,a4⟩,a5⟩,a6⟩:=h3 _ (mj e)
  exact ⟨a1,a2,a3⟩
 ·obtain ⟨⟨⟨⟨⟨a1,a2⟩,a3⟩,a4⟩,a5⟩,a6⟩:=h3 _ (mj e)
  have e':some D=some D':=e'
  cases e'
  exact ⟨a4,a5,h1,h2⟩
 ·obtain ⟨⟨⟨⟨⟨a1,a2⟩,a3⟩,a4⟩,a5⟩,a6⟩:=h3 _ (mj e)
  exact (a6 _ (mj e')).elim (fun z=>absurd z n) id
end LD
namespace LD
open PySem PySem.Spec PyProof.Rows L2 PySem.SeqAt
def qc (M:Mem)(x:D):Option (List Bool):=(gW M x).bind boolsOf
def yK (a:GE):GE:=fun Z M=>(a Z M).bind fun x M=>match qc M x with
 |some bs=>.ok (.int (bs.count true)) M
 |none=>.bad
def yJ (a:GE):GE:=fun Z M=>(a Z M).bind fun x M=>match qc M x with
 |some bs=>if true∈bs then .ok (.int (bs.idxOf true)) M else .bad
 |none=>.bad
def qL:Value->Bool
 |.bool b=>b
 |_=>false
section
variable {fa:Fa}{X:Cx}
theorem eqT {A:Around}{s:Shared}{us:List Value}{bs:List Bool}(h:us=bs.map Value.bool):∀y,y∈us.toArray->EqAt A s y (.bool true) (qL y):=fun y hy=>by
 have hy:y∈us:=by simpa using hy
 rw [h] at hy
 obtain ⟨b,_,rfl⟩:=List.mem_map.mp hy
 have e:=EqAt.bool_bool (A:=A) (s:=s) b true
 have q:(b==true)=qL (.bool b):=by cases b<;>rfl
 rw [<- q];exact e
theorem MM {bs:List Bool}:(bs.map Value.bool).countP qL=bs.count true:=by
 induction bs with
 |nil=>rfl
 |cons b r ih=>cases b<;>simp [List.countP_cons,qL,ih]
theorem tj:∀{us:List Value}{bs:List Bool},PyProof.Rows.LSm.BoolsAre us bs->us=bs.map Value.bool:=by
 intro us bs h
 induction h with
 |nil=>rfl
 |cons _ _ ih=>simp [ih]
def Lu (fa:Fa)(K:PySem.W.Frag)(x:V)(vs:List V)(H:Hp)(Q:VK):Prop:=∃μ ds bs p ws,x=.ref p/\vs=[.bl true]/\dA K H p ws/\bf fa K μ H ds ws/\boolsOf ds=some bs/\Q (.int (bs.count true)) H
def Jt (fa:Fa)(K:PySem.W.Frag)(x:V)(vs:List V)(H:Hp)(Q:VK):Prop:=∃μ ds bs p ws,x=.ref p/\vs=[.bl true]/\dA K H p ws/\bf fa K μ H ds ws/\boolsOf ds=some bs/\true∈bs/\Q (.int (bs.idxOf true)) H
theorem HL:IV X "list.count" (Lu fa X.K):=by
 intro pins s σ H x vs v us Q I rx rv h
 obtain ⟨μ,ds,bs,p,ws,rfl,rfl,hq,rl,eb,q⟩:=h
 cases rx
 obtain ⟨u,rfl,ru⟩:=vals1 rv
 obtain rfl:u=Value.bool true:=ru
 obtain ⟨its,rv,⟨o,n,e1,e2,e3,e4⟩,hz⟩:=I.list hq
 have hb:=tj (nI eb rl rv)
 obtain ⟨oc,od,oda,osl⟩:=o
 obtain rfl:oc=.type "list":=e2
 obtain rfl:oda=.seq its.toArray n:=e4
 refine call_meets PySem.F.slot_list_count ⟨_,e1,rfl⟩ PySem.F.entry_list_count (PySem.F.args_list_count_2 _ _) (PySem.SeqAt.list_countAt p its.toArray n od osl (.bool true) qL) ⟨e1,eqT hb,?_⟩
 have hcnt:its.toArray.toList.countP qL=bs.count true:=by rw [hb,List.toList_toArray];exact MM
 exact ⟨.int (bs.count true),H,I.tok _,⟨s.toks,by rw [hcnt]⟩,q⟩
theorem HK:IV X "list.index" (Jt fa X.K):=by
 intro pins s σ H x vs v us Q I rx rv h
 obtain ⟨μ,ds,bs,p,ws,rfl,rfl,hq,rl,eb,hm,q⟩:=h
 cases rx
 obtain ⟨u,rfl,ru⟩:=vals1 rv
 obtain rfl:u=Value.bool true:=ru
 obtain ⟨its,rv,⟨o,n,e1,e2,e3,e4⟩,hz⟩:=I.list hq
 have hb:=tj (nI eb rl rv)
 obtain ⟨oc,od,oda,osl⟩:=o
 obtain rfl:oc=.type "list":=e2
 obtain rfl:oda=.seq its.toArray n:=e4
 have hl:bs.idxOf true<bs.length:=List.idxOf_lt_length_of_mem hm
 have hl2:its.length=bs.length:=by rw [hb];simp
 have hz2:its.length<=sizeLine:=by rw [<- rv.length];exact hz
 have hs:((bs.idxOf true:Nat):Int)<2^63-1:=by
  have:sizeLine<2^62:=by decide
  omega
 have at':∀m (hm:m<its.toArray.size),qL its.toArray[m]=bs[m]'(by simp at hm;omega):=fun m hm=>by subst hb;simp [qL]
 refine call_meets PySem.F.slot_list_index ⟨_,e1,rfl⟩ PySem.F.entry_list_index (PySem.F.args_list_index_2 _ _) (PySem.SeqAt.list_indexAt p its.toArray n od osl (.bool true) qL (bs.idxOf true) (by simp;omega) hs (by rw [at'];simp) fun m hm h=>?_) ⟨e1,eqT hb,?_⟩
 ·rw [at']
  have:=List.not_of_lt_findIdx (p:=(·==true)) (xs:=bs) (i:=m) h
  simpa using this
 ·exact ⟨.int (bs.idxOf true),H,I.tok _,⟨_,rfl⟩,q⟩
variable {a:Expr}{ga:GE}{apos cpos kp:Pos}{j:Nat}
theorem Gf (ha:DE fa X a ga)(hbase:attributeBase a "count" X.env (eval a X.env)=eval a X.env)(hline:(apos.endLine==cpos.line)=true):DE fa X (.Call (.Attribute a "count" apos) [.Constant (.bool true) j kp] [] cpos) (yK ga):=
 cG (xT PySem.F.plainAttrs_list PySem.F.slot_list_count PySem.F.type_list_count (HL (fa:=fa)) ha (di xU fO (by rfl)) hbase (by rfl) hline (by rfl) (by rfl)) fun σ H Q ⟨μ,Z,M,hE,hM,h⟩=>t1 hE hM h fun x M1 v H1 μ1 x1 hE1 hM1 r1 h1=>by
  cases e3:qc M1 x with
  |none=>rw [e3] at h1;exact h1.elim
  |some bs=>
   rw [e3] at h1
   obtain ⟨ds,e,e2⟩:=Option.bind_eq_some_iff.mp e3
   obtain ⟨p,ws,rfl,hq,rl⟩:=cw hM1 r1 e
   exact ⟨.inl ⟨rfl,ws,hq⟩,μ1,ds,bs,p,ws,rfl,rfl,hq,rl,e2,bE (v:=.int _) hM1 (bG.ext h1 x1) rfl⟩
theorem Gb (ha:DE fa X a ga)(hbase:attributeBase a "index" X.env (eval a X.env)=eval a X.env)(hline:(apos.endLine==cpos.line)=true):DE fa X (.Call (.Attribute a "index" apos) [.Constant (.bool true) j kp] [] cpos) (yJ ga):=
 cG (xT PySem.F.plainAttrs_list PySem.F.slot_list_index PySem.F.type_list_index (HK (fa:=fa)) ha (di xU fO (by rfl)) hbase (by rfl) hline (by rfl) (by rfl)) fun σ H Q ⟨μ,Z,M,hE,hM,h⟩=>t1 hE hM h fun x M1 v H1 μ1 x1 hE1 hM1 r1 h1=>by
  cases e3:qc M1 x with
  |none=>rw [e3] at h1;exact h1.elim
  |some bs=>
   rw [e3] at h1
   obtain ⟨ds,e,e2⟩:=Option.bind_eq_some_iff.mp e3
   have h1:au (if true∈bs then .ok (.int (bs.idxOf true)) M1 else .bad) (bG fa X.K μ H Q):=h1
   split at h1
   ·next hm=>
    obtain ⟨p,ws,rfl,hq,rl⟩:=cw hM1 r1 e
    exact ⟨.inl ⟨rfl,ws,hq⟩,μ1,ds,bs,p,ws,rfl,rfl,hq,rl,e2,hm,bE (v:=.int _) hM1 (bG.ext h1 x1) rfl⟩
   ·exact h1.elim
end
end LD
namespace LD
open PySem PySem.Spec PySem.Calls PyProof.Rows
section
variable {prog:Program}{w:World}{A:Around}{E:Value->Shared->Prop}{h:Heap}{g:Array GenState}{d:Drawn}{t:Nat}{os:OsState}
variable {nm q:Str}{C N:Addr}{bs bm:List Value}{hdct:Bool}{sn:List Str}{sub:List Value}{ab:Bool}{col:Option Bool}{dd:Option Addr}{k0 k1 k2 k3 k5:Option Value}
theorem CB {e:Addr}{oe:Obj}{vs:Array Value}{u:Value}{Q:Value->Shared->Prop}(hC:h.get? C=some (excClassObj nm q C N bs bm hdct sn sub ab col dd k0 k1 k2 k3 k5 "ValueError.__new__"))(T:OwnTail h mq bm)
 (he:h.get? e=some oe) (hcls:oe.cls=.ref C) (hd:oe.data=.fields vs) {t0:Addr} (h0:vs[0]?=some (.ref t0))
 (hq:∀h' tp,(∀b o,b≠e->h.get? b=some o->h'.get? b=some o)->h'.get? e=some (oe.mapFields (·.setIfInBounds 0 (.ref tp)))->Q .none ⟨h',g,d,t,os⟩) :
 wpAny (model prog w) A (call (.builtin "ValueError.__init__") [.ref e,u]) Q E ⟨h,g,d,t,os⟩:=by
 refine wpAny_call (codeAny_call_builtin PySem.F.excBase_ValueError.init.plain PySem.F.excBase_ValueError.initEntry (wpAny_check_init_subT PySem.F.excBase_ValueError T hC he hcls ?_))
 wp_walk
 have he2:(h.push {cls:=.type "tuple",data:=.seq #[u]}).get? e=some oe:=tqc _ he
 rw [hd]
 refine tqb ?_
 rw [h0]
 refine tqb ?_
 refine tqa (wpAny_setField he2 hd (Array.getElem?_eq_some_iff.mp h0).1 ?_)
 wp_walk
 refine hq _ h.objs.size (fun b o hb e'=>?_) ?_
 ·rw [tql _ _ (Ne.symm hb)];exact tqc _ e'
 ·exact tqm _ he2 (Obj.isFreed_of_fields (Obj.data_mapFields hd _))
end
def mP:List Value->Bool
 |.ref _::r=>mP r
 |l=>l==mq
theorem uX (self:Value):∀{l:List Value},mP l=true->refuseLoop self "__setattr__" l=pure ()
 |[],e=>absurd e (by decide)
 | a :: r, e => by
   cases a with
   |ref c=>rw [refuseLoop_ref];exact uX self e
   | _ =>
     have q:=eq_of_beq (show (_::r==mq)=true from e)
     rw [q];exact PySem.F.store_ValueError.passes self
def tZ (K:PySem.W.Frag)(C:Addr):Bool:=(PySem.W.clsIn K C).any (fun cd=>mP cd.mro)&&PySem.W.mroIn K C (.type "object")==some true
theorem JB {prog:Program}{w:World}{A:Around}{R:Result->Shared->Prop}{s:Shared}{K:PySem.W.Frag}{x C:Addr}{ox:Obj}{od:Option Obj}{name:Str}{tk:Tok}{v:Value}(X:K.In s.heap)(J:PySem.W.InstAt s.heap x ox C od)(hp:tZ K C=true)(ht:PySem.W.takerIn K C name=some none)
 (h:∀b,wpAny (model prog w) A.in1 (Builtin.ObjectAttr.storeInOwnDict (.ref x) (.ref C) (.str name tk) name v b) (fun fin s'=>match fin with|.done f=>R (.ok f) s'|.again c'=>c'.quiet=true/\codeAny (model prog w) A c' R s') (fun e s'=>R (.error e) s') s) :
 codeAny (model prog w) A (.call (.builtin "object.__setattr__") ⟨[.ref x,.str name tk,v],[]⟩) R s:=by
 unfold tZ at hp
 rw [Bool.and_eq_true,beq_iff_eq] at hp
 obtain ⟨cd,hc,ho⟩:=PySem.W.any_some hp.1
 have G:=PySem.F.store_ValueError
 have ho:mP cd.mro=true:=ho
 have e0:PySem.W.Looks (model prog w) s.heap (isInstance (.ref x) (.type "object")) true:=J.type.andThen (PySem.W.looks_mroIn X hp.2)
 obtain ⟨at',ha,hr⟩:=Option.bind_eq_some_iff.mp ht
 have e1:PySem.W.Looks (model prog w) s.heap (mroOf (.ref C)) cd.mro:=(PySem.W.looks_clsIn X hc).andThen .now
 have e2:PySem.W.Looks (model prog w) s.heap (Builtin.ObjectAttr.storeTaker? at') none:=by
  cases at' with
  |none=>exact .now
  | some a =>
    obtain ⟨b,hb,hn⟩:=Option.map_eq_some_iff.mp hr
    cases b with
    |true=>cases hn
    |false=>exact (PySem.W.looks_takesIn X hb).andThen .now
 refine codeAny_call_builtin PySem.F.store_object.slot.plain G.entry (@PySem.W.check_slot (model prog w) _ _ s "object.__setattr__" "object" "__setattr__" (.ref x) [.str name tk,v] [] _ G.kind G.split e0 (G.args (.ref x) (.str name tk) v) ?_)
 rw [PySem.W.osa_eq]
 refine tqa ?_
 rw [refuse_eq]
 refine tqa (J.type.here (tqa (e1.here ?_)))
 rw [uX _ ho]
 exact tqb (tqa (J.type.here (tqa ((PySem.W.looks_findIn X ha).here (tqa (e2.here (h _)))))))
theorem EU {prog:Program}{w:World}{A:Around}{E:Value->Shared->Prop}{s:Shared}{K:PySem.W.Frag}{x C:Addr}{ox:Obj}{name:Str}{v:Value}{vs:Array Value}{Q:Unit->Shared->Prop}(X:K.In s.heap)(J:PySem.W.InstAt s.heap x ox C none)
 (hs:PySem.W.findIn K (.ref C) "__setattr__"=some (some (.builtin "object.__setattr__"))) (hp:tZ K C=true) (ht:PySem.W.takerIn K C name=some none) (hh:PySem.W.hasDictIn K C=true) (hd:ox.data=.fields vs)
 (h:∀h' d,s.heap.objs.size<=d->h'.Ns1 d (fun y=>if y=name then some v else none)->h'.get? x=some {ox with dict:=some d}->(∀b o,b≠x->s.heap.get? b=some o->h'.get? b=some o)->Q () {s with heap:=h',toks:=s.toks+2}) :
 wpAny (model prog w) A (setAttr (.ref x) name v) Q E s:=by
 refine PySem.W.set_plain X J hs (JB (s:={s with toks:=s.toks+1}) X J hp ht fun b=>?_)
 obtain ⟨cd,hc,hd'⟩:=PySem.W.any_some hh
 have hx:=J.at_
 obtain ⟨oc,odi,oda,osl⟩:=ox
 obtain rfl:oc=.ref C:=J.cls
 obtain rfl:oda=.fields vs:=hd
 have hdi:odi=none:=by
  have:=J.dict
  cases odi with
  |none=>rfl
  |some d=>exact this.elim
 subst hdi
 refine tqa (tqb (tqa (tqa (wpAny_loadPart hx (tqa (PySem.W.Looks.here (s:={s with toks:=s.toks+1}) (PySem.W.looks_clsIn X hc) ?_))))))
 rw [hd']
 show wpAny _ _ (alloc {cls:=.type "dict",data:=.dict #[]} >>= fun d=>update x (fun o=>{o with dict:=some d}) >>= fun _=>(pure (some d):Sem (Option Addr))) _ _ _
 refine tqa (wpAny_alloc ?_)
 have hx2:(s.heap.push {cls:=.type "dict",data:=.dict #[]}).get? x=some ⟨.ref C,none,.fields vs,osl⟩:=tqc _ hx
 refine tqa (wpAny_update hx2 (tqb ?_))
 have hdx:s.heap.objs.size≠x:=Nat.ne_of_gt (tqd hx)
 have e1:(s.heap.push {cls:=.type "dict",data:=.dict #[]}).get? s.heap.objs.size=some {cls:=.type "dict",data:=.dict #[]}:=tqe s.heap rfl
 have e2:((s.heap.push {cls:=.type "dict",data:=.dict #[]}).update x (fun o=>{o with dict:=some s.heap.objs.size})).get? s.heap.objs.size=some {cls:=.type "dict",data:=.dict #[]}:=(tql _ _ (Ne.symm hdx)).trans e1
 have e3:((s.heap.push {cls:=.type "dict",data:=.dict #[]}).update x (fun o=>{o with dict:=some s.heap.objs.size})).Ns s.heap.objs.size (fun _=>none):=⟨_,#[],_,e2,rfl,(fun e he=>absurd he (by simp)),fun _=>rfl⟩
 have e4:=tqm (fun o=>{o with dict:=some s.heap.objs.size}) hx2 rfl
 refine tqa (tqb (tqa ?_))
 refine wpAny_nsSet1 (Heap.Ns1.of_empty e3) fun h' hn2 hs2=>?_
 obtain ⟨oD,esD,epD,hoD,hdD,hcD⟩:=hn2.count (PySem.Within.cons name v PySem.Within.nil)
 refine tqa (wpAny_lookBehind hoD (by rw [hdD];exact pastItsLine_dict (tqh hcD (by show 1<=sizeLine+1;omega))) ?_)
 refine tqb (h _ s.heap.objs.size (tqg _) hn2 ((hs2.2 _ (Ne.symm hdx)).trans e4) fun b o hb e=>?_)
 rw [hs2.2 b (tqk (tqd e)),tql _ _ (Ne.symm hb)]
 exact tqc _ e
end LD
namespace LD
open PySem PySem.Spec PyProof.Rows L2
def fit (z:Str)(i:Int)(y:Str):Prop:=i.natAbs.log2<1920/\(z++(toString i:Str)).length<=sizeLine/\(z++(toString i:Str)++y).length<=sizeLine
section
variable {X:Cx}{a:Expr}{ta:TE}{pos p1 p2 p3:Pos}{j j2:Nat}{z y:Str}
def Ku (z y:Str)(ta:TE):TE:=fun σ H Q=>z.length<=sizeLine/\ta σ H fun v H1=>∃i,v=.int i/\fit z i y/\Q (.str (z++(toString i:Str)++y)) H1
theorem tJ (z:Str):Str.empty++z=z:=by
 cases z with
 |mk c=>show Str.mk (#[]++c)=_;simp
theorem yU (z:Str):z++Str.empty=z:=by
 cases z with
 |mk c=>show Str.mk (c++#[])=_;simp
theorem Jz (ha:PE X a ta):PE X (.JoinedStr [.Constant (.str z) j p1,.FormattedValue a (-1) none p2,.Constant (.str y) j2 p3] pos) (Ku z y ta):=by
 intro pins s σ H Q I ⟨hz,h⟩
 refine JoinedStr_many (joinParts_cons (Calls.Constant_str ?_))
 show (Str.empty++z).length<=sizeLine/\_
 rw [tJ]
 refine ⟨hz,joinParts_cons (FormattedValue_plain (bz (ha pins _ σ H _ (I.tok _) h) fun u s1 ⟨v,H1,I1,r1,i,ev,⟨f1,f2,f3⟩,q⟩=>?_))⟩
 subst ev
 obtain ⟨t,rfl⟩:=r1
 refine formatField_int_small f1 ⟨f2,joinParts_cons (Calls.Constant_str ⟨f3,joinParts_nil ?_ f3⟩)⟩
 exact ⟨.str _,H1,I1.tok _,⟨_,rfl⟩,q⟩
theorem JA (ha:PE X a ta):PE X (.JoinedStr [.Constant (.str z) j p1,.FormattedValue a (-1) none p2] pos) (Ku z Str.empty ta):=by
 intro pins s σ H Q I ⟨hz,h⟩
 refine JoinedStr_many (joinParts_cons (Calls.Constant_str ?_))
 show (Str.empty++z).length<=sizeLine/\_
 rw [tJ]
 refine ⟨hz,joinParts_cons (FormattedValue_plain (bz (ha pins _ σ H _ (I.tok _) h) fun u s1 ⟨v,H1,I1,r1,i,ev,⟨f1,f2,f3⟩,q⟩=>?_))⟩
 subst ev
 obtain ⟨t,rfl⟩:=r1
 refine formatField_int_small f1 ⟨f2,joinParts_nil ?_ f2⟩
 have e:z++(toString i:Str)++Str.empty=z++(toString i:Str):=by
  exact yU _
 rw [e] at q
 exact ⟨.str _,H1,I1.tok _,⟨_,rfl⟩,q⟩
end
def fW (C:Addr)(dx:Option Addr)(a:Addr)(h:Heap):Prop:=∃o vs t0,h.get? a=some o/\o.cls=.ref C/\o.dict=dx/\o.data=.fields vs/\vs[0]?=some (.ref t0)/\vs[1]?=some .none
def lp (K:PySem.W.Frag)(C:Addr)(fI:Addr):Bool:=match K.lookup C with
 | some ⟨.type "type", _, .cls cd, sl⟩ => (match cd.mro, sl.toList with
   |.ref C'::bm,[_,_,_,_,some (.builtin n),_]=>C'==C&&n=="ValueError.__new__"&&!cd.hasDel&&PySem.W.tailIn K mq bm&&PySem.W.nsOkIn K cd.ns&&PySem.W.nsIn K cd.ns "__init__"==some (some (.ref fI))
   |_,_=>false)
 |_=>false
theorem yd {K:PySem.W.Frag}{h:Heap}{N:Addr}{x:Str}{v:Value}{mg:Str->Option Value}(X:K.In h)(G:h.Ns N mg)(e:PySem.W.nsIn K N x=some (some v)):mg x=some v:=by
 obtain ⟨o,es,ep,ho,hd,_,hf⟩:=G
 unfold PySem.W.nsIn at e
 split at e
 ·rename_i c d es' n' sl q
  have:=X _ _ q
  rw [ho] at this
  cases this
  cases hd
  split at e
  ·rename_i en he
   cases e
   rw [<- hf]
   unfold nsFind findBy
   rw [<- Array.find?_toList,he]
   rfl
  ·split at e<;>cases e
 ·cases e
theorem nY {K:PySem.W.Frag}{h:Heap}{C fI:Addr}(X:K.In h)(q:lp K C fI=true) :
 ∃bm N nm q bs hdct sn sub ab col dd k0 k1 k2 k3 k5 mN,h.get? C=some (excClassObj nm q C N bs bm hdct sn sub ab col dd k0 k1 k2 k3 k5 "ValueError.__new__")/\h.Ns N mN/\mN "__init__"=some (.ref fI)/\OwnTail h mq bm:=by
 unfold lp at q
 split at q
 ·rename_i dd cd sl ho
  split at q
  ·rename_i C' bm k0 k1 k2 k3 n k5 hm hs
   simp only [Bool.and_eq_true,beq_iff_eq,Bool.not_eq_true'] at q
   obtain ⟨⟨⟨⟨⟨rfl,rfl⟩,hdel⟩,ht⟩,hok⟩,hni⟩:=q
   obtain ⟨nm,bs,mro,ns,qn,hd,sn,sub,ab,col,del⟩:=cd
   dsimp only at hm hdel hok hni
   subst hm hdel
   have hsl:sl=#[k0,k1,k2,k3,some (.builtin "ValueError.__new__"),k5]:=by
    obtain ⟨l⟩:=sl
    simp only at hs
    rw [hs]
   subst hsl
   exact ⟨bm,ns,nm,qn,bs,hd,sn,sub,ab,col,dd,k0,k1,k2,k3,k5,_,X _ _ ho,.of_isNs (PySem.W.isNs_of_in X hok),yd X (.of_isNs (PySem.W.isNs_of_in X hok)) hni,PySem.W.tail_of_in X ht⟩
  ·cases q
 ·cases q
theorem Bo {H:Hp}{a:Addr}{o:HO}(h:H a=some o):upd H a o=H:=by
 funext b
 unfold upd
 split
 ·next e=>rw [e,h]
 ·rfl
section
variable {X:Cx}{a b:Expr}{ta tb:TE}{apos cpos p1 pos:Pos}{x:Str}{D:Addr}
def Lj (K:PySem.W.Frag)(ta tb:TE):TE:=fun σ H Q=>ta σ H fun v H1=>tb σ H1 fun u H2=>∃e C fI,v=.ref e/\H2 e=some (.ext (fW C none e))/\lp K C fI=true/\Q .non H2
theorem rg {P:Program}{w:World}{H:Hp}{h:Heap}{C e:Addr}{dx:Option Addr}(x:fW C dx e h):dC P w H h e (.ext (fW C dx e)):=by
 refine ⟨x,let ⟨o,_,_,e,_⟩:=x;⟨o,e⟩,fun g1 g2 ⟨o,vs,t0,k1,k2⟩ kk=>⟨o,vs,t0,kk o k1,k2⟩⟩
theorem GK {pl:Sem Bool}(hD:X.mg x=some (.ref D))(hg:Gl X x)(h1:PySem.W.readsIn X.K D (.type "type")=true)(h2:PySem.W.findCls X.K (.ref D) (.type "type") "__init__"=some (.val (.builtin "ValueError.__init__")))
 (h3:PySem.W.specialIn X.K (.ref D) "__getattribute__"=some (some (.builtin "type.__getattribute__"))) (ha:PE X a ta) (hb:PE X b tb) (he:notStar a=true) (he2:notStar b=true) (hdb:(x==("__debug__":Str))=false)
 (ht:eval (.Call (.Attribute (.Name x p1) "__init__" apos) [a,b] [] cpos) X.env=(do
  let ov <- eval (.Name x p1) X.env
  standAt apos.atName
  let (f,first) <- holding [ov] (getMethod ov "__init__" pl)
  callWith cpos f first (backTo cpos (starEach [a,b] X.env)) (backToKw cpos (keywordEach [] X.env)))) :
 PE X (.Call (.Attribute (.Name x p1) "__init__" apos) [a,b] [] cpos) (Lj X.K ta tb):=by
 intro pins s σ H Q I h
 refine PySem.W.methodCall_KW (pl:=pl) (jC I hg hD ?_ hdb) ht
 refine PySem.W.method_cls I.kIn h3 (PySem.W.cls_value I.kIn h1 h2 rfl ?_)
 refine Calls.callWith_builtin (eV (es:=[a,b]) (by simp [he,he2])) ?_
 have ar:=bz ((di ha (di hb fO (cX he2)) (cX he)) cpos pins {s with toks:=s.toks+1} σ H (fun vs H2=>match vs with|[v,u]=>∃e C fI,v=.ref e/\H2 e=some (.ext (fW C none e))/\lp X.K C fI=true/\Q .non H2|_=>False) (I.tok _) h) (Q':=fun us s2=>wpAny (model X.prog X.w) X.A (call (.builtin "ValueError.__init__") ([]++us) []) (EP X pins σ Q) X.xe s2) fun us s1 ⟨vs,H1,I1,r,hq⟩=>by
  match vs,r,hq with
  |[],_,hq=>exact hq.elim
  |[_],_,hq=>exact hq.elim
  |_::_::_::_,_,hq=>exact hq.elim
  | [v, u], r, ⟨e, C, fI, ev, hH, hx, q⟩ =>
    subst ev
    obtain ⟨w1,w2,rfl,r1,r2⟩:=vals2 r
    obtain rfl:w1=Value.ref e:=r1
    obtain ⟨⟨o,vs,t0,k1,k2,k3,k4,k5,k6⟩,_,_⟩:=I1.hok e _ hH
    obtain ⟨bm,N,nm,qq,bs,hdct,sn,sub,ab,col,dd,c0,c1,c2,c3,c5,mN,hC,hN,hni,T⟩:=nY I1.kIn hx
    obtain ⟨hp,gg,dr,tk,os⟩:=s1
    refine CB hC T k1 k2 k4 k5 fun h' tp kk ke=>?_
    have nw:fW C none e h':=⟨_,_,tp,ke,by rw [Obj.cls_mapFields];exact k2,by rw [nZ];exact k3,Obj.data_mapFields k4 _,by simp [(Array.getElem?_eq_some_iff.mp k5).1],by rw [Array.getElem?_setIfInBounds_ne (by decide)];exact k6⟩
    have I2:=I1.write (x:=e) (e:=e) (o:=.ext (fW C none e)) (h':=h') (t':=tk) (by rw [hH];exact True.intro) (.inl rfl) (fun b u hb z=>kk b u hb z) ⟨_,ke⟩ (rg nw)
    rw [Bo hH] at I2
    exact ⟨.non,H1,I2,rfl,q⟩
 rw [cX he] at ar ⊢
 exact PySem.Calls.evalArgs_plain ar
end
def setIn (K:PySem.W.Frag)(C:Addr)(fld:Str):Bool:=PySem.W.findIn K (.ref C) "__setattr__"==some (some (.builtin "object.__setattr__"))&&tZ K C&&PySem.W.takerIn K C fld==some none&&PySem.W.hasDictIn K C
section
variable {X:Cx}{o value:Expr}{to tv:TE}{p' pos:Pos}{fld:Str}
def Jf (K:PySem.W.Frag)(tv to:TE)(fld:Str):TS:=fun D σ H=>tv σ H fun y H1=>to σ H1 fun x H2=>∃e C i,x=.ref e/\y=.int i/\H2 e=some (.ext (fW C none e))/\setIn K C fld=true/\∀d,H2 d=none->d≠e->D.nx σ (upd (upd H2 d (.xd [(fld,.int i)])) e (.ext (fW C (some d) e)))
theorem Eh (ho:PE X o to)(hv:PE X value tv)(hs:swapsWith value (some (.Attribute o fld p')) pos.line X.env=pure false):PS X (.Assign [.Attribute o fld p'] value pos) (Jf X.K tv to fld):=by
 intro pins s σ H D I h
 refine plainObj_wpAny_Assign_Attribute (bz (hv pins s σ H _ I h) fun u s1 ⟨y,H1,I1,ry,q⟩=>bz (ho pins s1 σ H1 _ I1 q) fun ov s2 ⟨x,H2,I2,rx,e,C,i,ex,ey,hH,hset,q2⟩=>?_) hs
 subst ex ey
 obtain rfl:ov=Value.ref e:=rx
 obtain ⟨t,rfl⟩:=ry
 simp only [setIn,Bool.and_eq_true,beq_iff_eq] at hset
 obtain ⟨⟨⟨g1,g2⟩,g3⟩,g4⟩:=hset
 obtain ⟨⟨ob,vs,t0,k1,k2,k3,k4,k5,k6⟩,_,_⟩:=I2.hok e _ hH
 have IA:PySem.W.InstAt s2.heap e ob C none:=⟨k1,k2,by unfold PySem.W.notCls;rw [k4],by rw [k3];trivial⟩
 refine EU I2.kIn IA g1 g2 g3 g4 k4 fun h' d hd hns hx' kk=>?_
 have hd0:H2 d=none:=I2.hok.fresh hd
 have hde:d≠e:=fun z=>by rw [z,hH] at hd0;cases hd0
 have lt:∀b o,s2.heap.get? b=some o->b≠d:=fun b o q z=>absurd (tqd q) (by rw [z];exact Nat.not_lt.mpr hd)
 have ne:∀b,H2 b=none->b≠e:=fun b q z=>by rw [z,hH] at q;cases q
 have up:∀b,b≠d->b≠e->upd (upd H2 d (.xd [(fld,.int i)])) e (.ext (fW C (some d) e)) b=H2 b:=fun b z1 z2=>by rw [aX z2,aX z1]
 have nd:∀b u,H2 b=some u->b≠d:=fun b u q=>bA q hd0
 refine ⟨σ,_,I2.un (h':=h') (t':=s2.toks+2) (H':=upd (upd H2 d (.xd [(fld,.int i)])) e (.ext (fW C (some d) e))) ⟨fun b o q n _ _=>kk b o (ne b n) q,fun b o q n _ _=>⟨o.slots,kk b o (ne b n) q⟩,fun b o q n _=>?_,fun b o q _=>?_,fun b xs q=>?_,fun b o u q=>?_,fun b ps q=>⟨#[],?_⟩⟩ fun b u q=>?_,q2 d hd0 hde⟩
 ·rw [up b (lt b o q) (ne b n)];exact n
 ·by_cases z:b=e
  ·exact ⟨_,by rw [z];exact hx'⟩
  ·exact ⟨o,kk b o z q⟩
 ·rw [up b (nd b _ q) (fun z=>by rw [z,hH] at q;cases q)];exact q
 ·rw [up b (nd b _ q) (fun z=>by rw [z,hH] at q;cases q)];exact q
 ·rw [up b (nd b _ q) (fun z=>by rw [z,hH] at q;cases q)];simpa using q
 ·by_cases z:b=e
  ·subst z
   rw [cE] at q;cases q
   exact rg ⟨_,vs,t0,hx',k2,rfl,k4,k5,k6⟩
  ·by_cases z2:b=d
   ·subst z2
    rw [aX hde,cE] at q;cases q
    refine ⟨_,hns,fun f=>?_⟩
    by_cases hf:f=fld
    ·subst hf
     simp only [List.lookup_cons,beq_self_eq_true,if_true]
     exact ⟨t,rfl⟩
    ·rw [if_neg hf]
     have:([(fld,V.int i)]:List (Str×V)).lookup f=none:=by simp [List.lookup_cons,beq_eq_false_iff_ne.mpr hf]
     rw [this];trivial
   ·rw [up b z2 z] at q
    refine (I2.hok b u q).stay (fun c v hc w=>kk c v ?_ w) (fun c w=>?_) fun c xs w=>?_
    ·rcases hc with hc|hc
     ·rw [hc];exact z
     ·intro y;rw [y,hH] at hc;cases hc
    ·rw [up c (nd c _ w) (fun y=>by rw [y,hH] at w;cases w)];exact w
    ·rw [up c (nd c _ w) (fun y=>by rw [y,hH] at w;cases w)];exact w
end
end LD
namespace LD
open PySem PySem.Spec PyProof.Rows
section
variable {prog:Program}{w:World}{A:Around}{E:Value->Shared->Prop}{h:Heap}{g:Array GenState}{d:Drawn}{t:Nat}{os:OsState}
variable {nm q:Str}{C N:Addr}{bs bm:List Value}{hdct:Bool}{sn:List Str}{sub:List Value}{ab:Bool}{col:Option Bool}{dd:Option Addr}{k0 k1 k2 k3 k5:Option Value}
theorem tL {mN:Str->Option Value}{rest:List Value}{fI:Addr}{oI:Obj}{Q:Fin->Shared->Prop}
 (hC:h.get? C=some (excClassObj nm q C N bs bm hdct sn sub ab col dd k0 k1 k2 k3 k5 "ValueError.__new__")) (T:OwnTail h mq bm) (hn:h.Ns N mN) (hi:mN "__init__"=some (.ref fI)) (hfI:h.get? fI=some oI) (hfc:oI.cls=.type "function")
 (hq:∀h' e,Heap.MadeExcOf h h' e (.ref C) rest->wpAny (model prog w) A (call (.ref fI) (.ref e::rest)) (fun r s'=>r=.none/\Q (.done (.ret (.ref e))) s') E ⟨h',g,d,t,os⟩) (hrest:rest.length<=sizeLine) :
 wpAny (model prog w) A (Builtin.«type.__call__» ⟨.ref C::rest,[]⟩) Q E ⟨h,g,d,t,os⟩:=by
 have F:=PySem.F.excBase_ValueError
 repeat (first|with_reducible refine wpAny_loadPart_at hC ?_|with_reducible refine wpAny_madeBy_exc hC ?_|wp_step)
 refine codeAny_call_builtin_code (Code.quiet_builtin _ F.quiet) (wpAny_check_new_subT F T hC ?_)
 refine codeAny_exc_new_subT F T hC ?_ hrest
 show wpAny _ _ _ _ _ _
 have kp:∀b o,h.get? b=some o->((h.push {cls:=.type "tuple",data:=.seq rest.toArray}).push {cls:=.ref C,data:=.fields #[.ref h.objs.size,.none,.none,.none,.bool false,.none]}).get? b=some o:=fun b o hb=>tqc _ (tqc _ hb)
 have hC₁:=kp _ _ hC
 have hfI₁:=kp _ _ hfI
 have hn₁:=hn.keeps kp
 have T₁:=T.keeps kp
 have hget:((h.push {cls:=.type "tuple",data:=.seq rest.toArray}).push {cls:=.ref C,data:=.fields #[.ref h.objs.size,.none,.none,.none,.bool false,.none]}).get? (h.objs.size+1)=some {cls:=.ref C,data:=.fields #[.ref h.objs.size,.none,.none,.none,.bool false,.none]}:=by heap_get
 have hcC:(Value.ref C::bm).contains (.ref C)=true:=by simp
 unfold isInstance
 repeat (first|with_reducible refine wpAny_loadPart_at hget ?_|(with_reducible refine wpAny_isSubtype_exc hC₁ ?_;rw [hcC])|wp_step)
 show wpAny _ _ (typeLookup (.ref C) _) _ _ _
 refine wpAny_typeLookup_tail hC₁ hn₁ T₁ F.mroIs F.init.lookup ?_
 rw [hi]
 refine tqo (tqa ?_)
 unfold bindSpecial
 refine tqa (wpAny_typeOf (T:="function") ⟨_,hfI₁,hfc⟩ ?_)
 rw [if_pos (by decide)]
 refine tqb (tqa (wpAny_mono (hq _ (h.objs.size+1) ⟨kp,Heap.get?_none_of_le (Nat.le_succ _),h.objs.size,hget,Heap.get?_none_of_le (tqg _),?_⟩) (fun r s' hr=>?_) fun _ _ x=>x))
 ·exact tqc _ (Heap.get?_push_at rfl rfl)
 ·obtain ⟨rfl,hQ⟩:=hr
  wp_walk
  exact hQ
theorem A3 {mN:Str->Option Value}{rest:List Value}{fI:Addr}{oI:Obj}{Q:Value->Shared->Prop}
 (hC:h.get? C=some (excClassObj nm q C N bs bm hdct sn sub ab col dd k0 k1 k2 k3 k5 "ValueError.__new__")) (T:OwnTail h mq bm) (hn:h.Ns N mN) (hi:mN "__init__"=some (.ref fI)) (hfI:h.get? fI=some oI) (hfc:oI.cls=.type "function")
 (hq:∀h' e,Heap.MadeExcOf h h' e (.ref C) rest->wpAny (model prog w) (A.under (.builtin "type.__call__" ⟨.ref C::rest,[]⟩)) (call (.ref fI) (.ref e::rest)) (fun r s'=>r=.none/\Q (.ref e) s') E ⟨h',g,d,t,os⟩) (hrest:rest.length<=sizeLine) :
 wpAny (model prog w) A (call (.ref C) rest) Q E ⟨h,g,d,t,os⟩:=by
 have f1:=tc_lookup
 have f2:=tc_bind (.ref C)
 have hT:(⟨h,g,d,t,os⟩:Shared).TypeIs (.ref C) "type":=⟨_,hC,rfl⟩
 refine wpAny_call (codeAny_of_tree ?_)
 show wpAny _ _ (callAny (.ref C) _) _ _ _
 repeat (any_goals (first|assumption|with_reducible refine wpAny_loadPart_at hC ?_|wp_step))
 refine ⟨rfl,?_⟩
 refine codeAny_call_builtin_at (Code.quiet_builtin _ (by decide +kernel)) entry_typeCall (wpAny_check_type_call_sub hC (tL hC T hn hi hfI hfc (fun h' e hm=>?_) hrest))
 exact hq h' e hm
end
end LD
namespace LD
open PySem PySem.Spec PyProof.Rows L2
def DF (x m:Str)(a b:Expr)(p1 apos cpos:Pos)(env:PySem.Env):Prop:=∃pl,eval (.Call (.Attribute (.Name x p1) m apos) [a,b] [] cpos) env=(do
 let ov <- eval (.Name x p1) env
 standAt apos.atName
 let (f,first) <- holding [ov] (getMethod ov m pl)
 callWith cpos f first (backTo cpos (starEach [a,b] env)) (backToKw cpos (keywordEach [] env)))
def Kx (C:Addr)(fld:Str):Sp:=fun vs H Q _=>∃e i,vs=[.ref e,.int i]/\H e=some (.ext (fW C none e))/\i.natAbs<2^64/\∀d,H d=none->d≠e->Q .non (upd (upd H d (.xd [(fld,.int i)])) e (.ext (fW C (some d) e)))
theorem len_app (a b:Str):(a++b).length=a.length+b.length:=by
 show (Str.append a b).length=_
 unfold Str.append Str.length
 simp
theorem AN {z y:Str}{i:Int}(hz:z.length<=1000)(hy:y.length<=1000)(hi:i.natAbs<2^64):fit z i y:=by
 have h1:i.natAbs.log2<1920:=by
  by_cases h0:i.natAbs=0
  ·rw [h0];decide
  ·exact tqi ((Nat.log2_lt h0).mpr hi) (by omega)
 have h2:((toString i:Str)).length<=1921:=PyProof.Rows.int_text_len_1921 h1
 have hs:sizeLine=16777216:=d5.symm
 refine ⟨h1,?_,?_⟩
 ·rw [len_app];omega
 ·rw [len_app,len_app];omega
section
variable {P:Program}{w:World}{K:PySem.W.Frag}{mg:Str->Option Value}{base:Heap}{qual y fld z:Str}{st:Stmt}{f C D fI:Addr}{fd:FuncData}{p1 p2 p3 p4 p5 p6 p7 p8 p9 p10 p11 p12 p13:Pos}{j:Nat}
theorem H9 (F:pe K "__init__" qual st f fd)(S:iq ["self",y] ["self",y] (aT st))
 (hb:dH st=[.Expr (.Call (.Attribute (.Name "DeedError" p1) "__init__" p2) [.Name "self" p3,.JoinedStr [.Constant (.str z) j p4,.FormattedValue (.Name y p5) (-1) none p6] p7] [] p8) p9,.Assign [.Attribute (.Name "self" p10) fld p11] (.Name y p12) p13])
 (hev:∀L cd,DF "DeedError" "__init__" (.Name "self" p3) (.JoinedStr [.Constant (.str z) j p4,.FormattedValue (.Name y p5) (-1) none p6] p7) p1 p2 p8 (envOfC qual (aT st) L f cd))
 (hz:z.length<=1000) (hyd:(y==("__debug__":Str))=false) (hyc:(y==("__classdict__":Str))=false) (v0:(aT st).names.lookup ("self":Str)=some .local) (v1:(aT st).names.lookup y=some .local)
 (hg:∀L cd,(envOfC qual (aT st) L f cd).kindOf "DeedError"=some .globalImplicit) (hD:mg "DeedError"=some (.ref D)) (h1:PySem.W.readsIn K D (.type "type")=true) (h2:PySem.W.findCls K (.ref D) (.type "type") "__init__"=some (.val (.builtin "ValueError.__init__")))
 (h3:PySem.W.specialIn K (.ref D) "__getattribute__"=some (some (.builtin "type.__getattribute__"))) (hC:lp K C fI=true) (hset:setIn K C fld=true):lX P w K mg base (iX P w) 1 f fd ["self",y] (Kx C fld):=by
 refine r9 F S (fun vs H Q E ⟨e,i,ev,_⟩=>by rw [ev];rfl) fun cdv A outer s H vs Q E hr ⟨e,i,ev,hH,hi,q⟩=>?_
 subst ev
 rw [hb]
 have V0:tK (gQ (iX P w) P w K mg base ["self",y] qual (aT st) f cdv A outer s H E).env.scope "self":=.inl v0
 have V1:tK (gQ (iX P w) P w K mg base ["self",y] qual (aT st) f cdv A outer s H E).env.scope y:=.inl v1
 have a0:∀p,PE (gQ (iX P w) P w K mg base ["self",y] qual (aT st) f cdv A outer s H E) (.Name "self" p) (Bw 0):=fun p=>ql (i:=0) rfl V0
 have a1:∀p,PE (gQ (iX P w) P w K mg base ["self",y] qual (aT st) f cdv A outer s H E) (.Name y p) (Bw 1):=fun p=>ql (i:=1) rfl V1 hyd hyc
 obtain ⟨pl,hev⟩:=hev s.heap.objs.size cdv
 refine ⟨_,pG (rB (GK (pl:=pl) hD (hg _ _) h1 h2 h3 (a0 p3) (JA (a1 p5)) rfl rfl rfl hev) rfl) (pG (Eh (a0 p10) (a1 p12) rfl) wY),?_⟩
 refine ⟨.ref e,rfl,tqh hz (by rw [<- d5];decide),.int i,rfl,i,rfl,AN hz (by decide) hi,e,C,fI,rfl,hH,hC,?_⟩
 exact ⟨.int i,rfl,.ref e,rfl,e,C,i,rfl,rfl,hH,hset,fun d hd hde=>q d hd hde⟩
end
end LD
namespace LD
open PySem PySem.Spec PyProof.Rows L2
def mx (fa:Fa)(P:Program)(w:World)(K:PySem.W.Frag)(mg:Str->Option Value)(base:Heap)(c:Nat)(x:Str):Prop:=
 ∃C fI fd y oI,mg x=some (.ref C)/\fa (fu c)=some C/\lp K C fI=true/\PySem.W.keepIn K (.ref C)=true/\K.lookup fI=some oI/\oI.cls=.type "function"/\Binds K fd ["self",y] []/\lX P w K mg base (iX P w) 1 fI fd ["self",y] (Kx C (gO c))
section
variable {X:Cx}{pins:List (Addr×Obj)}{σ:L2.St}{H H0:Hp}{s:Shared}{fa:Fa}
theorem wx {a:Addr}{φ:Heap->Prop}(I:Inv X pins σ H s)(ha:H a=some (.ext φ))(hH:∀b,b≠a->H0 b=H b)(hz:H0 a=none):Inv X pins σ H0 s:=by
 have nn:∀b,H b=none->b≠a:=fun b q z=>by rw [z,ha] at q;cases q
 have no:∀b u,H b=some u->(∀φ,u≠.ext φ)->H0 b=some u:=fun b u q n=>by
  rw [hH b (fun z=>by rw [z,ha] at q;cases q;exact n _ rfl)];exact q
 refine ⟨I.ok,I.os,I.bare,⟨I.base.keep,I.base.slot,fun b o e n hx=>?_,I.base.there,fun b xs e=>?_,fun b o u e=>?_,fun b ps e=>?_⟩,I.loc,I.cell,?_,fun x c e=>?_,fun p hp'=>?_,fun b u e=>?_,I.len⟩
 ·have q:=I.base.free b o e n hx
  rw [hH b (nn b q)];exact q
 ·exact no _ _ (I.base.tups b xs e) (fun _ z=>nomatch z)
 ·exact no _ _ (I.base.frzs b o u e) (fun _ z=>nomatch z)
 ·obtain ⟨m,q⟩:=I.base.tbls b ps e
  exact ⟨m,no _ _ q (fun _ z=>nomatch z)⟩
 ·rw [hH _ (nn _ I.free)];exact I.free
 ·rw [hH _ (nn _ (I.freeC x c e))];exact I.freeC x c e
 ·obtain ⟨e,n,r⟩:=I.pin p hp'
  exact ⟨e,by rw [hH _ (nn _ n)];exact n,r⟩
 ·by_cases hb:b=a
  ·rw [hb,hz] at e;cases e
  ·rw [hH b hb] at e
   exact (I.hok b u e).stay (fun c v _ q=>q) (fun c q=>no _ _ q (fun _ z=>nomatch z)) fun c xs q=>no _ _ q (fun _ z=>nomatch z)
theorem HM {c:Nat}{x:Str}{C:Addr}{i:Int}{t:Tok}{Q:Value->Shared->Prop}(J:mx fa X.prog X.w X.K X.mg X.base c x)(hr:cU 2 X.A)(hex:X.ex=[])(I:Inv X pins σ H s)(hC:X.mg x=some (.ref C))(hi:i.natAbs<2^64)
 (h:∀e d s',fa (fu c)=some C->og X e->H e=none->H d=none->d≠e->Inv X pins σ (upd (upd H d (.xd [(gO c,.int i)])) e (.ext (fW C (some d) e))) s'->Q (.ref e) s'):wpAny (model X.prog X.w) X.A (call (.ref C) [.int i t]) Q X.xe s:=by
 obtain ⟨C',fI,fd,y,oI,m1,hf,hin,hk,hfI,hfc,hb,F⟩:=J
 rw [hC] at m1
 cases m1
 obtain ⟨bm,N,nm,q,bs,hdct,sn,sub,ab,col,dd,k0,k1,k2,k3,k5,mN,hCo,hN,hni,T⟩:=nY I.kIn hin
 obtain ⟨hp,g,dr,tk,os⟩:=s
 refine A3 hCo T hN hni (I.kIn _ _ hfI) hfc (fun h' e hm=>?_) (by rw [<- d5];exact tqq rfl)
 obtain ⟨tp,ht,_,_⟩:=hm.there
 obtain ⟨n1,n2⟩:=pQ I hex hm.new
 have I1:=I.kept (t':=tk) hm.keeps
 have I2:Inv X pins σ (upd H e (.ext (fW C none e))) ⟨h',g,dr,tk,os⟩:=sX I1 hex n2 n1.1 ⟨_,_,ht,rfl⟩ (fun p hp z=>by
  have:=(I.pin p hp).1
  rw [z,hm.new] at this;cases this) (rg ⟨_,_,tp,ht,rfl,rfl,rfl,rfl,rfl⟩)
 have hb':=hb ⟨h',g,dr,tk,os⟩ [.ref e,.int i t] I2.kIn rfl
 rw [List.append_nil] at hb'
 refine wpAny_call (codeAny_mono (F.run _ X.stack ⟨h',g,dr,tk,os⟩ (upd H e (.ext (fW C none e))) ⟨[.ref e,.int i t],[]⟩ [.ref e,.int i t] [.ref e,.int i] (fun v H'=>v=.non/\∃d,H d=none/\d≠e/\H'=upd (upd H d (.xd [(gO c,.int i)])) e (.ext (fW C (some d) e))) (fun _ _ _=>False) (hr.make C [.int i t] []) (I2.env0.make C [.int i t] []) hb' (.cons rfl (.cons ⟨t,rfl⟩ .nil)) ?_) fun r s' hq'=>?_)
 ·refine ⟨e,i,rfl,cE,hi,fun d hd hde=>⟨rfl,d,by rw [aX hde] at hd;exact hd,hde,?_⟩⟩
  funext b
  unfold upd
  split
  ·rfl
  ·split
   ·rfl
   ·rfl
 ·cases r with
  | error e' =>
    obtain ⟨_,_,_,_,_,_,_,_,_,_,z⟩:=hq'
    exact z.elim
  | ok fl =>
    cases fl with
    | ret u =>
      obtain ⟨v,H',I3,rv,ev,d,hd,hde,eH⟩:=I2.after hq'
      subst ev eH
      exact ⟨rv,h e d s' hf n1 n2 hd hde I3⟩
    |next=>exact False.elim hq'
    |brk=>exact False.elim hq'
    |cont=>exact False.elim hq'
end
def gMkI (c:Nat)(a:GE):GE:=fun Z M=>(a Z M).bind fun d M=>match d with
 |.int i=>if i.natAbs<2^64 then .ok (.exc c (some i)) M else .bad
 |_=>.bad
def jA (c:Nat)(a:GE):GS:=fun Z M=>match a Z M with
 |.ok (.int i) M=>if i.natAbs<2^64 then .ok (.exc (.exc c (some i)) Z) M else .bad
 |_=>.bad
def nW (f:Str)(a:GE):GE:=fun Z M=>(a Z M).bind fun d M=>match d with
 |.exc c (some i)=>if gO c=f then .ok (.int i) M else .bad
 |_=>.bad
theorem xR {M:Model}{A:Around}{E:Value->Shared->Prop}{env:PySem.Env}{nm q:Str}{C N:Addr}{bs bm:List Value}{hdct:Bool}{sn:List Str}{sub:List Value}{ab:Bool}{col:Option Bool}{dd:Option Addr}{k0 k1 k2 k3 k5:Option Value}{newId:String}
 {s:Shared}{x:Sem Value}{Q:Flow->Shared->Prop} (hbase:bm.contains (.type "BaseException")=true) (hh:A.handled=none)
 (h:wpAny M A x (fun v s₁=>∃e o vs,v=.ref e/\s₁.heap.get? C=some (excClassObj nm q C N bs bm hdct sn sub ab col dd k0 k1 k2 k3 k5 newId)/\s₁.heap.get? e=some o/\o.cls=.ref C/\o.data=.fields vs/\vs[1]?=some .none/\E (.ref e) s₁) E s) :
 wpAny M A (raiseStmt env (some x) none) Q E s:=by
 have hcB:(Value.ref C::bm).contains (.type "BaseException")=true:=by rw [List.contains_cons,hbase,Bool.or_true]
 unfold raiseStmt
 refine tqa (wpAny_mono h (fun v s₁ h₁=>?_) fun _ _ x=>x)
 obtain ⟨e,⟨cl,od,da,sl⟩,vs,rfl,hC,he,hc,hd,h1,hE⟩:=h₁
 obtain rfl:cl=.ref C:=hc
 obtain rfl:da=.fields vs:=hd
 obtain ⟨hp,g,d,tk,os⟩:=s₁
 repeat (first|with_reducible refine wpAny_loadPart_at he ?_|with_reducible refine wpAny_loadPart_at hC ?_|(with_reducible refine wpAny_isSubtype_exc hC ?_;rw [hcB])|(with_reducible refine tqf he rfl h1 ?_)|wp_step)
 exact wpAny_raiseNew_none hh hE
section
variable {fa:Fa}{X:Cx}{a b:Expr}{ga gb:GE}{ta:GT}{pos p np cpos:Pos}{es:List Expr}{gs:GA}{n:Nat}{x:Str}
theorem CD (c:Nat){pins:List (Addr×Obj)}{σ:L2.St}{H:Hp}{s:Shared}{Q:Value->Shared->Prop}(J:mx fa X.prog X.w X.K X.mg X.base c x)(hr:cU 2 X.A)(hex:X.ex=[])(hg:Gl X x)(ha:DE fa X a ga)(hdb:(x==("__debug__":Str))=false)(he:notStar a=true)(I:Inv X pins σ H s)
 (h:∃μ Z M,bL fa X.K μ H σ Z/\RelM fa X.K μ H M/\au (ga Z M) fun d M'=>∃i,d=.int i/\i.natAbs<2^64/\∀H1 μ1 e d C s',Ext μ H μ1 H1->bL fa X.K μ1 H1 σ Z->RelM fa X.K μ1 H1 M'->X.mg x=some (.ref C)->fa (fu c)=some C->og X e->H1 e=none->H1 d=none->d≠e->Inv X pins σ (upd (upd H1 d (.xd [(gO c,.int i)])) e (.ext (fW C (some d) e))) s'->Q (.ref e) s') :
 wpAny (model X.prog X.w) X.A (eval (.Call (.Name x np) [a] [] cpos) X.env) Q X.xe s:=by
 obtain ⟨μ,Z,M,hE,hM,h⟩:=h
 obtain ⟨C,fI,fd,y,oI,m1,hf,hin,hk,r⟩:=id J
 refine wpAny_Call_Name_kw (jC I hg m1 ?_ hdb)
 refine PySem.W.callWith_K (h₀:=X.base) I.ok.mod.kin hk (bz (di ha fO (cX he) cpos pins s σ H (fun vs H1=>∃μ1 M1 i,Ext μ H μ1 H1/\RelM fa X.K μ1 H1 M1/\vs=[.int i]/\i.natAbs<2^64/\∀H1 μ1 e d C s',Ext μ H μ1 H1->bL fa X.K μ1 H1 σ Z->RelM fa X.K μ1 H1 M1->X.mg x=some (.ref C)->fa (fu c)=some C->og X e->H1 e=none->H1 d=none->d≠e->Inv X pins σ (upd (upd H1 d (.xd [(gO c,.int i)])) e (.ext (fW C (some d) e))) s'->Q (.ref e) s') I ⟨μ,Z,M,hE,hM,a7 h fun d M' ⟨i,ed,hi,k⟩ v H1 μ1 x1 m1 r1=>by
  subst ed
  obtain rfl:v=.int i:=r1
  exact ⟨μ1,M',i,x1,m1,rfl,hi,k⟩⟩) fun us s1 ⟨vs,H1,I1,r,μ1,M1,i,x1,mm,ev,hi,k⟩=>⟨I1.kIn,?_⟩) (cX he) (eV (es:=[]) rfl)
 subst ev
 cases r with
 | cons r1 r2 =>
   cases r2
   obtain ⟨t,rfl⟩:=r1
   exact HM J hr hex I1 m1 hi fun e d s' hfa n1 n2 hd hde I3=>k H1 μ1 e d C s' x1 (hE.ext x1) mm m1 hfa n1 n2 hd hde I3
theorem BN (c:Nat)(J:mx fa X.prog X.w X.K X.mg X.base c x)(hr:cU 2 X.A)(hex:X.ex=[])(hg:Gl X x)(hc:X.calm=true)(ha:DE fa X a ga)(hdb:(x==("__debug__":Str))=false)(he:notStar a=true):DS fa X (.Raise (some (.Call (.Name x np) [a] [] cpos)) none pos) (jA c ga):=by
 intro pins s σ H D' I ⟨μ,Z,M,hE,hM,h⟩
 obtain ⟨C,fI,fd,y,oI,m1,hf,hin,hk,r⟩:=id J
 obtain ⟨bm,N,nm,q,bs,hdct,sn,sub,ab,col,dd,k0,k1,k2,k3,k5,mN,hCo,hN,hni,T⟩:=nY I.ok.mod.kin hin
 rw [arm_exec_Raise]
 simp only [evalOpt,Option.map]
 refine tqa (wpAny_standAt (xR (C:=C) (nm:=nm) (q:=q) (N:=N) (bs:=bs) (bm:=bm) (hdct:=hdct) (sn:=sn) (sub:=sub) (ab:=ab) (col:=col) (dd:=dd) (k0:=k0) (k1:=k1) (k2:=k2) (k3:=k3) (k5:=k5) (newId:="ValueError.__new__") (T.hasType (by decide +kernel)) (I.ok.hd hc) (tqa (wpAny_mono (CD (Q:=fun v s₁=>∃e o vs,v=.ref e/\s₁.heap.get? C=some (excClassObj nm q C N bs bm hdct sn sub ab col dd k0 k1 k2 k3 k5 "ValueError.__new__")/\s₁.heap.get? e=some o/\o.cls=.ref C/\o.data=.fields vs/\vs[1]?=some .none/\X.xe (.ref e) s₁) c J hr hex hg ha hdb he I ?_) (fun v s₃ h₃=>tqa (wpAny_standAt (tqb h₃))) fun _ _ x=>x))))
 refine ⟨μ,Z,M,hE,hM,?_⟩
 unfold jA at h
 cases eg:ga Z M with
 |err=>rw [eg] at h;exact h.elim
 |bad=>rw [eg] at h;exact h.elim
 | ok x0 M1 =>
   rw [eg] at h
   cases x0 with
   | int i =>
     dsimp only at h
     split at h
     ·next hi=>
      have h:XW fa X μ H (.exc c (some i)) Z M1:=h
      refine ⟨i,rfl,hi,fun H1 μ1 e d C' s' x1 hE1 hM1 hm hf nw he hd hde I3=>?_⟩
      rw [m1] at hm
      cases hm
      have ne:upd (upd H1 d (.xd [(gO c,.int i)])) e (.ext (fW C (some d) e)) e=some (.ext (fW C (some d) e)):=cE
      obtain ⟨⟨o,vs,t0,g1,g2,g3,g4,g5,g6⟩,_,_⟩:=I3.hok e _ ne
      have he':upd H1 d (.xd [(gO c,.int i)]) e=none:=by rw [aX (Ne.symm hde)];exact he
      have I4:Inv X pins σ (upd H1 d (.xd [(gO c,.int i)])) s':=wx I3 ne (fun b hb=>(aX hb).symm) he'
      have hMd:RelM fa X.K μ1 (upd H1 d (.xd [(gO c,.int i)])) M1:=hM1.alloc hd
      have xd:=Ext.alloc (o:=.xd [(gO c,.int i)]) hM1 hd
      exact ⟨e,o,vs,rfl,I3.bk _ _ hCo,g1,g2,g4,g6,h pins σ _ μ1 s' e C (some d) c (some i) I4 (x1.trans xd) (hE1.ext xd) hMd rfl hf ⟨d,rfl,cE⟩ ⟨nw,he',o,vs,g1,g2,g3,g4,.inl g6⟩⟩
     ·exact h.elim
   |_=>exact h.elim
def Dy (fa:Fa)(K:PySem.W.Frag)(f:Str):Prop:=∀c C,fa (fu c)=some C->gO c=f->PySem.W.hasDictIn K C=true/\PySem.W.findIn K (.ref C) f=some none
theorem Ec (f:Str)(hc:n9 fa X.K)(hf:Dy fa X.K f)(ha:DE fa X a ga)(hb:attributeBase a f X.env (eval a X.env)=eval a X.env):DE fa X (.Attribute a f pos) (nW f ga):=by
 intro pins s σ H Q I ⟨μ,Z,M,hE,hM,h⟩
 obtain ⟨x0,M1,eg,h⟩:=bq h
 refine Fo hb (bz (ha pins s σ H (fun v H1=>∃μ1,Ext μ H μ1 H1/\RelM fa X.K μ1 H1 M1/\Rep fa X.K μ1 H1 x0 v) I ⟨μ,Z,M,hE,hM,by rw [eg];exact fun v H1 μ1 x1 m1 r1=>⟨μ1,x1,m1,r1⟩⟩) fun u s1 ⟨v,H1,I1,rv,μ1,x1,m1,r1⟩=>?_)
 cases x0 with
 | exc c p =>
   cases p with
   |none=>exact h.elim
   | some i =>
     dsimp only at h
     split at h
     ·next ef=>
      obtain ⟨e,C,dx,rfl,hfa,hH,d,rfl,hd⟩:=r1
      obtain rfl:u=Value.ref e:=rv
      obtain ⟨⟨o,vs,h1,h2,h3,h4,h5⟩,_,_⟩:=I1.hok e _ hH
      obtain ⟨mA,hns,hl⟩:=I1.hok d _ hd
      obtain ⟨od,hod,look⟩:=sV hns
      have IA:PySem.W.InstAt s1.heap e o C (some od):=⟨h1,h2,by unfold PySem.W.notCls;rw [h4],by rw [h3];exact hod⟩
      have hlf:=hl f
      rw [ef] at hlf
      simp only [List.lookup_cons,beq_self_eq_true] at hlf
      obtain ⟨u,hu,ru⟩:=sq.some_of hlf
      obtain ⟨t,rfl⟩:=ru
      obtain ⟨f1,f2⟩:=hf c C hfa ef
      unfold getAttr
      refine tqa (wpAny_mkText (xt (s:={s1 with toks:=s1.toks+1}) (r:=.value (.int i t)) I1.kIn IA (hc.g c C hfa).1 (PySem.W.findObj_own f1 f2 rfl (by rw [look f,hu])) ?_))
      exact PySem.W.handed_on rfl ⟨.int i,H1,I1.tok _,⟨t,rfl⟩,h (.int i) H1 μ1 x1 m1 rfl⟩
     ·exact h.elim
 |_=>exact h.elim
end
end LD
namespace LD
open PySem PySem.Spec PyProof.Rows L2
theorem C9 {n:Nat}{A:Around}(h:cU (n+4) A):cU 2 A:=h.mono (by omega)
def inC (s:Stmt):Stmt:=match s with
 |.ClassDef _ _ _ (b::_) _ _ _ _ _ _ _=>b
 |_=>s
def Ii (z y:Str)(a:GE):GE:=fun Z M=>(a Z M).bind fun d M=>match d with
 |.int i=>if z.length<=1000/\y.length<=1000/\i.natAbs<2^64 then .ok (.str (z++(toString i:Str)++y)) M else .bad
 |_=>.bad
theorem Lp {fa:Fa}{X:Cx}{a:Expr}{ga:GE}{pos p1 p2 p3:Pos}{j j2:Nat}{z y:Str}(ha:DE fa X a ga):DE fa X (.JoinedStr [.Constant (.str z) j p1,.FormattedValue a (-1) none p2,.Constant (.str y) j2 p3] pos) (Ii z y ga):=
 cG (Jz ha) fun σ H Q ⟨μ,Z,M,hE,hM,h⟩=>by
  obtain ⟨x0,M1,eg,h1⟩:=bq h
  cases x0 with
  | int i =>
    have h1:au (if z.length<=1000/\y.length<=1000/\i.natAbs<2^64 then .ok (.str (z++(toString i:Str)++y)) M1 else .bad) (bG fa X.K μ H Q):=h1
    split at h1
    ·next hm=>
     refine ⟨tqh hm.1 (by rw [<- d5];decide),μ,Z,M,hE,hM,?_⟩
     rw [eg]
     intro v H1 μ1 x1 m1 r1
     obtain rfl:v=.int i:=r1
     exact ⟨i,rfl,AN hm.1 hm.2.1 hm.2.2,h1 (.str _) H1 μ1 x1 m1 rfl⟩
    ·exact h1.elim
  |_=>exact h1.elim
def Ia (K:PySem.W.Frag)(C D fI:Addr)(fld:Str):Bool:=lp K C fI&&PySem.W.keepIn K (.ref C)&&PySem.W.readsIn K D (.type "type")&&(PySem.W.specialIn K (.ref D) "__getattribute__"==some (some (.builtin "type.__getattribute__")))&&setIn K C fld&&PySem.W.keepIn K (.ref fI)
theorem Cy {fa:Fa}{w:World}{K:PySem.W.Frag}{mg:Str->Option Value}{h:Heap}{c:Nat}{x qual y z pm:Str}{st:Stmt}{C D fI cd:Addr}{t:Tok}{p1 p2 p3 p4 p5 p6 p7 p8 p9 p10 p11 p12 p13:Pos}{j:Nat}(X:K.In h)(G:h.Ns mainGlobals mg)
 (a:PySem.W.nsIn K mainGlobals x=some (some (.ref C))) (aD:PySem.W.nsIn K mainGlobals "DeedError"=some (some (.ref D))) (hf:fa (fu c)=some C) (b:Ia K C D fI (gO c)=true) (h2:PySem.W.findCls K (.ref D) (.type "type") "__init__"=some (.val (.builtin "ValueError.__init__")))
 (l:K.lookup fI=some ⟨.type "function",none,.func (PySem.W.fnOf "__init__" qual (gK st) (dH st) (aT st) .none .none .none (.str pm t) none (.ref cd) .none),#[]⟩) (e:PySem.W.codeIn K (.ref cd) qual=true) (S:iq ["self",y] ["self",y] (aT st))
 (hb:dH st=[.Expr (.Call (.Attribute (.Name "DeedError" p1) "__init__" p2) [.Name "self" p3,.JoinedStr [.Constant (.str z) j p4,.FormattedValue (.Name y p5) (-1) none p6] p7] [] p8) p9,.Assign [.Attribute (.Name "self" p10) (gO c) p11] (.Name y p12) p13])
 (hev:∀L cd,DF "DeedError" "__init__" (.Name "self" p3) (.JoinedStr [.Constant (.str z) j p4,.FormattedValue (.Name y p5) (-1) none p6] p7) p1 p2 p8 (envOfC qual (aT st) L fI cd))
 (hz:z.length<=1000) (hyd:(y==("__debug__":Str))=false) (hyc:(y==("__classdict__":Str))=false) (v0:(aT st).names.lookup ("self":Str)=some .local) (v1:(aT st).names.lookup y=some .local)
 (hg:∀L cd,(envOfC qual (aT st) L fI cd).kindOf "DeedError"=some .globalImplicit)
 (hbd:∀(kV doc pm:Value) (an:Option Addr) (cdv ct u1 u2:Value),bindArgs (PySem.W.fnOf "__init__" qual (gK st) (dH st) (aT st) .none kV doc pm an cdv ct) ⟨[u1,u2],[]⟩=pure ((["self",y]:List Str).zip [u1,u2])) (P:Program) (base:Heap):mx fa P w K mg base c x:=by
 simp only [Ia,Bool.and_eq_true,beq_iff_eq] at b
 obtain ⟨⟨⟨⟨⟨b1,b2⟩,b3⟩,b4⟩,b5⟩,b6⟩:=b
 have F:=AM l e b6
 exact ⟨C,fI,_,y,_,PySem.W.mg_of X G a,hf,b1,b2,l,rfl,F.binds fun kV doc pm an cdv ct us hl=>Kq (p:=fun us=>bindArgs (PySem.W.fnOf "__init__" qual (gK st) (dH st) (aT st) .none kV doc pm an cdv ct) ⟨us,[]⟩=pure ((["self",y]:List Str).zip us)) (hbd kV doc pm an cdv ct) us hl,
  H9 F S hb hev hz hyd hyc v0 v1 hg (PySem.W.mg_of X G aD) b3 h2 b4 b1 b5⟩
def FA (K:PySem.W.Frag)(cl:List (Nat×Addr))(f:Str):Bool:=cl.all fun q=>!(gO q.1==f)||(PySem.W.hasDictIn K q.2&&PySem.W.findIn K (.ref q.2) f==some none)
theorem Fz {K:PySem.W.Frag}{l cl:List (Nat×Addr)}{D:Addr}{f:Str}(h:FA K cl f=true):Dy (AO l cl D) K f:=fun c C e ef=>by
 unfold FA at h
 have:=(List.all_eq_true.mp h) _ (mj e)
 simp only [ef,beq_self_eq_true,Bool.not_true,Bool.false_or,Bool.and_eq_true,beq_iff_eq] at this
 exact this
end LD
namespace LD
open PySem PySem.Spec PyProof.Rows L2
structure aK (p:Prop):Prop where
 h:p
section
variable {fa:Fa}{X:Cx}{a b c d elt tg iter t2 i2:Expr}{ga gb gd ge:GE}{ta tb gc:GT}{pos p p2 py spos:Pos}{es:List Expr}{gs:GA}{n:Nat}{scope:Scope}{own bn:List Str}{t u:dD}{gw gw2:GW}{i j:Nat}{x y nm:Str}{np hp apos cpos kp p1:Pos}{body suite:List Stmt}{b0:Stmt}{gB gH:GS}{j2:Nat}{p3:Pos}{z:Str}
theorem az {i:Nat}{x:Str}(hN:X.N.Nodup)(hi:X.N[i]?=some x:=by exact rfl)(hx:Loc X.env.scope x:=by first|exact .inl rfl|exact .inr rfl|exact .inr (.inl rfl)|exact .inr (.inr rfl))(hf:X.fn x=true\/X.env.scope.names.lookup x=some .local:=by first|exact .inl rfl|exact .inr rfl|exact .inr (.inl rfl)|exact .inr (.inr rfl)):aK (PG X (.Name x pos) (gT fa X.K (.one i))):=⟨E9 hN hi hx hf⟩
theorem du (hN:X.N.Nodup){l:List Nat}{ns:List Expr}{k:Nat}(h:lL X l ns)(hc:X.calm=true:=by exact rfl):aK (PG X (.Tuple ns k pos) (gT fa X.K (.tup l))):=⟨IF hc hN h⟩
theorem dg (ha:aK (DE fa X a ga)):aK (DI fa X tg a (eI ga)):=⟨IE ha.h⟩
theorem ee (ha:aK (DE fa X a ga))(hm:X.mg "range"=none)(hg:Gl X "range":=by exact rfl)(hs:starEach [a] X.env=[(false,eval a X.env)]:=by exact rfl):aK (DI fa X tg (.Call (.Name "range" p) [a] [] pos) (fJ ga)):=⟨E7 ha.h hg hm hs⟩
theorem uv {elts:List Expr}{kk:Nat}{tp:Pos}(ha:aK (DE fa X a ga))(hm:X.mg "enumerate"=none)(hg:Gl X "enumerate":=by exact rfl)(hs:starEach [a] X.env=[(false,eval a X.env)]:=by exact rfl):aK (DI fa X (.Tuple elts kk tp) (.Call (.Name "enumerate" p) [a] [] pos) (oE ga)):=⟨E8 ha.h hg hm hs⟩
theorem pq {fa:Fa}{X:Cx}{elts:List Expr}{kk:Nat}{tp p pos:Pos}{e0 e1:Expr}{g0 g1:Env->Mem->Res D}(h0:aK (DE fa X e0 g0))(h1:aK (DE fa X e1 g1))(hm:X.mg "zip"=none)(hg:Gl X "zip":=by exact rfl)(hs0:starEach [e0,e1] X.env=[(false,eval e0 X.env),(false,eval e1 X.env)]:=by exact rfl)(hs1:starEach [e1] X.env=[(false,eval e1 X.env)]:=by exact rfl):aK (DI fa X (.Tuple elts kk tp) (.Call (.Name "zip" p) [e0,e1] [] pos) (lG g0 g1)):=⟨E5 h0.h h1.h hg hm hs0 hs1⟩
theorem aa {i:Nat}{x:Str}(hN:X.N[i]?=some x:=by exact rfl)(hv:tK X.env.scope x:=by first|exact .inl rfl|exact .inr rfl|exact .inr (.inl rfl)|exact .inr (.inr rfl))(hd:(x==("__debug__":Str))=false:=by exact rfl)(hcd:(x==("__classdict__":Str))=false:=by exact rfl):aK (DE fa X (.Name x pos) (ah i)):=⟨J1 hN hv hd hcd⟩
theorem ak {i:Int}{j:Nat}:aK (DE fa X (.Constant (.int i) j pos) (gC (.int i))):=⟨Kb⟩
theorem cj {i:Bool}{j:Nat}:aK (DE fa X (.Constant (.bool i) j pos) (gC (.bl i))):=⟨MK⟩
theorem bI {i:Str}{j:Nat}:aK (DE fa X (.Constant (.str i) j pos) (gC (.str i))):=⟨J3⟩
theorem fh {j:Nat}:aK (DE fa X (.Constant .none j pos) (gC .non)):=⟨J7⟩
theorem aC {m:Bool}{o:nv}(ha:aK (DE fa X a ga))(hb:aK (DE fa X b gb)):aK (DE fa X (.BinOp a (binOp o) b pos) (aH m o ga gb)):=⟨Kf m o ha.h hb.h⟩
theorem eh (hu:Rm X){o:iW}(ha:aK (DE fa X a ga))(hb:aK (DE fa X b gb))(hm:behindInMarks (dq o) b=false:=by exact rfl):aK (DE fa X (.Compare a [dq o] [b] pos) (aW o ga gb)):=⟨Kd hu o ha.h hb.h hm⟩
theorem bg (hu:Rm X){o:iW}(ha:aK (DE fa X a ga))(hb:aK (DE fa X b gb))(hm:behindInMarks (dq o) b=false:=by exact rfl):aK (DT fa X (.Compare a [dq o] [b] pos) (aJ (aW o ga gb))):=⟨Iu hu o ha.h hb.h hm⟩
theorem zc (hu:Rm X){o:iW}{o':iW}{gc:GE}(ha:aK (DE fa X a ga))(hb:aK (DE fa X b gb))(hc:aK (DE fa X d gc))(hm:lastMarks [dq o,dq o'] [b,d]=false:=by exact rfl):aK (DE fa X (.Compare a [dq o,dq o'] [b,d] pos) (lS o o' ga gb gc)):=⟨Ke hu o o' ha.h hb.h hc.h hm⟩
theorem zd (hu:Rm X){o:iW}{o':iW}{gc:GE}(ha:aK (DE fa X a ga))(hb:aK (DE fa X b gb))(hc:aK (DE fa X d gc))(hm:lastMarks [dq o,dq o'] [b,d]=false:=by exact rfl):aK (DT fa X (.Compare a [dq o,dq o'] [b,d] pos) (aJ (lS o o' ga gb gc))):=⟨Iv hu o o' ha.h hb.h hc.h hm⟩
theorem fL (ha:aK (DE fa X a ga)):aK (DE fa X (.UnaryOp .USub a pos) (eW ga)):=⟨J8 ha.h⟩
theorem ez {rest:List Expr}(ha:aK (DE fa X a ga))(hb:aK (DE fa X (.BoolOp .And (b::rest) pos) gb)):aK (DE fa X (.BoolOp .And (a::b::rest) pos) (fB ga gb)):=⟨Kg ha.h hb.h⟩
theorem CY {rest:List Expr}(ha:aK (DE fa X a ga))(hb:aK (DE fa X (.BoolOp .Or (b::rest) pos) gb)):aK (DE fa X (.BoolOp .Or (a::b::rest) pos) (xr ga gb)):=⟨MJ ha.h hb.h⟩
theorem fg {op:PySem.BoolOp}(ha:aK (DE fa X a ga)):aK (DE fa X (.BoolOp op [a] pos) ga):=⟨J5 ha.h⟩
theorem Fy (ha:aK (DE fa X a ga)):aK (DE fa X (.UnaryOp .Not a pos) (Ig ga)):=⟨J6 ha.h⟩
theorem jL {rest:List Expr}(ha:aK (DT fa X a ta))(hb:aK (DW fa X (.BoolOp .And (b::rest) pos) tb)):aK (DW fa X (.BoolOp .And (a::b::rest) pos) (gP ta tb)):=⟨Iq ha.h hb.h⟩
theorem eE {rest:List Expr}(ha:aK (DT fa X a ta))(hb:aK (DW fa X (.BoolOp .Or (b::rest) pos) tb)):aK (DW fa X (.BoolOp .Or (a::b::rest) pos) (fi ta tb)):=⟨JZ ha.h hb.h⟩
theorem ko (ha:aK (DT fa X a ta)):aK (DW fa X (.BoolOp .And [a] pos) ta):=⟨E1 ha.h⟩
theorem dY (ha:aK (DT fa X a ta)):aK (DW fa X (.BoolOp .Or [a] pos) ta):=⟨Ip ha.h⟩
theorem eU (h:aK (DW fa X a ta)):aK (DT fa X a ta):=⟨PW.pt h.h⟩
theorem bV (ha:aK (DT fa X a ta)):aK (DT fa X (.UnaryOp .Not a pos) (cn ta)):=⟨Ir ha.h⟩
theorem bK (ha:aK (DE fa X a ga))(he:∀whole,isTrue a X.env whole=(do let v <- whole;standAt a.pos;holding [v] (truthy v)):=by exact fun _=>rfl):aK (DT fa X a (aJ ga)):=⟨CG ha.h he⟩
theorem pZ {c:Expr}(hc:aK (DT fa X c ta))(ha:aK (DE fa X a ga))(hb:aK (DE fa X b gb)):aK (DE fa X (.IfExp c a b pos) (ll ta ga gb)):=⟨Ka hc.h ha.h hb.h⟩
theorem aG (ha:aK (DE fa X a ga))(hb:aK (DE fa X b gb))(hs:mv b:=by exact fun _ _=>rfl):aK (DE fa X (.Subscript a b pos) (aO ga gb)):=⟨Kc ha.h hb.h hs⟩
theorem dE {m:Bool}{hl:Bool}{hh:Bool}{lo hi:Option Expr}{gl gh:GE}{p2:Pos}(ha:aK (DE fa X a ga))(hlo:aK (DO fa X lo hl gl))(hhi:aK (DO fa X hi hh gh)):aK (DE fa X (.Subscript a (.Slice lo hi none p2) pos) (dG m hl hh ga gl gh)):=⟨J4 m hl hh ha.h hlo.h hhi.h⟩
theorem cV :aK (DO fa X none false (gC .non)):=⟨E4⟩
theorem cN (ha:aK (DE fa X a ga)):aK (DO fa X (some a) true ga):=⟨E3 ha.h⟩
theorem ao :aK (DA fa X [] av):=⟨IH⟩
theorem ae (ha:aK (DE fa X a ga))(hs:aK (DA fa X es gs))(h0:notStar a=true:=by exact rfl):aK (DA fa X (a::es) (ag ga gs)):=⟨Fd ha.h hs.h (cX h0)⟩
theorem cm {k:Nat}(hs:aK (DA fa X es gs)):aK (DE fa X (.Tuple es k pos) (bZ gs)):=⟨J2 hs.h⟩
theorem bQ {m:Bool}(hs:aK (DA fa X es gs)):aK (DE fa X (.List es pos) (bD m gs)):=⟨J9 m hs.h⟩
theorem ay {f:Nat}{x:Str}{call:Call}(C:∀f,iD fa X.prog X.w X.K X.mg X.base n f (call f))(hr:cU (n+4) X.A)(hm:∀ad,fa f=some ad->X.mg x=some (.ref ad))(hs:aK (DA fa X (a::es) gs))(hg:Gl X x:=by exact rfl)(hdb:(x==("__debug__":Str))=false:=by exact rfl)(he:notStar a=true:=by exact rfl)(hpl:es.all notStar=true:=by exact rfl):aK (DE fa X (.Call (.Name x p) (a::es) [] pos) (aA f call gs)):=⟨IJ (C f) hr hg hm hs.h hdb (cX he) (eV hpl)⟩
theorem uu {i:Nat}{x:Str}{call:Call}(C:∀f,iD fa X.prog X.w X.K X.mg X.base n f (call f))(hr:cU (n+4) X.A)(hs:aK (DA fa X (a::es) gs))(hN:X.N[i]?=some x:=by exact rfl)(hv:tK X.env.scope x:=by first|exact .inl rfl|exact .inr rfl|exact .inr (.inl rfl)|exact .inr (.inr rfl))(hd:(x==("__debug__":Str))=false:=by exact rfl)(hcd:(x==("__classdict__":Str))=false:=by exact rfl)(he:notStar a=true:=by exact rfl)(hpl:es.all notStar=true:=by exact rfl):aK (DE fa X (.Call (.Name x p) (a::es) [] pos) (nV i call gs)):=⟨Fe C hr hN hv hs.h hd hcd (cX he) (eV hpl)⟩
theorem cz (hm:X.mg "len"=none)(hs:aK (DA fa X (a::es) gs))(hg:Gl X "len":=by exact rfl)(he:notStar a=true:=by exact rfl)(hpl:es.all notStar=true:=by exact rfl):aK (DE fa X (.Call (.Name "len" p) (a::es) [] pos) (bt .len gs)):=⟨Dw .len JV hg hm PySem.boot_len hs.h (by decide) (by decide) (cX he) (eV hpl)⟩
theorem ny (hm:X.mg "all"=none)(hs:aK (DA fa X (a::es) gs))(hc:X.calm=true:=by exact rfl)(hg:Gl X "all":=by exact rfl)(he:notStar a=true:=by exact rfl)(hpl:es.all notStar=true:=by exact rfl):aK (DE fa X (.Call (.Name "all" p) (a::es) [] pos) (bt .all gs)):=⟨Dw .all (JW hc) hg hm (by decide +kernel) hs.h (by decide) (by decide) (cX he) (eV hpl)⟩
theorem eT (hm:X.mg "tuple"=none)(hs:aK (DA fa X (a::es) gs))(hg:Gl X "tuple":=by exact rfl)(he:notStar a=true:=by exact rfl)(hpl:es.all notStar=true:=by exact rfl):aK (DE fa X (.Call (.Name "tuple" p) (a::es) [] pos) (bt .tuple gs)):=⟨AW .tuple ER hg hm (by decide +kernel) hs.h (by decide) (by decide) (cX he) (eV hpl)⟩
theorem lY {m:Bool}(hm:X.mg "list"=none)(hs:aK (DA fa X (a::es) gs))(hg:Gl X "list":=by exact rfl)(he:notStar a=true:=by exact rfl)(hpl:es.all notStar=true:=by exact rfl):aK (DE fa X (.Call (.Name "list" p) (a::es) [] pos) (bt (.list m) gs)):=⟨AW (.list m) (Ij m) hg hm (by decide +kernel) hs.h (by decide) (by decide) (cX he) (eV hpl)⟩
theorem bU {t:Ty}{x:Str}{p1 p2:Pos}(ha:aK (DE fa X a ga))(hm:X.mg "isinstance"=none)(hmt:X.mg x=none)(hvt:bootBuiltins x=some (.type (tyName t)))(ht:∀c,t≠.own c:=by exact fun _ h=>nomatch h)(hg:Gl X "isinstance":=by exact rfl)(hgt:Gl X x:=by exact rfl)(hn:x≠"__name__":=by decide)(hdb:(x==("__debug__":Str))=false:=by exact rfl)(he:starEach [a,.Name x p1] X.env=(false,eval a X.env)::starEach [.Name x p1] X.env:=by exact rfl):aK (DE fa X (.Call (.Name "isinstance" p2) [a,.Name x p1] [] pos) (cy t ga)):=⟨II t ht ha.h hg hm (by decide +kernel) hgt hmt hvt hn hdb he⟩
theorem aR {tg:Expr}{t:dD}(ha:aK (DE fa X a ga))(hg:aK (PG X tg (gT fa X.K t)))(hs:swapsWithSole [tg] a pos.line X.env=pure false:=by exact rfl)(hw:swappedStores [tg] a X.env=pure none:=by exact rfl)(h1:(assignEach [tg] X.env).map (·.2)=[assign tg X.env]:=by exact rfl):aK (DS fa X (.Assign [tg] a pos) (aV t ga)):=⟨IC ha.h hg.h hs hw h1⟩
theorem gv {p2:Pos} (ha:aK (DE fa X a ga)) (hb:aK (DE fa X b gb)) (hd:aK (DE fa X d gd)) (h0:∀v,assign (.Subscript a b p2) X.env v=(do
 let ov <- holding [v] (eval a X.env)
 let iv <- holding [v,ov] (eval b X.env)
 standAt p2
 holding [v,ov,iv] (setItem ov iv v)
 release [v,ov,iv] []):=by exact fun _=>rfl) (hs:swapsWithSole [.Subscript a b p2] d pos.line X.env=pure false:=by exact rfl) (hw:swappedStores [.Subscript a b p2] d X.env=pure none:=by exact rfl) (h1:(assignEach [.Subscript a b p2] X.env).map (·.2)=[assign (.Subscript a b p2) X.env]:=by exact rfl):aK (DS fa X (.Assign [.Subscript a b p2] d pos) (fZ ga gb gd)):=⟨Iy ha.h hb.h hd.h h0 hs hw h1⟩
theorem uq {apos cpos:Pos}(ha:aK (DE fa X a ga))(hd:aK (DE fa X d gd))(hbase:attributeBase a "append" X.env (eval a X.env)=eval a X.env:=by exact rfl)(hline:(apos.endLine==cpos.line)=true:=by exact rfl)(hs:starEach [d] X.env=[(false,eval d X.env)]:=by exact rfl)(hsw:swapsWith (.Call (.Attribute a "append" apos) [d] [] cpos) none pos.line X.env=pure false:=by exact rfl):aK (DS fa X (.Expr (.Call (.Attribute a "append" apos) [d] [] cpos) pos) (nH ga gd)):=⟨ID ha.h hd.h hbase hline hs hsw⟩
theorem aF (ha:aK (DE fa X a ga)):aK (DS fa X (.Return (some a) pos) (bh ga)):=⟨Iw ha.h⟩
theorem aY {c:Expr}{st sf:List Stmt}{gt gf:GS}(hc:aK (DT fa X c ta))(ht:aK (iC fa X st gt))(hf:aK (iC fa X sf gf)):aK (DS fa X (.If c st sf pos) (bo ta gt gf)):=⟨Iz hc.h ht.h hf.h⟩
theorem gx {t:dD}{tg:Expr}{body:List Stmt}{gw:GW}{gb:GS}(hp:PassesOwn (model X.prog X.w) X.A X.env X.xe)(hi:aK (DI fa X tg a gw))(hg:aK (PG X tg (gT fa X.K t)))(hb:aK (iC fa X body gb))(hc:X.calm=true:=by exact rfl)(hs:∀x,foldedSetIterable a X.env x=pure x:=by exact fun _=>rfl):aK (DS fa X (.For tg a body [] pos) (iw t gw gb)):=⟨IB hp hc hi.h hg.h hb.h hs⟩
theorem aq :aK (iC fa X [] ax):=⟨E2⟩
theorem ai {st:Stmt}{ss:List Stmt}{g g':GS}(h1:aK (DS fa X st g))(h2:aK (iC fa X ss g')):aK (iC fa X (st::ss) (aj g g')):=⟨CH h1.h h2.h⟩
theorem Bc {m:Bool}{p1 p2 pos2:Pos}(ha:aK (DE fa X a ga))(hml:X.mg "list"=none)(hm:X.mg "range"=none)(hc:X.calm=true:=by exact rfl)(hgl:Gl X "list":=by exact rfl)(hg:Gl X "range":=by exact rfl)(hs:starEach [a] X.env=[(false,eval a X.env)]:=by exact rfl)(hs2:starEach [.Call (.Name "range" p2) [a] [] pos2] X.env=[(false,eval (.Call (.Name "range" p2) [a] [] pos2) X.env)]:=by exact rfl):aK (DE fa X (.Call (.Name "list" p1) [.Call (.Name "range" p2) [a] [] pos2] [] pos) (nS m ga)):=⟨Ea m hc ha.h hgl hml hg hm hs hs2⟩
theorem dQ {m:Bool}(S:fX X own bn scope)(hi:aK (DI fa X tg iter gw))(pg:∀cl C fp s H,aK (PG (cC X own bn scope cl C fp s H) tg (gT fa X.K t)))(he:∀cl C fp s H,aK (DE fa (cC X own bn scope cl C fp s H) elt ge))(hc:X.calm=true:=by exact rfl)(hn:(slots t).all (· < own.length)=true:=by exact rfl)(hs:∀x,foldedSetIterable iter X.env x=pure x:=by exact fun _=>rfl):aK (DE fa X (.ListComp elt [⟨tg,iter,[],0⟩] scope pos) (bX m own.length t gw (cg ge))):=⟨AV m (W:=[]) (body:=fun a env=>eval elt env >>= fun x=>call (.builtin "list.append") [.ref a,x] >>= fun _=>pure ()) S hc hi.h ⟨(fun cl C fp s H=>(pg cl C fp s H).h),fun cl C fp s H a=>n3 ((fun cl C fp s H=>(he cl C fp s H).h) cl C fp s H)⟩ (fun it a env=>uy elt tg iter [] scope pos (.ref it) (.ref a) env) (fun i h=>nomatch h) (by simpa using kS hn) hs⟩
theorem lu {m:Bool}(S:fX X own bn scope)(hi:aK (DI fa X tg iter gw))(pg:∀cl C fp s H,aK (PG (cC X own bn scope cl C fp s H) tg (gT fa X.K t)))(ht:∀cl C fp s H,aK (DT fa (cC X own bn scope cl C fp s H) c gc))(he:∀cl C fp s H,aK (DE fa (cC X own bn scope cl C fp s H) elt ge))(hc:X.calm=true:=by exact rfl)(hn:(slots t).all (· < own.length)=true:=by exact rfl)(hs:∀x,foldedSetIterable iter X.env x=pure x:=by exact fun _=>rfl):aK (DE fa X (.ListComp elt [⟨tg,iter,[c],0⟩] scope pos) (bX m own.length t gw (nU gc (cg ge)))):=⟨AV m (W:=[]) (body:=fun a env=>isTrue c env (eval c env) >>= fun ok=>if ok=true then (eval elt env >>= fun x=>call (.builtin "list.append") [.ref a,x] >>= fun _=>pure ()) else pure ()) S hc hi.h ⟨(fun cl C fp s H=>(pg cl C fp s H).h),fun cl C fp s H a=>Dv ((fun cl C fp s H=>(ht cl C fp s H).h) cl C fp s H) (n3 ((fun cl C fp s H=>(he cl C fp s H).h) cl C fp s H))⟩ (fun it a env=>turn_if elt tg iter c scope pos (.ref it) (.ref a) env) (fun i h=>nomatch h) (by simpa using kS hn) hs⟩
theorem mz {m:Bool}(S:fX X own bn scope)(hi:aK (DI fa X tg iter gw))(pg:∀cl C fp s H,aK (PG (cC X own bn scope cl C fp s H) tg (gT fa X.K t)))(he:∀cl C fp s H,aK (DE fa (cC X own bn scope cl C fp s H) elt ge))(hN:X.N.Nodup)(hc:X.calm=true:=by exact rfl)(hn:(slots t).all (· < own.length)=true:=by exact rfl)(hs:∀x,foldedSetIterable iter X.env x=pure x:=by exact fun _=>rfl)(hy:X.N[i]?=some y:=by exact rfl)(hl:X.env.scope.names.lookup y=some .local:=by exact rfl)(hsw:swapsWith (.ListComp elt [⟨tg,iter,[],0⟩] scope pos) (some (.Name y py)) spos.line X.env=pure true:=by exact rfl):aK (DS fa X (.Assign [.Name y py] (.ListComp elt [⟨tg,iter,[],0⟩] scope pos) spos) (aV (.one i) (bX m own.length t gw (cg ge)))):=⟨uU m (W:=[]) (body:=fun a env=>eval elt env >>= fun x=>call (.builtin "list.append") [.ref a,x] >>= fun _=>pure ()) S hc hi.h ⟨(fun cl C fp s H=>(pg cl C fp s H).h),fun cl C fp s H a=>n3 ((fun cl C fp s H=>(he cl C fp s H).h) cl C fp s H)⟩ (fun it a env=>uy elt tg iter [] scope pos (.ref it) (.ref a) env) (fun i h=>nomatch h) (by simpa using kS hn) hs hN hy hl hsw⟩
theorem zb {m:Bool}(S:fX X own bn scope)(hi:aK (DI fa X tg iter gw))(pg:∀cl C fp s H,aK (PG (cC X own bn scope cl C fp s H) tg (gT fa X.K t)))(ht:∀cl C fp s H,aK (DT fa (cC X own bn scope cl C fp s H) c gc))(he:∀cl C fp s H,aK (DE fa (cC X own bn scope cl C fp s H) elt ge))(hN:X.N.Nodup)(hc:X.calm=true:=by exact rfl)(hn:(slots t).all (· < own.length)=true:=by exact rfl)(hs:∀x,foldedSetIterable iter X.env x=pure x:=by exact fun _=>rfl)(hy:X.N[i]?=some y:=by exact rfl)(hl:X.env.scope.names.lookup y=some .local:=by exact rfl)(hsw:swapsWith (.ListComp elt [⟨tg,iter,[c],0⟩] scope pos) (some (.Name y py)) spos.line X.env=pure true:=by exact rfl):aK (DS fa X (.Assign [.Name y py] (.ListComp elt [⟨tg,iter,[c],0⟩] scope pos) spos) (aV (.one i) (bX m own.length t gw (nU gc (cg ge))))):=⟨uU m (W:=[]) (body:=fun a env=>isTrue c env (eval c env) >>= fun ok=>if ok=true then (eval elt env >>= fun x=>call (.builtin "list.append") [.ref a,x] >>= fun _=>pure ()) else pure ()) S hc hi.h ⟨(fun cl C fp s H=>(pg cl C fp s H).h),fun cl C fp s H a=>Dv ((fun cl C fp s H=>(ht cl C fp s H).h) cl C fp s H) (n3 ((fun cl C fp s H=>(he cl C fp s H).h) cl C fp s H))⟩ (fun it a env=>turn_if elt tg iter c scope pos (.ref it) (.ref a) env) (fun i h=>nomatch h) (by simpa using kS hn) hs hN hy hl hsw⟩
theorem Bb {m:Bool}(S:fX X own bn scope)(hi:aK (DI fa X tg iter gw))(pg:∀cl C fp s H,aK (PG (cC X own bn scope cl C fp s H) tg (gT fa X.K t)))(hi2:∀cl C fp s H,aK (DI fa (cC X own bn scope cl C fp s H) t2 i2 gw2))(pg2:∀cl C fp s H,aK (PG (cC X own bn scope cl C fp s H) t2 (gT fa X.K u)))(he:∀cl C fp s H,aK (DE fa (cC X own bn scope cl C fp s H) elt ge))(hs2:∀cl C fp s H,∀x,foldedSetIterable i2 (cC X own bn scope cl C fp s H).env x=pure x)(hN:X.N.Nodup)(hc:X.calm=true:=by exact rfl)(hn:(slots t++slots u).all (· < own.length)=true:=by exact rfl)(hW:(slots u).all (fun i=>!(slots t).contains i)=true:=by exact rfl)(hs:∀x,foldedSetIterable iter X.env x=pure x:=by exact fun _=>rfl)(hy:X.N[i]?=some y:=by exact rfl)(hl:X.env.scope.names.lookup y=some .local:=by exact rfl)(hsw:swapsWith (.ListComp elt [⟨tg,iter,[],0⟩,⟨t2,i2,[],0⟩] scope pos) (some (.Name y py)) spos.line X.env=pure true:=by exact rfl):aK (DS fa X (.Assign [.Name y py] (.ListComp elt [⟨tg,iter,[],0⟩,⟨t2,i2,[],0⟩] scope pos) spos) (aV (.one i) (bX m own.length t gw (r8 u gw2 (cg ge))))):=⟨D7 m S hc hi.h (fun cl C fp s H=>(pg cl C fp s H).h) (fun cl C fp s H=>(hi2 cl C fp s H).h) (fun cl C fp s H=>(pg2 cl C fp s H).h) (fun cl C fp s H=>(he cl C fp s H).h) hn hW hs hs2 hN hy hl hsw⟩
theorem iK {x:Str}{i:Int}(hm:∃t,X.mg x=some (.int i t))(hg:Gl X x:=by exact rfl)(hd:(x==("__debug__":Str))=false:=by exact rfl):aK (DE fa X (.Name x pos) (gC (.int i))):=⟨let ⟨_,h⟩:=hm;Gd hg h hd⟩
theorem ur {x:Str}{b:Expr}{gb:GE}{p:Pos}{fs:List (Str×Nat)}(h:∃ad kvs,X.mg x=some (.ref ad)/\jK X.K X.w.params ad kvs/\gu fa kvs fs)(hb:aK (DE fa X b gb))(hg:Gl X x:=by exact rfl)(hdb:(x==("__debug__":Str))=false:=by exact rfl)(hs:mv b:=by exact fun _ _=>rfl):aK (DE fa X (.Subscript (.Name x p) b pos) (oG fs gb)):=⟨let ⟨_,_,h1,h2,h3⟩:=h;Ge h2 h3 hg h1 hdb hb.h hs⟩
theorem Bf {x:Str}{a:Expr}{ga:GE}{p:Pos}{fs:List (Str×Nat)}(h:∃ad kvs,X.mg x=some (.ref ad)/\jK X.K X.w.params ad kvs/\gu fa kvs fs)(ha:aK (DE fa X a ga))(hg:Gl X x:=by exact rfl)(hdb:(x==("__debug__":Str))=false:=by exact rfl)(hmk:behindInMarks .NotIn (.Name x p)=false:=by exact rfl):aK (DT fa X (.Compare a [.NotIn] [.Name x p] pos) (aJ (oF fs ga))):=⟨let ⟨_,_,h1,h2,h3⟩:=h;Gp h2 h3 hg h1 hdb ha.h hmk⟩
theorem Fw {m:Bool}{pc pu:Pos}{k:Nat}(ha:aK (DE fa X a ga)):aK (DE fa X (.Subscript a (.Slice none none (some (.UnaryOp .USub (.Constant (.int 1) k pc) pu)) p2) pos) (rZ m ga)):=⟨Jr m ha.h⟩
theorem wB {hl:Bool}{hh:Bool}{lo hi:Option Expr}{gl gh:GE}(ha:aK (DE fa X a ga))(hlo:aK (DO fa X lo hl gl))(hhi:aK (DO fa X hi hh gh)):aK (DE fa X (.Subscript a (.Slice lo hi none p2) pos) (oB hl hh ga gl gh)):=⟨Ga hl hh ha.h hlo.h hhi.h⟩
theorem Bg (ha:aK (DE fa X a ga)):aK (DI fa X tg a (qR ga)):=⟨E6 ha.h⟩
theorem ib {f:Nat}{x:Str}{call:Call}(C:∀f,iD fa X.prog X.w X.K X.mg X.base n f (call f))(hr:cU (n+4) X.A)(hm:∀ad,fa f=some ad->X.mg x=some (.ref ad))(hs:aK (DA fa X (a::es) gs))(hex:X.ex=[]:=by exact rfl)(hg:Gl X x:=by exact rfl)(hdb:(x==("__debug__":Str))=false:=by exact rfl)(he:notStar a=true:=by exact rfl)(hpl:es.all notStar=true:=by exact rfl):aK (DX fa X (.Call (.Name x p) (a::es) [] pos) (dZ f call gs)):=⟨x_call f C hr hex hg hm hs.h hdb he hpl⟩
theorem Ft {c:Expr}(hc:aK (DT fa X c ta))(ha:aK (DX fa X a ga))(hb:aK (DX fa X b gb)):aK (DX fa X (.IfExp c a b pos) (oC ta ga gb)):=⟨Jb hc.h ha.h hb.h⟩
theorem ky (ha:aK (DX fa X a ga))(hs:swapsWith a none pos.line X.env=pure false:=by exact rfl):aK (DS fa X (.Expr a pos) (jB ga)):=⟨Jo ha.h hs⟩
theorem DH {tg:Expr}{t:dD}(ha:aK (DX fa X a ga))(hg:aK (PG X tg (gT fa X.K t)))(hs:swapsWithSole [tg] a pos.line X.env=pure false:=by exact rfl)(hw:swappedStores [tg] a X.env=pure none:=by exact rfl)(h1:(assignEach [tg] X.env).map (·.2)=[assign tg X.env]:=by exact rfl):aK (DS fa X (.Assign [tg] a pos) (oq t ga)):=⟨FX ha.h hg.h hs hw h1⟩
theorem pj {c:Nat}{x:Str}{np cpos:Pos}(hx:∃C,X.mg x=some (.ref C)/\fa (fu c)=some C/\PySem.W.excIn X.K C mq "ValueError.__new__"=true)(hs:aK (DA fa X (a::es) gs))(hex:X.ex=[]:=by exact rfl)(hg:Gl X x:=by exact rfl)(hc:X.calm=true:=by exact rfl)(hdb:(x==("__debug__":Str))=false:=by exact rfl)(he:notStar a=true:=by exact rfl)(hpl:es.all notStar=true:=by exact rfl):aK (DS fa X (.Raise (some (.Call (.Name x np) (a::es) [] cpos)) none pos) (jN c gs)):=⟨D6 c hx hex hg hc hs.h hdb he hpl⟩
theorem mB {k:Nat}(hc:n9 fa X.K)(hx:∃D,X.mg x=some (.ref D)/\fa (fu k)=some D)(ha:aK (DE fa X a ga))(hm:X.mg "isinstance"=none)(hg:Gl X "isinstance":=by exact rfl)(hgt:Gl X x:=by exact rfl)(hdb:(x==("__debug__":Str))=false:=by exact rfl)(he:starEach [a,.Name x p1] X.env=(false,eval a X.env)::starEach [.Name x p1] X.env:=by exact rfl):aK (DE fa X (.Call (.Name "isinstance" p2) [a,.Name x p1] [] pos) (ji (some k) ga)):=⟨Eb k hc hx ha.h hg hm hgt hdb he⟩
theorem Bd (hc:n9 fa X.K)(ha:aK (DE fa X a ga))(hm:X.mg "isinstance"=none)(hmt:X.mg "ValueError"=none)(hg:Gl X "isinstance":=by exact rfl)(hgt:Gl X "ValueError":=by exact rfl)(he:starEach [a,.Name "ValueError" p1] X.env=(false,eval a X.env)::starEach [.Name "ValueError" p1] X.env:=by exact rfl):aK (DE fa X (.Call (.Name "isinstance" p2) [a,.Name "ValueError" p1] [] pos) (ji none ga)):=⟨cG (mQ (ET (fa:=fa) hc) hg hm (by decide +kernel) (di ha.h (di (w8 hgt hmt (by decide +kernel) (v:=.ty "ValueError") rfl) fO (by rfl)) he) (by decide) (by decide) he (by rfl)) fun σ H Q h=>xo h⟩
theorem Fv (hc:n9 fa X.K)(hx:∃D,X.mg x=some (.ref D)/\fa 999=some D)(hN:X.N.Nodup)(hb:∀pn E,aK (iC fa (qO X pn E) body gB))(hh:∀v E,aK (iC fa (uf X v E) (b0::suite) gH))(hex:X.ex=[]:=by exact rfl)(hst:X.stack=X.env::X.outer:=by exact rfl)(hfr:X.env.frame=some X.env.locals:=by exact rfl)(hi:X.N[i]?=some nm:=by exact rfl)(hl:X.env.scope.names.lookup nm=some .local:=by exact rfl)(hg:Gl X x:=by exact rfl)(hdb:(x==("__debug__":Str))=false:=by exact rfl):aK (DS fa X (.Try body [.ExceptHandler (some (.Name x np)) (some nm) (b0::suite) hp] [] [] pos) (uV gB i gH)):=⟨Jn hc hx hex hst hfr hN hi hl hg hdb (fun pn E=>(hb pn E).h) (fun v E=>(hh v E).h)⟩
theorem DK (ha:aK (DE fa X a ga))(hbase:attributeBase a "count" X.env (eval a X.env)=eval a X.env:=by exact rfl)(hline:(apos.endLine==cpos.line)=true:=by exact rfl):aK (DE fa X (.Call (.Attribute a "count" apos) [.Constant (.bool true) j kp] [] cpos) (yK ga)):=⟨Gf ha.h hbase hline⟩
theorem DJ (ha:aK (DE fa X a ga))(hbase:attributeBase a "index" X.env (eval a X.env)=eval a X.env:=by exact rfl)(hline:(apos.endLine==cpos.line)=true:=by exact rfl):aK (DE fa X (.Call (.Attribute a "index" apos) [.Constant (.bool true) j kp] [] cpos) (yJ ga)):=⟨Gb ha.h hbase hline⟩
theorem sv {c:Nat}(J:mx fa X.prog X.w X.K X.mg X.base c x)(hr:cU 2 X.A)(ha:aK (DE fa X a ga))(hex:X.ex=[]:=by exact rfl)(hg:Gl X x:=by exact rfl)(hc:X.calm=true:=by exact rfl)(hdb:(x==("__debug__":Str))=false:=by exact rfl)(he:notStar a=true:=by exact rfl):aK (DS fa X (.Raise (some (.Call (.Name x np) [a] [] cpos)) none pos) (jA c ga)):=⟨BN c J hr hex hg hc ha.h hdb he⟩
theorem Be {f:Str}(hc:n9 fa X.K)(hf:Dy fa X.K f)(ha:aK (DE fa X a ga))(hb:attributeBase a f X.env (eval a X.env)=eval a X.env:=by exact rfl):aK (DE fa X (.Attribute a f pos) (nW f ga)):=⟨Ec f hc hf ha.h hb⟩
theorem Ja {fa:Fa}{X:Cx}{a:Expr}{ga:GE}{pos p1 p2 p3:Pos}{j j2:Nat}{z y:Str}(ha:aK (DE fa X a ga)):aK (DE fa X (.JoinedStr [.Constant (.str z) j p1,.FormattedValue a (-1) none p2,.Constant (.str y) j2 p3] pos) (Ii z y ga)):=⟨Lp ha.h⟩
theorem unbox {st:List Stmt}{g:GS}(h:aK (iC fa X st g)):iC fa X st g:=h.h
end
end LD
namespace LD
open PySem
abbrev gI (n:Int):GE:=gC (.int n)
abbrev gS (x:Str):GE:=gC (.str x)
abbrev gN:GE:=gC .non
abbrev qQ:GE:=gC (.bl true)
abbrev s8:GE:=gC (.bl false)
abbrev rF:GS:=aj (bh s8) ax
end LD
namespace LD
open PySem
def dS:List (Str×Nat):=[("turn",7),("join",8),("move",9),("put",10)]
def d3:List (Str×Nat):=[("turn",20),("join",21),("move",22),("put",23)]
def fT (c:Call):GS:=aj (bo (fi (aJ (cy .bool (ah 0))) (cn (aJ (cy .int (ah 0))))) rF ax) (aj (bh (lS .le .le (ah 1) (ah 0) (ah 2))) ax)
def jS (c:Call):GS:=aj (bh (aA 0 c (ag (ah 1) (ag (gI 0) (ag (aH false .sub (ah 0) (gI 1)) av))))) ax
def jl (c:Call):GS:=aj (bh (aA 0 c (ag (ah 1) (ag (gI 0) (ag (aH false .sub (ah 0) (gI 1)) av))))) ax
def jT (c:Call):GS:=aj (bh (aA 0 c (ag (ah 0) (ag (gI 1) (ag (gI 3) av))))) ax
def gD (c:Call):GS:=aj (bh (fB (cy .tuple (ah 1)) (aW .eq (bt .len (ag (ah 1) av)) (ah 0)))) ax
def jk (c:Call):GS:=aj (bh (fB (aA 4 c (ag (ah 0) (ag (ah 1) av))) (bt .all (ag (bX false 1 (.one 0) (eI (ah 1)) (cg (aA 1 c (ag (ah 1) (ag (ah 0) av))))) av)))) ax
def eB (c:Call):GS:=aj (bh (fB (aA 4 c (ag (ah 0) (ag (ah 1) av))) (bt .all (ag (bX false 1 (.one 0) (eI (ah 1)) (cg (aA 5 c (ag (ah 1) (ag (ah 0) av))))) av)))) ax
def hG (c:Call):GS:=aj (bo (aJ (aW .ne (bt .len (ag (ah 2) av)) (gI 3))) rF ax) (aj (aV (.tup [3,4,5]) (ah 2)) (aj (bh (fB (aA 2 c (ag (ah 1) (ag (ah 3) av))) (fB (aA 5 c (ag (ah 0) (ag (ah 4) av))) (aA 3 c (ag (ah 5) av))))) ax))
def hR (c:Call):GS:=aj (bo (aJ (aW .ne (bt .len (ag (ah 2) av)) (gI 4))) rF ax) (aj (aV (.tup [3,4,5,6]) (ah 2)) (aj (bo (fi (cn (aJ (aA 2 c (ag (ah 1) (ag (ah 3) av))))) (cn (aJ (aA 2 c (ag (ah 1) (ag (ah 4) av)))))) rF ax) (aj (bh (fB (aA 6 c (ag (ah 0) (ag (ah 5) av))) (aA 3 c (ag (ah 6) av)))) ax)))
def hJ (c:Call):GS:=aj (bo (aJ (aW .ne (bt .len (ag (ah 2) av)) (gI 3))) rF ax) (aj (aV (.tup [3,4,5]) (ah 2)) (aj (bh (fB (aA 2 c (ag (ah 1) (ag (ah 3) av))) (fB (aA 2 c (ag (ah 1) (ag (ah 4) av))) (aA 3 c (ag (ah 5) av))))) ax))
def iP (c:Call):GS:=aj (bo (aJ (aW .ne (bt .len (ag (ah 2) av)) (gI 3))) rF ax) (aj (aV (.tup [3,4,5]) (ah 2)) (aj (bh (fB (aA 2 c (ag (ah 1) (ag (ah 3) av))) (fB (aA 1 c (ag (ah 0) (ag (ah 4) av))) (aA 3 c (ag (ah 5) av))))) ax))
def hU (c:Call):GS:=aj (bo (fi (cn (aJ (cy .tuple (ah 2)))) (cn (aJ (ah 2)))) rF ax) (aj (aV (.one 3) (aO (ah 2) (gI 0))) (aj (bo (fi (cn (aJ (cy .str (ah 3)))) (aJ (oF dS (ah 3)))) rF ax) (aj (aV (.one 4) (oG dS (ah 3))) (aj (bh (nV 4 c (ag (ah 0) (ag (ah 1) (ag (dG false true false (ah 2) (gI 1) gN) av))))) ax))))
def fS (c:Call):GS:=aj (bo (cn (aJ (aA 4 c (ag (gI 3) (ag (ah 0) av))))) rF ax) (aj (aV (.tup [1,2,3]) (ah 0)) (aj (bo (fi (cn (aJ (aA 0 c (ag (ah 1) (ag (gI 2) (ag (gI 4) av)))))) (cn (aJ (aA 0 c (ag (ah 2) (ag (gI 1) (ag (gI 2) av))))))) rF ax) (aj (bo (fi (cn (aJ (cy .tuple (ah 3)))) (cn (aJ (lS .le .le (gI 1) (bt .len (ag (ah 3) av)) (gI 6))))) rF ax) (aj (bh (bt .all (ag (bX false 1 (.one 0) (eI (ah 3)) (cg (aA 11 c (ag (ah 2) (ag (ah 3) (ag (ah 0) av)))))) av))) ax))))
def dw (c:Call):GS:=aj (bo (cn (aJ (aA 12 c (ag (ah 0) av)))) (aj (jN 3 (ag (gS "this is no machine") av)) ax) ax) ax
def cH (c:Call):GS:=aj (jB (dZ 13 c (ag (ah 0) av))) (aj (aV (.tup [1,2,3]) (ah 0)) (aj (aV (.one 4) (bD false (ag (bZ av) av))) (aj (iw (.one 5) (fJ (ah 2)) (aj (aV (.one 4) (bX false 2 (.one 0) (eI (ah 4)) (r8 (.one 1) (fJ (ah 3)) (cg (aH false .add (ah 0) (bZ (ag (ah 1) av))))))) ax)) (aj (bh (ah 4)) ax))))
def eX (c:Call):GS:=aj (bh (aA 0 c (ag (ah 1) (ag (gI 0) (ag (aH false .sub (bt .len (ag (aO (ah 0) (gI 2)) av)) (gI 1)) av))))) ax
def cQ (c:Call):GS:=aj (bo (cn (aJ (cy .list (ah 1)))) (aj (jA 0 (gI 0)) ax) ax) (aj (iw (.tup [2,3]) (oE (ah 1)) (aj (bo (cn (aJ (aA 16 c (ag (ah 0) (ag (ah 3) av))))) (aj (jA 0 (ah 2)) ax) ax) ax)) ax)
def dX (c:Call):GS:=aj (jB (dZ 13 c (ag (ah 0) av))) (aj (jB (dZ 17 c (ag (ah 0) (ag (ah 1) av)))) (aj (bo (aJ (aW .gt (bt .len (ag (ah 1) av)) (gI 40))) (aj (jN 4 (ag (Ii "a row has at most " " deeds" (gI 40)) av)) ax) ax) ax))
def nh (c:Call):GS:=aj (aV (.tup [2,3,4,5]) (ah 0)) (aj (bh (aO (ah 4) (aO (ah 1) (ah 3)))) ax)
def nj (c:Call):GS:=aj (aV (.tup [2,3,4,5,6]) (ah 0)) (aj (bh (aO (aO (ah 5) (aO (ah 1) (ah 3))) (aO (ah 1) (ah 4)))) ax)
def oS (c:Call):GS:=aj (aV (.tup [2,3,4,5]) (ah 0)) (aj (bh (aO (ah 1) (ah 4))) ax)
def ni (c:Call):GS:=aj (aV (.tup [2,3,4,5]) (ah 0)) (aj (bh (ah 4)) ax)
def qY (c:Call):GS:=aj (aV (.one 2) (oG d3 (aO (ah 0) (gI 0)))) (aj (aV (.one 3) (aO (ah 0) (gI 1))) (aj (bh (aH false .add (aH false .add (dG false false true (ah 1) gN (ah 3)) (bZ (ag (nV 2 c (ag (ah 0) (ag (ah 1) av))) av))) (dG false true false (ah 1) (aH false .add (ah 3) (gI 1)) gN))) ax))
def ij (c:Call):GS:=aj (aV (.one 3) (bD true (ag (ah 2) av))) (aj (iw (.one 4) (eI (ah 1)) (aj (nH (ah 3) (aA 24 c (ag (aO (aO (ah 0) (gI 2)) (ah 4)) (ag (aO (ah 3) (eW (gI 1))) av)))) ax)) (aj (bh (ah 3)) ax))
def gL (c:Call):GS:=aj (jB (dZ 18 c (ag (ah 0) (ag (ah 1) av)))) (aj (bh (aA 46 c (ag (ah 0) (ag (ah 1) av)))) ax)
def iH (c:Call):GS:=aj (bo (aJ (aW .ge (ah 0) (aH false .pow (gI 10) (gI 18)))) (aj (bh (ah 0)) ax) ax) (aj (aV (.one 2) (bD false (ag (gI 2147483629) (ag (gI 2147483587) (ag (gI 2147483579) (ag (gI 2147483563) (ag (gI 2147483549) (ag (gI 2147483543) (ag (gI 2147483497) (ag (gI 2147483489) av)))))))))) (aj (aV (.one 2) (aH false .add (ah 2) (bD false (ag (gI 2147483477) (ag (gI 2147483423) (ag (gI 2147483399) (ag (gI 2147483353) (ag (gI 2147483323) av)))))))) (aj (aV (.one 3) (aH false .mod (aH false .pow (aH false .add (aH false .add (aH false .mul (aH false .mod (ah 0) (gI 1000000007)) (aH false .add (aH false .mul (gI 2) (ah 1)) (gI 69069))) (aH false .mul (ah 1) (gI 40503))) (gI 977)) (gI 3)) (aO (ah 2) (aH false .mod (ah 1) (gI 13))))) (aj (aV (.one 4) (aH false .mod (aH false .pow (aH false .add (aH false .add (aH false .mul (ah 3) (aH false .add (ah 1) (gI 3))) (aH false .mod (ah 0) (gI 65537))) (gI 5)) (gI 5)) (aO (ah 2) (aH false .mod (aH false .add (ah 1) (gI 5)) (gI 13))))) (aj (aV (.one 5) (aH false .mod (aH false .pow (aH false .add (aH false .add (ah 4) (aH false .mod (ah 3) (gI 1009))) (ah 1)) (gI 3)) (aO (ah 2) (aH false .mod (aH false .add (ah 1) (gI 7)) (gI 13))))) (aj (bh (aH false .add (aH false .mul (aH false .add (aH false .mul (ah 3) (gI 2147483647)) (ah 4)) (gI 2147483647)) (ah 5))) ax))))))
def jI (c:Call):GS:=aj (aV (.one 1) (bt (.list true) (ag (dG false false true (ah 0) gN (gI 12)) av))) (aj (iw (.tup [2,3]) (oE (dG false true true (ah 0) (gI 12) (gI 63))) (aj (fZ (ah 1) (aH false .mod (ah 2) (gI 12)) (aH false .add (aO (ah 1) (aH false .mod (ah 2) (gI 12))) (ah 3))) ax)) (aj (bh (bD true (ag (ah 1) (ag (gI 0) (ag (gI 0) av))))) ax))
def jJ (c:Call):GS:=aj (fZ (ah 0) (gI 2) (gI 0)) (aj (bh (ah 0)) ax)
def lV (c:Call):GS:=aj (bo (aJ (aW .lt (aO (ah 0) (gI 2)) (ah 1))) (aj (aV (.one 2) (aO (ah 0) (gI 1))) (aj (aV (.one 3) (gI 0)) (aj (bo (aJ (aW .lt (ah 2) (bt .len (ag (aO (ah 0) (gI 0)) av)))) (aj (aV (.one 3) (aO (aO (ah 0) (gI 0)) (ah 2))) ax) (aj (bo (aJ (aW .gt (bt .len (ag (aO (ah 0) (gI 0)) av)) (gI 0))) (aj (aV (.one 3) (aH false .mod (aO (aO (ah 0) (gI 0)) (aH false .mod (aH false .add (aH false .mul (ah 2) (gI 5)) (gI 3)) (bt .len (ag (aO (ah 0) (gI 0)) av)))) (aH false .add (aH false .pow (gI 10) (gI 17)) (ah 2)))) ax) ax) ax)) (aj (fZ (ah 0) (gI 1) (aH false .add (ah 2) (gI 1))) (aj (fZ (ah 0) (gI 2) (aA 28 c (ag (ah 3) (ag (ah 2) av)))) ax))))) ax) (aj (aV (.one 4) (aH false .mod (aO (ah 0) (gI 2)) (ah 1))) (aj (fZ (ah 0) (gI 2) (aH false .fdiv (aO (ah 0) (gI 2)) (ah 1))) (aj (bh (ah 4)) ax)))
def jm (c:Call):GS:=aj (aV (.one 2) (aA 31 c (ag (ah 0) (ag (gI 6) av)))) (aj (aV (.one 3) (aA 31 c (ag (ah 0) (ag (ah 1) av)))) (aj (aV (.one 4) (aA 31 c (ag (ah 0) (ag (ah 1) av)))) (aj (bo (aJ (aW .lt (ah 2) (gI 2))) (aj (bh (bt .tuple (ag (bX false 1 (.one 0) (fJ (ah 1)) (cg (aA 31 c (ag (ah 1) (ag (ah 2) av))))) av))) ax) ax) (aj (bo (aJ (aW .eq (ah 2) (gI 2))) (aj (bh (bt .tuple (ag (bX false 1 (.one 0) (fJ (ah 1)) (cg (aH false .mod (aH false .add (aH false .add (ah 0) (gI 1)) (ah 4)) (ah 2)))) av))) ax) ax) (aj (bo (aJ (aW .eq (ah 2) (gI 3))) (aj (bh (bt .tuple (ag (bX false 1 (.one 0) (fJ (ah 1)) (cg (ll (aJ (aW .eq (ah 0) (ah 4))) (ah 5) (ah 0)))) av))) ax) ax) (aj (bo (aJ (aW .eq (ah 2) (gI 4))) (aj (bh (aH false .mul (bZ (ag (ah 3) av)) (ah 1))) ax) ax) (aj (aV (.one 5) (nS true (ah 1))) (aj (fZ (ah 5) (ah 3) (ah 4)) (aj (fZ (ah 5) (ah 4) (ah 3)) (aj (bh (bt .tuple (ag (ah 5) av))) ax))))))))))
def iB (c:Call):GS:=aj (aV (.one 3) (aA 31 c (ag (ah 0) (ag (gI 8) av)))) (aj (aV (.one 4) (aH false .add (gI 1) (aA 31 c (ag (ah 0) (ag (gI 3) av))))) (aj (aV (.one 5) (aA 31 c (ag (ah 0) (ag (ah 2) av)))) (aj (aV (.one 6) (aA 31 c (ag (ah 0) (ag (ah 2) av)))) (aj (bo (aJ (aW .lt (ah 3) (gI 3))) (aj (bh (bZ (ag (gS "turn") (ag (ah 5) (ag (aA 32 c (ag (ah 0) (ag (ah 1) av))) (ag (ah 4) av)))))) ax) ax) (aj (bo (aJ (aW .lt (ah 3) (gI 5))) (aj (bh (bZ (ag (gS "move") (ag (ah 5) (ag (ll (aJ (aW .eq (ah 3) (gI 3))) (aH false .mod (aH false .add (ah 5) (gI 1)) (ah 2)) (ah 6)) (ag (ah 4) av)))))) ax) ax) (aj (bo (aJ (aW .eq (ah 3) (gI 5))) (aj (bh (bZ (ag (gS "put") (ag (ah 5) (ag (aA 31 c (ag (ah 0) (ag (ah 1) av))) (ag (ah 4) av)))))) ax) ax) (aj (bh (bZ (ag (gS "join") (ag (ah 5) (ag (ah 6) (ag (bt .tuple (ag (bX false 1 (.one 0) (fJ (ah 1)) (cg (aA 32 c (ag (ah 1) (ag (ah 2) av))))) av)) (ag (ah 4) av))))))) ax)))))))
def fV (c:Call):GS:=aj (aV (.one 1) (aH false .add (gI 2) (aA 31 c (ag (ah 0) (ag (aH false .sub (ah 1) (gI 1)) av))))) (aj (aV (.one 2) (aH false .add (gI 1) (aA 31 c (ag (ah 0) (ag (ah 2) av))))) (aj (aV (.one 4) (bD true av)) (aj (iw (.one 5) (fJ (aH false .add (gI 1) (aA 31 c (ag (ah 0) (ag (ah 3) av))))) (aj (aV (.one 6) (aA 31 c (ag (ah 0) (ag (gI 5) av)))) (aj (aV (.one 7) (aA 33 c (ag (ah 0) (ag (ah 1) (ag (ah 2) av))))) (aj (bo (gP (aJ (aW .eq (ah 6) (gI 0))) (aJ (aW .ne (ah 4) (bD false av)))) (aj (aV (.one 7) (aH false .add (dG false false true (aO (ah 4) (aA 31 c (ag (ah 0) (ag (bt .len (ag (ah 4) av)) av)))) gN (eW (gI 1))) (bZ (ag (aO (ah 7) (eW (gI 1))) av)))) ax) ax) (aj (nH (ah 4) (ah 7)) ax))))) (aj (bh (bZ (ag (ah 1) (ag (ah 2) (ag (bt .tuple (ag (ah 4) av)) av))))) ax))))
def ik (c:Call):GS:=aj (aV (.one 3) (aA 31 c (ag (ah 0) (ag (gI 4) av)))) (aj (aV (.one 4) (ll (aJ (aW .eq (ah 3) (gI 0))) (ah 2) (aA 31 c (ag (ah 0) (ag (aH false .add (ah 2) (gI 1)) av))))) (aj (aV (.one 5) (bX false 1 (.one 0) (fJ (ah 4)) (cg (aA 31 c (ag (ah 1) (ag (bt .len (ag (aO (ah 2) (gI 2)) av)) av)))))) (aj (bo (aJ (aW .eq (ah 3) (gI 1))) (aj (aV (.one 5) (dG false false true (aH false .mul (dG false false true (ah 5) gN (gI 2)) (ah 4)) gN (ah 4))) ax) ax) (aj (bh (ah 5)) ax))))
def dm (c:Call):GS:=aj (bo (aJ (aW .isN (ah 1) gN)) (aj (bh (aW .isN (ah 0) gN)) ax) ax) (aj (bo (fi (aJ (cy .bool (ah 1))) (aJ (cy .bool (ah 0)))) (aj (bh (fB (cy .bool (ah 1)) (fB (cy .bool (ah 0)) (aW .eq (ah 0) (ah 1))))) ax) ax) (aj (bo (aJ (cy .int (ah 1))) (aj (bh (fB (cy .int (ah 0)) (aW .eq (ah 0) (ah 1)))) ax) ax) (aj (bo (aJ (cy .str (ah 1))) (aj (bh (fB (cy .str (ah 0)) (aW .eq (ah 0) (ah 1)))) ax) ax) (aj (bo (fi (aJ (aW .ne (cy .tuple (ah 1)) (cy .tuple (ah 0)))) (aJ (aW .ne (cy .list (ah 1)) (cy .list (ah 0))))) rF ax) (aj (bo (aJ (aW .ne (bt .len (ag (ah 0) av)) (bt .len (ag (ah 1) av)))) rF ax) (aj (bh (aW .notin s8 (bX false 2 (.tup [0,1]) (lG (ah 0) (ah 1)) (cg (aA 40 c (ag (ah 0) (ag (ah 1) av))))))) ax))))))
def jo (c:Call):GS:=aj (aV (.one 2) (bt (.list true) (ag (ah 1) av))) (aj (aV (.one 3) (aO (ah 1) (aO (ah 0) (gI 1)))) (aj (bo (aJ (aW .eq (aO (ah 0) (gI 0)) (gS "turn"))) (aj (fZ (ah 2) (aO (ah 0) (gI 1)) (aO (aO (ah 0) (gI 2)) (ah 3))) ax) ax) (aj (bo (aJ (aW .eq (aO (ah 0) (gI 0)) (gS "join"))) (aj (fZ (ah 2) (aO (ah 0) (gI 1)) (aO (aO (aO (ah 0) (gI 3)) (ah 3)) (aO (ah 1) (aO (ah 0) (gI 2))))) ax) ax) (aj (bo (aJ (aW .eq (aO (ah 0) (gI 0)) (gS "move"))) (aj (fZ (ah 2) (aO (ah 0) (gI 1)) (aO (ah 1) (aO (ah 0) (gI 2)))) ax) ax) (aj (bo (aJ (aW .eq (aO (ah 0) (gI 0)) (gS "put"))) (aj (fZ (ah 2) (aO (ah 0) (gI 1)) (aO (ah 0) (gI 2))) ax) ax) (aj (bh (bt .tuple (ag (ah 2) av))) ax))))))
def iI (c:Call):GS:=aj (bo (aJ (aW .eq (aO (ah 0) (gI 1)) (gI 1))) (aj (bh (bX false 1 (.one 0) (fJ (aO (ah 0) (gI 0))) (cg (bZ (ag (ah 0) av))))) ax) ax) (aj (bh (bX false 1 (.one 0) (fJ (aH false .mul (aO (ah 0) (gI 0)) (aO (ah 0) (gI 0)))) (cg (bZ (ag (aH false .fdiv (ah 0) (aO (ah 1) (gI 0))) (ag (aH false .mod (ah 0) (aO (ah 1) (gI 0))) av)))))) ax)
def fD (c:Call):GS:=aj (aV (.one 2) (bD true av)) (aj (iw (.one 3) (eI (aA 42 c (ag (ah 0) av))) (aj (iw (.one 4) (eI (ah 1)) (aj (aV (.one 3) (aA 41 c (ag (aO (aO (ah 0) (gI 2)) (ah 4)) (ag (ah 3) av)))) ax)) (aj (nH (ah 2) (ah 3)) ax))) (aj (bh (bt .tuple (ag (ah 2) av))) ax))
def hV (c:Call):GS:=aj (bh (bt .tuple (ag (bX false 1 (.one 0) (eI (aA 15 c (ag (ah 0) av))) (cg (aO (aA 25 c (ag (ah 1) (ag (ah 2) (ag (ah 0) av)))) (eW (gI 1))))) av))) ax
def fv (c:Call):GS:=aj (aV (.one 2) (gS " !\"#$&'()*+,-./0123456789:;<=>?@ABCDEFGHIJKLMNOPQRSTUVWXYZ[\\]^_`")) (aj (aV (.one 2) (aH false .add (ah 2) (gS "abcdefghijklmnopqrstuvwxyz{|}~\t\n"))) (aj (aV (.one 3) (bX false 1 (.one 0) (qR (ah 2)) (nU (aJ (aW .notin (ah 0) (ah 2))) (cg (ah 0))))) (aj (bh (aO (ah 3) (aA 31 c (ag (ah 0) (ag (bt .len (ag (ah 3) av)) av))))) ax)))
def fw (c:Call):GS:=aj (bh (aA 64 c (ag (ah 0) (ag (gS "") av)))) ax
def gE (c:Call):GS:=aj (aV (.one 2) (aA 31 c (ag (ah 0) (ag (aH false .add (bt .len (ag (ah 1) av)) (gI 1)) av)))) (aj (bh (aH false .add (aH false .add (oB false true (ah 1) gN (ah 2)) (aA 65 c (ag (ah 0) av))) (oB true false (ah 1) (aH false .add (ah 2) (aA 31 c (ag (ah 0) (ag (gI 2) av)))) gN))) ax)
def jn (c:Call):GS:=aj (bh (fB (cy .int (ah 0)) (Ig (cy .bool (ah 0))))) ax
def lr (c:Call):GS:=aj (bh (fB (aA 67 c (ag (ah 0) av)) (lS .le .le (ah 1) (ah 0) (ah 2)))) ax
def ip (c:Call):GS:=aj (bo (fi (cn (aJ (cy .tuple (ah 0)))) (aJ (aW .ne (bt .len (ag (ah 0) av)) (ah 1)))) rF ax) (aj (bh (aW .eq (bX false 1 (.one 0) (eI (ah 0)) (nU (cn (aJ (aA 68 c (ag (ah 0) (ag (ah 3) (ag (ah 4) av)))))) (cg (gI 1)))) (bD false av))) ax)
def bC (c:Call):GS:=aj (bo (fi (cn (aJ (cy .tuple (ah 0)))) (aJ (aW .notin (bt .len (ag (ah 0) av)) (bZ (ag (gI 4) (ag (gI 5) av)))))) rF ax) (aj (bo (fi (aJ (aW .notin (aO (ah 0) (gI 0)) (bZ (ag (gS "turn") (ag (gS "join") (ag (gS "move") (ag (gS "put") av))))))) (aJ (aW .ne (aW .eq (bt .len (ag (ah 0) av)) (gI 5)) (aW .eq (aO (ah 0) (gI 0)) (gS "join"))))) rF ax) (aj (bo (fi (cn (aJ (aA 69 c (ag (bZ (ag (aO (ah 0) (gI 1)) av)) (ag (gI 1) (ag (gI 0) (ag (aH false .sub (ah 2) (gI 1)) av))))))) (cn (aJ (aA 68 c (ag (aO (ah 0) (eW (gI 1))) (ag (gI 1) (ag (gI 3) av))))))) rF ax) (aj (bo (aJ (aW .eq (aO (ah 0) (gI 0)) (gS "turn"))) (aj (bh (aA 69 c (ag (aO (ah 0) (gI 2)) (ag (ah 1) (ag (gI 0) (ag (aH false .sub (ah 1) (gI 1)) av)))))) ax) ax) (aj (bo (aJ (aW .eq (aO (ah 0) (gI 0)) (gS "put"))) (aj (bh (aA 68 c (ag (aO (ah 0) (gI 2)) (ag (gI 0) (ag (aH false .sub (ah 1) (gI 1)) av))))) ax) ax) (aj (bo (cn (aJ (aA 68 c (ag (aO (ah 0) (gI 2)) (ag (gI 0) (ag (aH false .sub (ah 2) (gI 1)) av)))))) rF ax) (aj (bo (aJ (aW .eq (aO (ah 0) (gI 0)) (gS "move"))) (aj (bh qQ) ax) ax) (aj (bo (fi (cn (aJ (cy .tuple (aO (ah 0) (gI 3))))) (aJ (aW .ne (bt .len (ag (aO (ah 0) (gI 3)) av)) (ah 1)))) rF ax) (aj (bh (aW .eq (bX false 1 (.one 0) (eI (aO (ah 0) (gI 3))) (nU (cn (aJ (aA 69 c (ag (ah 0) (ag (ah 2) (ag (gI 0) (ag (aH false .sub (ah 2) (gI 1)) av))))))) (cg (gI 1)))) (bD false av))) ax))))))))
def eC (c:Call):GS:=aj (bo (fi (cn (aJ (cy .tuple (ah 0)))) (fi (aJ (aW .ne (bt .len (ag (ah 0) av)) (gI 3))) (cn (aJ (aA 68 c (ag (aO (ah 0) (gI 0)) (ag (gI 2) (ag (gI 4) av)))))))) rF ax) (aj (bo (fi (cn (aJ (aA 68 c (ag (aO (ah 0) (gI 1)) (ag (gI 1) (ag (gI 2) av)))))) (fi (cn (aJ (cy .tuple (aO (ah 0) (gI 2))))) (cn (aJ (lS .le .le (gI 1) (bt .len (ag (aO (ah 0) (gI 2)) av)) (gI 6)))))) rF ax) (aj (bh (aW .eq (bX false 1 (.one 0) (eI (aO (ah 0) (gI 2))) (nU (cn (aJ (aA 70 c (ag (ah 0) (ag (aO (ah 1) (gI 0)) (ag (aO (ah 1) (gI 1)) av)))))) (cg (gI 1)))) (bD false av))) ax))
def lW (c:Call):GS:=aj (aV (.one 3) (aA 31 c (ag (ah 0) (ag (gI 8) av)))) (aj (aV (.one 4) (aA 31 c (ag (ah 0) (ag (gI 20) av)))) (aj (aV (.one 5) (aH false .sub (aA 31 c (ag (ah 0) (ag (gI 9) av))) (gI 2))) (aj (bo (gP (aJ (cy .tuple (ah 1))) (gP (aJ (aW .ne (ah 1) (bZ av))) (gP (aJ (aW .gt (ah 2) (gI 0))) (aJ (aW .gt (ah 4) (gI 4)))))) (aj (aV (.one 6) (aA 31 c (ag (ah 0) (ag (bt .len (ag (ah 1) av)) av)))) (aj (bh (aH false .add (aH false .add (dG false false true (ah 1) gN (ah 6)) (bZ (ag (aA 72 c (ag (ah 0) (ag (aO (ah 1) (ah 6)) (ag (aH false .sub (ah 2) (gI 1)) av)))) av))) (dG false true false (ah 1) (aH false .add (ah 6) (gI 1)) gN))) ax)) ax) (aj (aV (.one 7) (bD false (ag gN (ag qQ (ag s8 (ag (gS "") (ag (gS "turn") (ag (gS "join") (ag (gS "move") (ag (gS "put") (ag (gS "Turn") (ag (bZ av) (ag (bD false av) (ag (aH false .pow (gI 10) (gI 20)) (ag (eW (gI 1)) (ag (gI 0) av)))))))))))))))) (aj (aV (.one 7) (aH false .add (ah 7) (bD false (ag (gI 1) (ag (gI 4) (ag (bZ (ag (gI 0) av)) (ag (bD false (ag (gI 0) av)) (ag (gS "0") (ag (gI 7) av))))))))) (aj (bo (aJ (cy .tuple (ah 1))) (aj (aV (.one 8) (bD false (ag (bt (.list false) (ag (ah 1) av)) (ag (aH false .add (ah 1) (dG false false true (ah 1) gN (gI 1))) (ag (dG false false true (ah 1) gN (eW (gI 1))) (ag (rZ false (ah 1)) (ag (aH false .add (ah 1) (bZ (ag (ah 5) av))) (ag (dG false true false (ah 1) (gI 1) gN) (ag (bZ (ag (ah 1) av)) av))))))))) (aj (bh (aO (aH false .add (ah 8) (bD false (ag (aO (ah 7) (ah 4)) av))) (ah 3))) ax)) ax) (aj (bo (aJ (aA 67 c (ag (ah 1) av))) (aj (bh (aO (bD false (ag (aH false .add (ah 1) (gI 1)) (ag (aH false .sub (ah 1) (gI 1)) (ag (aH false .sub (gI 0) (ah 1)) (ag (ah 5) (ag (ah 5) (ag (aW .eq (ah 1) (gI 1)) (ag (aH false .sub (gI 3) (ah 1)) (ag (aO (ah 7) (ah 4)) av))))))))) (ah 3))) ax) ax) (aj (bo (gP (aJ (cy .str (ah 1))) (aJ (aW .lt (ah 3) (gI 3)))) (aj (bh (aA 66 c (ag (ah 0) (ag (ah 1) av)))) ax) ax) (aj (bh (aO (ah 7) (ah 4))) ax)))))))))
def eP (c:Call):GS:=aj (bo (cn (aJ (aA 4 c (ag (bt .len (ag (aA 15 c (ag (ah 0) av)) av)) (ag (ah 1) av))))) rF ax) (aj (bh (bt .all (ag (bX false 1 (.one 0) (eI (ah 1)) (cg (xr (aW .isN (ah 0) gN) (aA 1 c (ag (aO (ah 1) (gI 0)) (ag (ah 0) av)))))) av))) ax)
def cZ (c:Call):GS:=aj (jB (dZ 13 c (ag (ah 0) av))) (aj (bo (cn (aJ (aA 79 c (ag (ah 0) (ag (ah 1) av))))) (aj (jN 6 (ag (gS "this is no work of the machine") av)) ax) ax) ax)
def iV (c:Call):GS:=aj (bh (bt .all (ag (bX false 2 (.tup [0,1]) (lG (ah 0) (ah 1)) (cg (xr (aW .isN (ah 1) gN) (aW .eq (aO (ah 0) (gI 0)) (ah 1))))) av))) ax
def c6 (c:Call):GS:=aj (jB (dZ 18 c (ag (ah 0) (ag (ah 1) av)))) (aj (jB (dZ 80 c (ag (ah 0) (ag (ah 2) av)))) (aj (bh (aA 81 c (ag (aA 27 c (ag (ah 0) (ag (ah 1) av))) (ag (ah 2) av)))) ax))
def ff (c:Call):GS:=aj (aV (.one 2) (aA 31 c (ag (ah 0) (ag (gI 5) av)))) (aj (aV (.one 3) (aA 31 c (ag (ah 0) (ag (gI 4) av)))) (aj (aV (.one 4) (aA 42 c (ag (ah 1) av))) (aj (aV (.one 5) (aA 44 c (ag (ah 1) (ag (aA 35 c (ag (ah 0) (ag (ah 1) (ag (gI 6) av)))) av)))) (aj (aV (.one 6) (bX true 1 (.one 0) (eI (ah 5)) (cg (aO (ah 0) (gI 0))))) (aj (bo (aJ (aW .eq (ah 2) (gI 0))) (aj (aV (.one 6) (bX true 1 (.one 0) (eI (ah 4)) (cg (aA 31 c (ag (ah 1) (ag (aO (ah 2) (gI 0)) av)))))) ax) ax) (aj (aV (.one 7) (aA 31 c (ag (ah 0) (ag (bt .len (ag (ah 6) av)) av)))) (aj (bo (aJ (aW .eq (ah 2) (gI 1))) (aj (fZ (ah 6) (ah 7) (aA 31 c (ag (ah 0) (ag (aO (ah 1) (gI 0)) av)))) ax) ax) (aj (bo (aJ (aW .gt (ah 3) (gI 0))) (aj (aV (.one 6) (bX true 1 (.one 0) (eI (ah 6)) (cg (ll (aJ (aW .eq (aA 31 c (ag (ah 1) (ag (aH false .add (gI 2) (ah 4)) av))) (gI 0))) gN (ah 0))))) ax) ax) (aj (bh (bt .tuple (ag (ah 6) av))) ax)))))))))
def gM (c:Call):GS:=aj (bh (aW .eq (bX false 2 (.tup [0,1]) (lG (ah 0) (ah 1)) (nU (gP (aJ (aW .notN (ah 1) gN)) (aJ (aW .ne (aO (ah 0) (gI 0)) (ah 1)))) (cg (gI 1)))) (bD false av))) ax
def eR (c:Call):GS:=aj (aV (.one 3) (aA 31 c (ag (ah 0) (ag (gI 8) av)))) (aj (aV (.one 4) (aA 31 c (ag (ah 0) (ag (bt .len (ag (ah 2) av)) av)))) (aj (aV (.one 5) (aO (bD false (ag (aO (ah 1) (gI 0)) (ag (eW (gI 1)) (ag qQ (ag s8 (ag (gS "0") (ag (bZ (ag (gI 0) av)) (ag (bD false av) (ag (aH false .pow (gI 10) (gI 20)) (ag (aH false .mul (gI 2) (aO (ah 1) (gI 0))) av)))))))))) (aA 31 c (ag (ah 0) (ag (gI 9) av))))) (aj (bo (aJ (aW .lt (ah 3) (gI 5))) (aj (bh (aH false .add (aH false .add (dG false false true (ah 2) gN (ah 4)) (bZ (ag (ah 5) av))) (dG false true false (ah 2) (aH false .add (ah 4) (gI 1)) gN))) ax) ax) (aj (bh (aO (bD false (ag (dG false false true (ah 2) gN (eW (gI 1))) (ag (aH false .add (ah 2) (dG false false true (ah 2) gN (gI 1))) (ag (bt (.list false) (ag (ah 2) av)) av)))) (aH false .sub (ah 3) (gI 5)))) ax))))
def dz (c:Call):GS:=aj (aV (.one 3) (gS "odd")) (aj (uV (aj (oq (.one 3) (oC (aJ (aW .isN (ah 1) gN)) (dZ 80 c (ag (ah 0) (ag (ah 2) av))) (dZ 82 c (ag (ah 0) (ag (ah 1) (ag (ah 2) av)))))) ax) 4 (aj (aV (.one 5) (bD false (ag (ji (some 3) (ah 4)) (ag (ji (some 0) (ah 4)) (ag (ji (some 4) (ah 4)) (ag (ji (some 6) (ah 4)) av)))))) (aj (bo (gP (aJ (aW .eq (yK (ah 5)) (gI 1))) (aJ (ji none (ah 4)))) (aj (aV (.one 3) (aO (bD false (ag (gS "machine") (ag (gS "row") (ag (gS "long") (ag (gS "work") av))))) (yJ (ah 5)))) (aj (bo (aJ (aW .eq (ah 3) (gS "row"))) (aj (aV (.one 3) (bD false (ag (ah 3) (ag (nW "place" (ah 4)) av)))) ax) ax) ax)) ax) ax))) (aj (bh (ah 3)) ax))
def fU (c:Call):GS:=aj (aV (.one 4) (aA 85 c (ag (ah 0) (ag (ah 1) (ag (ah 3) av))))) (aj (aV (.one 5) (aA 72 c (ag (ah 0) (ag (ah 1) (ag (gI 5) av))))) (aj (bo (fi (aJ (aW .ne (aA 86 c (ag (ah 1) (ag gN (ag (ah 4) av)))) (gS "work"))) (aJ (aW .ne (aA 86 c (ag (ah 1) (ag (ah 2) (ag (ah 4) av)))) (gS "work")))) rF ax) (aj (iw (.tup [6,7]) (eI (bD false (ag (bZ (ag gN (ag (ah 4) av))) (ag (bZ (ag (bD false (ag (eW (gI 1)) av)) (ag (ah 4) av))) (ag (bZ (ag gN (ag (ah 3) av))) (ag (bZ (ag (bD false av) (ag (ah 3) av))) av)))))) (aj (bo (gP (cn (aJ (aA 71 c (ag (ah 5) av)))) (aJ (aW .ne (aA 86 c (ag (ah 5) (ag (ah 6) (ag (ah 7) av)))) (gS "machine")))) rF ax) ax)) (aj (aV (.one 8) (aA 31 c (ag (ah 0) (ag (aH false .add (bt .len (ag (ah 2) av)) (gI 1)) av)))) (aj (aV (.one 9) (aO (bD false (ag (gI 6) (ag (eW (gI 1)) (ag qQ (ag gN (ag (gS "0") (ag (bD false (ag (gI 0) av)) (ag (aH false .pow (gI 10) (gI 20)) av)))))))) (aA 31 c (ag (ah 0) (ag (gI 7) av))))) (aj (iw (.one 7) (eI (bD false (ag (ah 4) (ag (ah 3) av)))) (aj (aV (.one 10) (bD false (ag (bZ (ag (aH false .add (aH false .add (aH false .add (dG false false true (ah 2) gN (ah 8)) (bD false (ag (ah 9) av))) (dG false true false (ah 2) (ah 8) gN)) (bD false (ag (eW (gI 1)) av))) (ag (ah 8) av))) (ag (bZ (ag (aH false .add (aH false .mul (bD false (ag (gI 0) av)) (gI 40)) (bD false (ag (eW (gI 1)) av))) (ag (gI 40) av))) (ag (bZ (ag (bt .tuple (ag (ah 2) av)) (ag (gI 0) av))) (ag (bZ (ag (gS "") (ag (gI 0) av))) av)))))) (aj (iw (.tup [6,11]) (eI (ah 10)) (aj (bo (cn (aJ (aA 40 c (ag (aA 86 c (ag (ah 1) (ag (ah 6) (ag (ah 7) av)))) (ag (bD false (ag (gS "row") (ag (ah 11) av))) av))))) rF ax) ax)) (aj (bo (aJ (aW .ne (aA 86 c (ag (ah 1) (ag (aH false .mul (bD false (ag (gI 0) av)) (gI 41)) (ag (ah 7) av)))) (gS "long"))) rF ax) ax)))) (aj (bh qQ) ax)))))))
def mr (c:Call):GS:=aj (aV (.one 1) (aA 29 c (ag (ah 0) av))) (aj (iw (.one 2) (fJ (gI 6)) (aj (aV (.one 3) (aA 34 c (ag (aA 30 c (ag (ah 1) av)) (ag (gI 4) (ag (gI 2) (ag (gI 6) av)))))) (aj (iw (.one 4) (fJ (gI 4)) (aj (aV (.one 5) (aA 83 c (ag (ah 1) (ag (ah 3) av)))) (aj (aV (.one 6) (aA 35 c (ag (ah 1) (ag (ah 3) (ag (aO (bD false (ag (gI 6) (ag (gI 40) (ag (gI 12) (ag (gI 3) av))))) (ah 4)) av))))) (aj (aV (.one 7) (bt (.list false) (ag (ah 6) av))) (aj (aV (.one 8) (aA 86 c (ag (ah 3) (ag (ah 7) (ag (ah 5) av))))) (aj (bo (fi (cn (aJ (aA 40 c (ag (ah 8) (ag (aA 84 c (ag (aA 44 c (ag (ah 3) (ag (ah 6) av))) (ag (ah 5) av))) av))))) (aJ (aW .ne (ah 7) (ah 6)))) rF ax) (aj (bo (aJ (aW .notN (aA 86 c (ag (ah 3) (ag gN (ag (ah 5) av)))) gN)) rF ax) ax))))))) (aj (bo (cn (aJ (aA 87 c (ag (ah 1) (ag (ah 3) (ag (ah 6) (ag (ah 5) av))))))) rF ax) ax)))) (aj (bh qQ) ax))
end LD
namespace LD
open PySem
@[simp] theorem bR {α β:Type}{r:Res α}{f:α->Mem->Res β}{k:β->Mem->Prop}:au (r.bind f) k↔au r fun a M=>au (f a M) k:=by cases r<;>rfl
@[simp] theorem kc {α:Type}{a:α}{M:Mem}{k:α->Mem->Prop}:au (.ok a M) k↔k a M:=Iff.rfl
@[simp] theorem NC {α:Type}{k:α->Mem->Prop}:au (.bad:Res α) k↔False:=Iff.rfl
@[simp] theorem ma {α:Type}{M:Mem}{o:Option α}{k:α->Mem->Prop}:au (dv M o) k↔∃a,o=some a/\k a M:=by cases o<;>simp [dv]
theorem qz {α:Type}{r:Res α}{k:α->Mem->Prop}:au r k↔∃a M,r=.ok a M/\k a M:=by
 cases r with
 |ok a M=>exact ⟨fun h=>⟨a,M,rfl,h⟩,fun ⟨_,_,e,h⟩=>by cases e;exact h⟩
 |err=>simp [au]
 |bad=>simp [au]
theorem ku {x y:D}{M:Mem}{v:Bool}(px:aN 64 (view M x)=true)(py:aN 64 (view M y)=true)(h:bu (view M x) (view M y)=v):bN .eq x y M=some v:=by
 have e:qT (view M x) (view M y)=some v:=by unfold qT;rw [px,py,h];simp
 show nr M x y=_
 unfold nr;rw [e]
theorem oN {x y:D}{M:Mem}{v:Bool}(px:aN 64 (view M x)=true)(py:aN 64 (view M y)=true)(h:bu (view M x) (view M y)=v):bN .ne x y M=some (!v):=by
 show (bN .eq x y M).map (!·)=_
 rw [ku px py h];rfl
section
variable {Z:Env}{M:Mem}{a b d lo hi:GE}{s:GA}{t u:GT}{k:D->Mem->Prop}{c:Call}
@[simp] theorem bc {i:Nat}:au (ah i Z M) k↔∃d,Z[i]?.getD none=some d/\k d M:=by simp [ah]
@[simp] theorem cR {d:D}:au (gC d Z M) k↔k d M:=Iff.rfl
@[simp] theorem fK {m:Bool}{o:nv}:au (aH m o a b Z M) k↔au (a Z M) fun x M=>au (b Z M) fun y M=>au (fR m o x y M) k:=by simp [aH]
@[simp] theorem ft {o:iW}:au (aW o a b Z M) k↔au (a Z M) fun x M=>au (b Z M) fun y M=>∃v,bN o x y M=some v/\k (.bl v) M:=by simp [aW]
@[simp] theorem JY {o o':iW}:au (lS o o' a b d Z M) k↔au (a Z M) fun x M=>au (b Z M) fun y M=>∃v,bN o x y M=some v/\if v=true then au (d Z M) fun z M=>∃v,bN o' y z M=some v/\k (.bl v) M else k (.bl false) M:=by
 simp only [lS,bR,ma]
 refine iff_of_eq ?_
 congr 1;funext x M;congr 1;funext y M;refine propext (exists_congr fun v=>and_congr_right fun _=>?_)
 cases v<;>simp
@[simp] theorem yN:au (eW a Z M) k↔au (a Z M) fun x M=>∃i,x=.int i/\k (.int (-i)) M:=by
 simp only [eW,bR];refine iff_of_eq ?_;congr 1;funext x M;cases x<;>simp
@[simp] theorem Dt:au (fB a b Z M) k↔au (a Z M) fun x M=>∃v,x=.bl v/\if v=true then au (b Z M) k else k (.bl false) M:=by
 simp only [fB,bR];refine iff_of_eq ?_;congr 1;funext x M;cases x<;>simp
 rename_i v;cases v<;>simp
@[simp] theorem Im:au (xr a b Z M) k↔au (a Z M) fun x M=>∃v,x=.bl v/\if v=true then k (.bl true) M else au (b Z M) k:=by
 simp only [xr,bR];refine iff_of_eq ?_;congr 1;funext x M;cases x<;>simp
 rename_i v;cases v<;>simp
@[simp] theorem Ds:au (ll t a b Z M) k↔au (t Z M) fun v M=>if v=true then au (a Z M) k else au (b Z M) k:=by
 simp only [ll,bR];refine iff_of_eq ?_;congr 1;funext v M;cases v<;>simp
@[simp] theorem eY:au (aO a b Z M) k↔au (a Z M) fun x M=>au (b Z M) fun y M=>∃d,cY x y M=some d/\k d M:=by simp [aO]
@[simp] theorem lI {m hl hh:Bool}:au (dG m hl hh a lo hi Z M) k↔au (a Z M) fun x M=>au (lo Z M) fun l M=>au (hi Z M) fun h M=>cL hl l=true/\cL hh h=true/\au (eG m x l h M) k:=by
 simp only [dG,bR]
 refine iff_of_eq ?_
 congr 1;funext x M;congr 1;funext l M;congr 1;funext h M
 cases cL hl l<;>cases cL hh h<;>simp
@[simp] theorem bx {k:List D->Mem->Prop}:au (av Z M) k↔k [] M:=Iff.rfl
@[simp] theorem bp {k:List D->Mem->Prop}:au (ag a s Z M) k↔au (a Z M) fun x M=>au (s Z M) fun xs M=>k (x::xs) M:=by simp [ag]
@[simp] theorem jj:au (bZ s Z M) k↔au (s Z M) fun xs M=>xs.length<=sz/\k (.tup xs) M:=by
 simp only [bZ,bR];refine iff_of_eq ?_;congr 1;funext xs M;unfold mT;split<;>simp [*]
theorem vg {m:Bool}{xs:List D}:au (cf m xs M) k↔xs.length<=sz/\if m=true then k (.cell M.length) (M++[xs]) else k (.lst xs) M:=by
 unfold cf;cases m<;>split<;>simp [*]
@[simp] theorem cO {xs:List D}:au (cf false xs M) k↔xs.length<=sz/\k (.lst xs) M:=by simp [vg]
@[simp] theorem ow {xs:List D}:au (cf true xs M) k↔xs.length<=sz/\k (.cell M.length) (M++[xs]):=by simp [vg]
@[simp] theorem mX {m:Bool}:au (bD m s Z M) k↔au (s Z M) fun xs M=>au (cf m xs M) k:=by simp [bD]
@[simp] theorem dP {f:Nat}:au (aA f c s Z M) k↔au (s Z M) fun ds M=>au (c f ds M) k:=by simp [aA]
@[simp] theorem EY {i:Nat}:au (nV i c s Z M) k↔∃f,Z[i]?.getD none=some (.fn f)/\au (s Z M) fun ds M=>au (c f ds M) k:=by
 unfold nV
 cases e:Z[i]?.getD none with
 |none=>simp
 |some d=>cases d<;>simp
@[simp] theorem dW {f:vZ}:au (bt f s Z M) k↔au (s Z M) fun ds M=>au (gp f ds M) k:=by simp [bt]
@[simp] theorem vK {t:Ty}:au (cy t a Z M) k↔au (a Z M) fun x M=>∃v,cx t x=some v/\k (.bl v) M:=by simp [cy]
@[simp] theorem Io {fs:List (Str×Nat)}:au (oG fs a Z M) k↔au (a Z M) fun x M=>∃y f,x=.str y/\fs.lookup y=some f/\k (.fn f) M:=by
 simp only [oG,bR];refine iff_of_eq ?_;congr 1;funext x M;cases x<;>simp
 exact ⟨fun ⟨_,⟨f,h,e⟩,q⟩=>⟨f,h,e ▸ q⟩,fun ⟨f,h,q⟩=>⟨_,⟨f,h,rfl⟩,q⟩⟩
@[simp] theorem NS {fs:List (Str×Nat)}:au (oF fs a Z M) k↔au (a Z M) fun x M=>∃y,x=.str y/\k (.bl (!(fs.lookup y).isSome)) M:=by
 simp only [oF,bR];refine iff_of_eq ?_;congr 1;funext x M;cases x<;>simp
@[simp] theorem EX {m:Bool}:au (nS m a Z M) k↔au (a Z M) fun x M=>∃n,x=.int n/\(-(2^62)<=n/\n<2^20)/\au (cf m ((List.range n.toNat).map fun (k:Nat)=>D.int (k:Int)) M) k:=by
 simp only [nS,bR];refine iff_of_eq ?_;congr 1;funext x M
 cases x<;>simp
 rename_i n
 split<;>simp [*]
variable {kb:Bool->Mem->Prop}
@[simp] theorem fG:au (aJ a Z M) kb↔au (a Z M) fun x M=>∃v,lN M x=some v/\kb v M:=by simp [aJ]
@[simp] theorem C4:au (gP t u Z M) kb↔au (t Z M) fun v M=>if v=true then au (u Z M) kb else kb false M:=by
 simp only [gP,bR];refine iff_of_eq ?_;congr 1;funext v M;cases v<;>simp
@[simp] theorem Bv:au (fi t u Z M) kb↔au (t Z M) fun v M=>if v=true then kb true M else au (u Z M) kb:=by
 simp only [fi,bR];refine iff_of_eq ?_;congr 1;funext v M;cases v<;>simp
@[simp] theorem om:au (cn t Z M) kb↔au (t Z M) fun v M=>kb (!v) M:=by simp [cn]
variable {kf:Fl->Mem->Prop}{sa sb:GS}
def lA (b:GS)(k:Fl->Mem->Prop):Fl->Mem->Prop
 |.next Z,M=>au (b Z M) k
 |.ret d,M=>k (.ret d) M
 |.exc x Z,M=>k (.exc x Z) M
@[simp] theorem Lc {b:GS}{x:D}:lA b kf (.exc x Z) M↔kf (.exc x Z) M:=Iff.rfl
@[simp] theorem eL {b:GS}:lA b kf (.next Z) M↔au (b Z M) kf:=Iff.rfl
@[simp] theorem uC {b:GS}{d:D}:lA b kf (.ret d) M↔kf (.ret d) M:=Iff.rfl
@[simp] theorem aQ:au (aj sa sb Z M) kf↔au (sa Z M) (lA sb kf):=by
 simp only [aj,bR];refine iff_of_eq ?_;congr 1;funext fl M;cases fl<;>rfl
@[simp] theorem qi:au (ax Z M) kf↔kf (.next Z) M:=Iff.rfl
@[simp] theorem gz {i:Nat}:au (aV (.one i) a Z M) kf↔au (a Z M) fun x M=>kf (.next (Z.set i (some x))) M:=by simp [aV,c7]
@[simp] theorem FW {l:List Nat}:au (aV (.tup l) a Z M) kf↔au (a Z M) fun x M=>∃ds ρ1,x=.tup ds/\gX l ds Z=some ρ1/\kf (.next ρ1) M:=by
 simp only [aV,bR,ma,kc];refine iff_of_eq ?_;congr 1;funext x M;cases x<;>simp [c7]
@[simp] theorem l8:au (fZ a b d Z M) kf↔au (d Z M) fun z M=>au (a Z M) fun x M=>au (b Z M) fun y M=>∃j n ds i,x=.cell j/\y=.int n/\M[j]?=some ds/\cb ds.length n=some i/\kf (.next Z) (M.set j (ds.set i z)):=by
 simp only [fZ,bR]
 refine iff_of_eq ?_
 congr 1;funext z M;congr 1;funext x M;congr 1;funext y M
 cases x with
 | cell j =>
   cases y with
   | int n =>
     cases e:M[j]? with
     |none=>simp [e]
     | some ds =>
       cases e2:cb ds.length n with
       |none=>simp [e,e2]
       |some i=>simp [e,e2]
   |_=>simp
 |_=>simp
@[simp] theorem FY:au (nH a d Z M) kf↔au (a Z M) fun x M=>au (d Z M) fun z M=>∃j ds,x=.cell j/\M[j]?=some ds/\ds.length<sz/\kf (.next Z) (M.set j (ds++[z])):=by
 simp only [nH,bR]
 refine iff_of_eq ?_
 congr 1;funext x M;congr 1;funext z M
 cases x<;>simp
 rename_i j
 cases e:M[j]? with
 |none=>simp
 |some ds=>by_cases h:ds.length<sz<;>simp [h]
@[simp] theorem cF:au (bh a Z M) kf↔au (a Z M) fun x M=>kf (.ret x) M:=by simp [bh]
@[simp] theorem Nb:au (Jp Z M) kf↔kf (.ret .non) M:=Iff.rfl
@[simp] theorem Nc:au (Jq Z M) kf↔kf (.next Z) M:=Iff.rfl
@[simp] theorem Nz:au (Lo Z M) kf↔False:=Iff.rfl
@[simp] theorem kY:au (bo t sa sb Z M) kf↔au (t Z M) fun v M=>if v=true then au (sa Z M) kf else au (sb Z M) kf:=by
 simp only [bo,bR];refine iff_of_eq ?_;congr 1;funext v M;cases v<;>simp
variable {kw:Walk->Mem->Prop}
@[simp] theorem kz:au (fJ a Z M) kw↔au (a Z M) fun x M=>∃n,x=.int n/\(-(2^62)<=n/\n<2^62)/\kw (fun _=>some ((List.range n.toNat).map fun (k:Nat)=>D.int (k:Int))) M:=by
 simp only [fJ,bR];refine iff_of_eq ?_;congr 1;funext x M;cases x<;>simp
 rename_i n
 split<;>simp [*]
@[simp] theorem Jc:au (eI a Z M) kw↔au (a Z M) fun x M=>ig x=true/\kw (fun M=>de M x) M:=by
 simp only [eI,bR];refine iff_of_eq ?_;congr 1;funext x M;cases x<;>simp [ig]<;>rfl
@[simp] theorem zi:au (oE a Z M) kw↔au (a Z M) fun x M=>(ig x&&jH x)=true/\kw (fun M=>(de M x).map (eJ 0)) M:=by
 simp only [oE,bR];refine iff_of_eq ?_;congr 1;funext x M;cases x<;>simp [ig,jH]<;>rfl
@[simp] theorem FG:au (lG a b Z M) kw↔au (a Z M) fun x M=>au (b Z M) fun y M=>(ig x&&ig y)=true/\kw (oi x y) M:=by
 simp only [lG,bR];refine iff_of_eq ?_;congr 1;funext x M;congr 1;funext y M;split<;>simp [*]
def gm (k:D->Mem->Prop):Fl->Mem->Prop
 |.ret d,M=>k d M
 |.next _,M=>k .non M
 |.exc _ _,_=>False
@[simp] theorem Nh {d:D}:gm k (.ret d) M↔k d M:=Iff.rfl
@[simp] theorem MG:gm k (.next Z) M↔k .non M:=Iff.rfl
theorem aL {P:Nat->Option Df}{n f:Nat}{d:Df}{ds:List D}(e:P f=some d)(hl:ds.length=d.params)(h:au (d.body (aw P n) (ds.map some++List.replicate (d.slots-ds.length) none) M) (gm k)):au (aw P (n+1) f ds M) k:=by
 show au (match P f with|none=>Res.bad|some d=>iO (aw P n) d ds M) k
 rw [e]
 show au (iO (aw P n) d ds M) k
 unfold iO
 rw [if_pos hl]
 revert h
 cases d.body (aw P n) (ds.map some++List.replicate (d.slots-ds.length) none) M with
 |ok fl M=>cases fl<;>exact id
 |err=>exact id
 |bad=>exact id
@[simp] theorem ND {α:Type}{a:α}{k:α->Mem->Prop}{kx:D->Mem->Prop}:j5 (.ok a M) k kx↔k a M:=Iff.rfl
@[simp] theorem Nf {α:Type}{x:D}{k:α->Mem->Prop}{kx:D->Mem->Prop}:j5 (.err x M:Res α) k kx↔kx x M:=Iff.rfl
def yM (k kx:D->Mem->Prop):Fl->Mem->Prop
 |.ret d,M=>k d M
 |.next _,M=>k .non M
 |.exc x _,M=>kx x M
theorem fC {P:Nat->Option Df}{n f:Nat}{d:Df}{ds:List D}{kx:D->Mem->Prop}(e:P f=some d)(hl:ds.length=d.params)(h:au (d.body (aw P n) (ds.map some++List.replicate (d.slots-ds.length) none) M) (yM k kx)):j5 (aw P (n+1) f ds M) k kx:=by
 show j5 (match P f with|none=>Res.bad|some d=>iO (aw P n) d ds M) k kx
 rw [e]
 show j5 (iO (aw P n) d ds M) k kx
 unfold iO
 rw [if_pos hl]
 revert h
 cases d.body (aw P n) (ds.map some++List.replicate (d.slots-ds.length) none) M with
 |ok fl M=>cases fl<;>exact id
 |err=>exact id
 |bad=>exact id
theorem eO {α:Type}{r:Res α}{x:D}{M':Mem}(h:j5 r (fun _ _=>False) fun y M=>y=x/\M=M'):r=.err x M':=by
 cases r with
 |ok=>exact h.elim
 |err y M=>obtain ⟨rfl,rfl⟩:=h;rfl
 |bad=>exact h.elim
@[simp] theorem NQ {d:D}{kx:D->Mem->Prop}:yM k kx (.ret d) M↔k d M:=Iff.rfl
@[simp] theorem Ng {kx:D->Mem->Prop}:yM k kx (.next Z) M↔k .non M:=Iff.rfl
@[simp] theorem NR {x:D}{kx:D->Mem->Prop}:yM k kx (.exc x Z) M↔kx x M:=Iff.rfl
@[simp] theorem fb {f:Nat}{kx:D->Mem->Prop}:j5 (dZ f c s Z M) k kx↔au (s Z M) fun ds M=>j5 (c f ds M) k kx:=by
 unfold dZ
 cases s Z M<;>rfl
@[simp] theorem gy:au (jB a Z M) kf↔j5 (a Z M) (fun _ M=>kf (.next Z) M) (fun x M=>kf (.exc x Z) M):=by
 unfold jB
 cases a Z M<;>rfl
@[simp] theorem wV {i:Nat}:au (oq (.one i) a Z M) kf↔j5 (a Z M) (fun x M=>kf (.next (Z.set i (some x))) M) (fun x M=>kf (.exc x Z) M):=by
 unfold oq
 cases a Z M<;>rfl
@[simp] theorem Ln {i:Nat}:au (jN i s Z M) kf↔au (s Z M) fun ds M=>ds.length<=sz/\kf (.exc (.exc i none) Z) M:=by
 unfold jN
 cases s Z M with
 |ok ds M1=>by_cases h:ds.length<=sz<;>simp [h]
 |err=>exact Iff.rfl
 |bad=>exact Iff.rfl
def CF (i:Nat)(kf:Fl->Mem->Prop):Fl->Mem->Prop
 |.next Z,M=>kf (.next (Z.set i none)) M
 |.ret d,M=>kf (.ret d) M
 |.exc _ _,_=>False
def La (i:Nat)(h:GS)(kf:Fl->Mem->Prop):Fl->Mem->Prop
 |.exc x Z,M=>au (h (Z.set i (some x)) M) (CF i kf)
 |fl,M=>kf fl M
@[simp] theorem zT {i:Nat}{h:GS}:au (uV sa i h Z M) kf↔au (sa Z M) (La i h kf):=by
 simp only [uV,bR];refine iff_of_eq ?_;congr 1;funext fl M
 cases fl with
 | exc x Z =>
   show au ((h (Z.set i (some x)) M).bind (Bh i)) kf=au (h (Z.set i (some x)) M) (CF i kf)
   simp only [bR];congr 1;funext fl M;cases fl<;>rfl
 |next Z=>rfl
 |ret d=>rfl
theorem yz {α:Type}(f:α->D->Mem->Res α)(ds:List D):∀(m i:Nat) (a:α) (M:Mem),ds.length-i<m->i<=ds.length->gj f (fun _=>some ds) m i a M=Dr f (ds.drop i) a M
 |0,i,a,M,h,_=>absurd h (Nat.not_lt_zero _)
 | m + 1, i, a, M, h, hi => by
   show (match ds[i]? with|none=>Res.ok a M|some d=>(f a d M).bind (gj f (fun _=>some ds) m (i+1)))=_
   by_cases hlt:i<ds.length
   ·rw [List.drop_eq_getElem_cons hlt,List.getElem?_eq_getElem hlt]
    show (f a ds[i] M).bind _=(f a ds[i] M).bind _
    congr 1
    funext a M
    exact yz f ds m (i+1) a M (by omega) hlt
   ·have e:i=ds.length:=by omega
    subst e
    rw [List.getElem?_eq_none (tqg _),List.drop_length]
    rfl
theorem jv {α:Type}{f:α->D->Mem->Res α}{w:Walk}{ds:List D}{a:α}{k:α->Mem->Prop}(I:Nat->α->Mem->Prop)(hw:∀i a M,I i a M->w M=some ds)(h0:I 0 a M)
 (hs:∀i d a M,ds[i]?=some d->I i a M->au (f a d M) (I (i+1))) (hk:∀a M,I ds.length a M->k a M):au (eF f w a M) k:=by
 have key:∀(m i:Nat) (a:α) (M:Mem),ds.length-i<m->i<=ds.length->I i a M->au (gj f w m i a M) k:=by
  intro m
  induction m with
  |zero=>intro i a M h;exact absurd h (Nat.not_lt_zero _)
  | succ m ih =>
    intro i a M h hi hI
    show au (match w M with|none=>Res.bad|some ds=>match ds[i]? with|none=>Res.ok a M|some d=>(f a d M).bind (gj f w m (i+1))) k
    rw [hw i a M hI]
    dsimp only
    by_cases hlt:i<ds.length
    ·rw [List.getElem?_eq_getElem hlt]
     simp only [bR]
     exact a7 (hs i ds[i] a M (List.getElem?_eq_getElem hlt) hI) fun a' M' h'=>ih (i+1) a' M' (by omega) hlt h'
    ·have e:i=ds.length:=by omega
     subst e
     rw [List.getElem?_eq_none (tqg _)]
     exact hk a M hI
 unfold eF
 rw [hw 0 a M h0]
 exact key _ 0 a M (by simp) (Nat.zero_le _) h0
theorem fP {t:dD}{w:Walk}{gb:GS}{ds:List D}(I:Nat->Env->Mem->Prop)(hw:∀i Z M,I i Z M->w M=some ds)(h0:I 0 Z M)
 (hs:∀i d Z M,ds[i]?=some d->I i Z M->∃ρ1,c7 t d Z=some ρ1/\au (gb ρ1 M) fun fl M=>∃ρ',fl=.next ρ'/\I (i+1) ρ' M) (hk:∀Z M,I ds.length Z M->kf (.next Z) M):au (eF (j6 t gb) w (.next Z) M) kf:=by
 refine jv (fun i fl M=>∃Z,fl=.next Z/\I i Z M) (fun i fl M ⟨Z,_,h⟩=>hw i Z M h) ⟨Z,rfl,h0⟩ ?_ ?_
 ·rintro i d fl M hd ⟨Z,rfl,hI⟩
  obtain ⟨ρ1,e,h⟩:=hs i d Z M hd hI
  simp only [j6,bR,ma,e]
  exact ⟨ρ1,rfl,h⟩
 ·rintro fl M ⟨Z,rfl,hI⟩
  exact hk Z M hI
@[simp] theorem l9 {tg:dD}{w:GW}{gb:GS}:au (iw tg w gb Z M) kf↔au (w Z M) fun w M=>au (eF (j6 tg gb) w (.next Z) M) kf:=by simp [iw]
@[simp] theorem iA {m:Bool}{n:Nat}{tg:dD}{w:GW}{g:GB}:au (bX m n tg w g Z M) k↔au (w Z M) fun w M=>au (eF (d7 tg g (List.replicate n none++Z)) w [] M) fun acc M=>au (cf m acc M) k:=by simp [bX]
variable {kl:List D->Mem->Prop}
@[simp] theorem Dx {ge:GE}{acc:List D}:au (cg ge Z acc M) kl↔au (ge Z M) fun x M=>acc.length<sz/\kl (acc++[x]) M:=by
 simp only [cg,bR];refine iff_of_eq ?_;congr 1;funext x M;split<;>simp [*]
theorem comp_map {tg:dD}{w:Walk}{ge:GE}{ds:List D}{ρ0:Env}(I:Nat->List D->Mem->Prop)(hz:ds.length<=sz)(hw:∀i acc M,I i acc M->w M=some ds)(h0:I 0 [] M)
 (hs:∀i d acc M,ds[i]?=some d->acc.length=i->I i acc M->∃ρ1,c7 tg d ρ0=some ρ1/\au (ge ρ1 M) fun x M=>I (i+1) (acc++[x]) M) (hk:∀acc M,acc.length=ds.length->I ds.length acc M->kl acc M) :
 au (eF (d7 tg (cg ge) ρ0) w [] M) kl:=by
 refine jv (fun i acc M=>acc.length=i/\I i acc M) (fun i acc M h=>hw i acc M h.2) ⟨rfl,h0⟩ ?_ (fun acc M h=>hk acc M h.1 h.2)
 rintro i d acc M hd ⟨hl,hI⟩
 obtain ⟨ρ1,e,h⟩:=hs i d acc M hd hl hI
 have hi:i<ds.length:=(List.getElem?_eq_some_iff.mp hd).1
 simp only [d7,bR,ma,e,Dx]
 exact ⟨ρ1,rfl,a7 h fun x M h=>⟨by omega,by simp [hl],h⟩⟩
end
theorem aP {t:GT}{A rest:GS}{Z:Env}{M:Mem}{k:Fl->Mem->Prop}(ht:t Z M=.ok false M)(h:au (rest Z M) k):au (aj (bo t A ax) rest Z M) k:=by
 simp only [aQ,kY]
 rw [ht]
 exact h
theorem bW {t:GT}{e:GE}{rest:GS}{Z:Env}{M:Mem}{v:D}{k:Fl->Mem->Prop}(ht:t Z M=.ok true M)(he:e Z M=.ok v M)(h:k (.ret v) M):au (aj (bo t (aj (bh e) ax) ax) rest Z M) k:=by
 simp only [aQ,kY,cF]
 rw [ht]
 show au (e Z M) _
 rw [he]
 exact h
theorem d8 {e:GE}{Z:Env}{M:Mem}{v:D}{k:Fl->Mem->Prop}(he:e Z M=.ok v M)(h:k (.ret v) M):au (aj (bh e) ax Z M) k:=by
 simp only [aQ,cF]
 rw [he]
 exact h
theorem dF {r:Res Fl}{v:D}{M:Mem}(e:r=.ok (.ret v) M):au r (gm fun x M'=>x=v/\M'=M):=by rw [e];exact ⟨rfl,rfl⟩
end LD
namespace LD
open PySem
structure HasM0 (P:Nat->Option Df):Prop where
 is_between:P 0=some ⟨3,3,fT⟩
 is_word:P 1=some ⟨2,2,jS⟩
 is_place:P 2=some ⟨2,2,jl⟩
 is_cost:P 3=some ⟨1,1,jT⟩
 is_tuple_of:P 4=some ⟨2,2,gD⟩
 is_table:P 5=some ⟨2,2,jk⟩
 is_double_table:P 6=some ⟨2,2,eB⟩
 is_turn:P 7=some ⟨3,6,hG⟩
 is_join:P 8=some ⟨3,7,hR⟩
 is_move:P 9=some ⟨3,6,hJ⟩
 is_put:P 10=some ⟨3,6,iP⟩
 is_deed:P 11=some ⟨3,5,hU⟩
 is_machine:P 12=some ⟨1,4,fS⟩
 need_machine:P 13=some ⟨1,1,dw⟩
 is_deed_number:P 16=some ⟨2,2,eX⟩
 need_numbers:P 17=some ⟨2,4,cQ⟩
 need_row:P 18=some ⟨2,2,dX⟩
structure HasM (P:Nat->Option Df):Prop extends HasM0 P where
 turned:P 20=some ⟨2,6,nh⟩
 joined:P 21=some ⟨2,7,nj⟩
 moved:P 22=some ⟨2,6,oS⟩
 put_in:P 23=some ⟨2,6,ni⟩
 done:P 24=some ⟨2,4,qY⟩
 all_standing:P 25=some ⟨3,5,ij⟩
structure HasP0 (P:Nat->Option Df):Prop where
 law_spread:P 28=some ⟨2,6,iH⟩
 law_open:P 29=some ⟨1,4,jI⟩
 law_anew:P 30=some ⟨1,1,jJ⟩
 law_take:P 31=some ⟨2,5,lV⟩
structure HasP (P:Nat->Option Df):Prop extends HasP0 P where
 law_tab:P 32=some ⟨2,6,jm⟩
 law_deed:P 33=some ⟨3,7,iB⟩
 law_machine:P 34=some ⟨4,8,fV⟩
instance coeHasM {P:Nat->Option Df}:Coe (HasM P) (HasM0 P):=⟨HasM.toHasM0⟩
instance coeHasP {P:Nat->Option Df}:Coe (HasP P) (HasP0 P):=⟨HasP.toHasP0⟩
@[simp] theorem NU {d:Option D}{r:Env}:(d::r)[0]?.getD none=d:=rfl
section
variable {M:Mem}{k:D->Mem->Prop}
theorem la {α:Type}{c:Prop}[Decidable c]{r:Res α}{k:α->Mem->Prop}:au (if c then r else .bad) k↔c/\au r k:=by split<;>simp [*]
@[simp] theorem gF {m:Bool}{i j:Int}:au (fR m .add (.int i) (.int j) M) k↔k (.int (i+j)) M:=Iff.rfl
@[simp] theorem qe {m:Bool}{i j:Int}:au (fR m .sub (.int i) (.int j) M) k↔k (.int (i-j)) M:=Iff.rfl
@[simp] theorem qH {m:Bool}{i j:Int}:au (fR m .mul (.int i) (.int j) M) k↔((-(2^64)<i/\i<2^64)\/(-(2^64)<j/\j<2^64))/\k (.int (i*j)) M:=la
@[simp] theorem qI {m:Bool}{i j:Int}:au (fR m .mod (.int i) (.int j) M) k↔0<j/\k (.int (i % j)) M:=la
@[simp] theorem Ni {m:Bool}{i j:Int}:au (fR m .fdiv (.int i) (.int j) M) k↔(0<j/\j<1073741824)/\k (.int (i / j)) M:=la
@[simp] theorem u4 {m:Bool}{i j:Int}:au (fR m .pow (.int i) (.int j) M) k↔(0<=j/\j<=1000000/\i.natAbs<2^64)/\k (.int (i^j.toNat)) M:=la
@[simp] theorem jr {m:Bool}{x y:List D}:au (fR m .add (.tup x) (.tup y) M) k↔(x++y).length<=sz/\k (.tup (x++y)) M:=by
 show au (mT _ _) k↔_
 unfold mT;exact la
@[simp] theorem IS {m:Bool}{x y:List D}:au (fR m .add (.lst x) (.lst y) M) k↔au (cf m (x++y) M) k:=Iff.rfl
@[simp] theorem Nk {i j:Int}:bN .lt (.int i) (.int j) M=some (decide (i<j)):=rfl
@[simp] theorem Nl {i j:Int}:bN .le (.int i) (.int j) M=some (decide (i<=j)):=rfl
@[simp] theorem Nm {i j:Int}:bN .gt (.int i) (.int j) M=some (decide (j<i)):=rfl
@[simp] theorem Nn {i j:Int}:bN .ge (.int i) (.int j) M=some (decide (j<=i)):=rfl
@[simp] theorem NV {i j:Int}:bN .eq (.int i) (.int j) M=some (i==j):=rfl
@[simp] theorem Kh {i j:Int}:bN .ne (.int i) (.int j) M=some (!(i==j)):=rfl
@[simp] theorem Nu {b:Bool}:lN M (.bl b)=some b:=rfl
@[simp] theorem MZ {ds:List D}:lN M (.tup ds)=some (!ds.isEmpty):=rfl
@[simp] theorem Na {ds:List D}:lN M (.lst ds)=some (!ds.isEmpty):=rfl
@[simp] theorem rW {ds:List D}:au (gp .len [.tup ds] M) k↔k (.int ds.length) M:=Iff.rfl
@[simp] theorem EI {ds:List D}:au (gp .len [.lst ds] M) k↔k (.int ds.length) M:=Iff.rfl
@[simp] theorem xD {ds:List D}:au (gp .all [.lst ds] M) k↔∃bs,boolsOf ds=some bs/\k (.bl (bs.all id)) M:=by
 show au (match boolsOf ds with|some bs=>_|none=>_) k↔_
 cases boolsOf ds<;>simp
@[simp] theorem Kt {ds:List D}:au (gp .tuple [.lst ds] M) k↔k (.tup ds) M:=Iff.rfl
@[simp] theorem qb {j:Nat}:au (gp .tuple [.cell j] M) k↔∃ds,M[j]?=some ds/\k (.tup ds) M:=by
 show au (match M[j]? with|some xs=>_|none=>_) k↔_
 cases M[j]?<;>simp
@[simp] theorem Co {m:Bool}{ds:List D}:au (gp (.list m) [.lst ds] M) k↔au (cf m ds M) k:=Iff.rfl
@[simp] theorem iT {ds:List D}{i:Int}:cY (.tup ds) (.int i) M=(cb ds.length i).bind fun j=>ds[j]?:=rfl
@[simp] theorem xn {ds:List D}{i:Int}:cY (.lst ds) (.int i) M=(cb ds.length i).bind fun j=>ds[j]?:=rfl
@[simp] theorem MC {j:Nat}{i:Int}:cY (.cell j) (.int i) M=(M[j]?).bind fun ds=>(cb ds.length i).bind fun j=>ds[j]?:=rfl
theorem fo {n i:Nat}(h:i<n):cb n (i:Int)=some i:=by
 unfold cb;rw [if_pos (Int.natCast_nonneg i),if_pos (by exact_mod_cast h)];rfl
theorem EM {n:Nat}(h:0<n):cb n (-1)=some (n-1):=by
 unfold cb
 rw [if_neg (by omega),if_pos (by omega)]
 congr 1;omega
end
theorem aS {α:Type}{r:Res α}{d:α}{M:Mem}(h:au r fun x M'=>x=d/\M'=M):r=.ok d M:=by
 obtain ⟨a,M',e,rfl,rfl⟩:=qz.mp h
 exact e
theorem aE {r:Res D}{d:D}{M:Mem}(h:au r fun x M'=>x=d/\M'=M):r=.ok d M:=by
 obtain ⟨a,M',e,rfl,rfl⟩:=qz.mp h
 exact e
section
variable {P:Nat->Option Df}(h:HasM0 P){M:Mem}
include h
theorem xO (n:Nat)(t lo hi:Int):aw P (n+1) 0 [.int t,.int lo,.int hi] M=.ok (.bl (decide (lo<=t)&&decide (t<=hi))) M:=by
 refine aE (aL h.is_between rfl ?_)
 simp [fT,cx]
 by_cases h1:lo<=t<;>simp [h1]<;>omega
end
theorem jR {tg:dD}{w:Walk}{ge:GE}{ds:List D}{ρ0:Env}{M:Mem}{kl:List D->Mem->Prop}(f:D->D)(hz:ds.length<=sz)(hw:w M=some ds)(hs:∀d∈ds,∃ρ1,c7 tg d ρ0=some ρ1/\ge ρ1 M=.ok (f d) M)(hk:kl (ds.map f) M) :
 au (eF (d7 tg (cg ge) ρ0) w [] M) kl:=by
 refine comp_map (fun i acc M'=>M'=M/\acc=(ds.take i).map f) hz (fun i acc M' h=>by rw [h.1];exact hw) ⟨rfl,rfl⟩ ?_ ?_
 ·rintro i d acc M' hd _ ⟨rfl,rfl⟩
  obtain ⟨ρ1,e1,e2⟩:=hs d (List.mem_of_getElem? hd)
  refine ⟨ρ1,e1,?_⟩
  rw [e2]
  refine ⟨rfl,?_⟩
  have hi:i<ds.length:=(List.getElem?_eq_some_iff.mp hd).1
  rw [List.take_succ,hd]
  simp
 ·rintro acc M' _ ⟨rfl,rfl⟩
  simpa using hk
abbrev nD (n:Nat):D:=.int (n:Int)
def a8 (l:List Nat):D:=.tup (l.map nD)
inductive bB where
 |turn (at_:Nat) (tab:List Nat) (cost:Nat)
 |join (at_ other:Nat) (tab:List (List Nat)) (cost:Nat)
 |move (at_ other cost:Nat)
 |put (at_ word cost:Nat)
def bB.d:bB->D
 |.turn a t c=>.tup [.str "turn",nD a,a8 t,nD c]
 |.join a o t c=>.tup [.str "join",nD a,nD o,.tup (t.map a8),nD c]
 |.move a o c=>.tup [.str "move",nD a,nD o,nD c]
 |.put a w c=>.tup [.str "put",nD a,nD w,nD c]
def bB.cost:bB->Nat
 |.turn _ _ c=>c
 |.join _ _ _ c=>c
 |.move _ _ c=>c
 |.put _ _ c=>c
structure aZ where
 words:Nat
 places:Nat
 deeds:List bB
def aZ.d (m:aZ):D:=.tup [nD m.words,nD m.places,.tup (m.deeds.map bB.d)]
def kn (w:Nat)(t:List Nat):Prop:=t.length=w/\∀x∈t,x<w
def ia (c:Nat):Prop:=1<=c/\c<=3
def c9 (w p:Nat):bB->Prop
 |.turn a t c=>a<p/\kn w t/\ia c
 |.join a o t c=>a<p/\o<p/\(t.length=w/\∀x∈t,kn w x)/\ia c
 |.move a o c=>a<p/\o<p/\ia c
 |.put a x c=>a<p/\x<w/\ia c
structure br (m:aZ):Prop where
 w2:2<=m.words
 w4:m.words<=4
 p1:1<=m.places
 p2:m.places<=2
 d1:1<=m.deeds.length
 d6:m.deeds.length<=6
 ok:∀d∈m.deeds,c9 m.words m.places d
theorem aM {n:Nat}(h:n<=100000):n<=sz:=tqh h (by decide)
theorem Mr:dS.lookup (Str.ofString "turn")=some 7:=by decide +kernel
theorem Mq:dS.lookup (Str.ofString "join")=some 8:=by decide +kernel
theorem Mp:dS.lookup (Str.ofString "move")=some 9:=by decide +kernel
theorem Mo:dS.lookup (Str.ofString "put")=some 10:=by decide +kernel
end LD
namespace LD
open PySem
section
variable {Z:Env}{M:Mem}{a b:GE}{s:GA}{k:D->Mem->Prop}{kf:Fl->Mem->Prop}{t u:GT}{A rest:GS}
theorem dO {t rest:GS}{ρ':Env}(e:t Z M=.ok (.next ρ') M)(h:au (rest ρ' M) kf):au (aj t rest Z M) kf:=by
 simp only [aQ]
 rw [e]
 exact h
theorem aI {x:D}{xs:List D}(ea:a Z M=.ok x M)(es:s Z M=.ok xs M):ag a s Z M=.ok (x::xs) M:=by
 unfold ag
 rw [ea]
 show (s Z M).bind _=_
 rw [es]
 rfl
theorem je {xs:List D}(es:s Z M=.ok xs M)(hl:xs.length<=100):bD false s Z M=.ok (.lst xs) M:=by
 unfold bD
 rw [es]
 show (if xs.length<=sz then (if false=true then _ else Res.ok (D.lst xs) M) else .bad)=_
 rw [if_pos (aM (by omega))]
 rfl
theorem vW {xs ys:List D}(ea:a Z M=.ok (.lst xs) M)(eb:b Z M=.ok (.lst ys) M)(hl:(xs++ys).length<=100):aH false .add a b Z M=.ok (.lst (xs++ys)) M:=by
 unfold aH
 rw [ea]
 show (b Z M).bind _=_
 rw [eb]
 show (if (xs++ys).length<=sz then (if false=true then _ else Res.ok (D.lst (xs++ys)) M) else .bad)=_
 rw [if_pos (aM (by omega))]
 rfl
theorem fx {i:Nat}{x:D}(e:a Z M=.ok x M):aV (.one i) a Z M=.ok (.next (Z.set i (some x))) M:=by
 unfold aV
 rw [e]
 rfl
theorem ba {j:Nat}{x:D}(h:Z[j]?.getD none=some x):ah j Z M=.ok x M:=by
 unfold ah
 rw [h]
 rfl
theorem dI {f:Nat}{c:Call}{xs:List D}(e:s Z M=.ok xs M):aA f c s Z M=c f xs M:=by
 unfold aA;rw [e];rfl
theorem ng {f i:Nat}{c:Call}{x:D}{r:Res D}(h:Z[i]?.getD none=some x)(e:c f [x] M=r):aA f c (ag (ah i) av) Z M=r:=(dI (aI (ba h) rfl)).trans e
theorem kj {f i j:Nat}{c:Call}{x y:D}{r:Res D}(h:Z[i]?.getD none=some x)(h2:Z[j]?.getD none=some y)(e:c f [x,y] M=r):aA f c (ag (ah i) (ag (ah j) av)) Z M=r:=(dI (aI (ba h) (aI (ba h2) rfl))).trans e
theorem Kj {f i j l:Nat}{c:Call}{x y z:D}{r:Res D}(h:Z[i]?.getD none=some x)(h2:Z[j]?.getD none=some y)(h3:Z[l]?.getD none=some z)(e:c f [x,y,z] M=r):aA f c (ag (ah i) (ag (ah j) (ag (ah l) av))) Z M=r:=(dI (aI (ba h) (aI (ba h2) (aI (ba h3) rfl)))).trans e
theorem cS {i:Nat}(h:au (a Z M) k)(hk:∀x M',k x M'->au (rest (Z.set i (some x)) M') kf):au (aj (aV (.one i) a) rest Z M) kf:=by
 obtain ⟨x,M',e,q⟩:=qz.mp h
 simp only [aQ]
 unfold aV
 rw [e]
 exact hk x M' q
theorem fq (ht:t Z M=.ok true M)(h:au (A Z M) (lA rest kf)):au (aj (bo t A ax) rest Z M) kf:=by
 simp only [aQ,kY]
 rw [ht]
 exact h
theorem dR {b:Bool}(ht:t Z M=.ok b M)(h1:b=true->au (A Z M) (lA rest kf))(h2:b=false->au (rest Z M) kf):au (aj (bo t A ax) rest Z M) kf:=by
 cases b with
 |true=>exact fq ht (h1 rfl)
 |false=>exact aP ht (h2 rfl)
theorem qD {b:Bool}(h:t Z M=.ok b M):cn t Z M=.ok (!b) M:=by
 unfold cn
 rw [h]
 rfl
theorem lZ {b:Bool}(h:a Z M=.ok (.bl b) M):aJ a Z M=.ok b M:=by
 unfold aJ
 rw [h]
 rfl
theorem JC (h1:t Z M=.ok false M)(h2:u Z M=.ok false M):fi t u Z M=.ok false M:=by
 unfold fi
 rw [h1]
 exact h2
theorem JD {x y:Bool}(h1:t Z M=.ok x M)(h2:u Z M=.ok y M):fi t u Z M=.ok (x||y) M:=by
 unfold fi
 rw [h1]
 cases x with
 |true=>rfl
 |false=>exact h2
theorem IQ {b:Bool}(h1:t Z M=.ok b M)(h2:b=true->u Z M=.ok false M):gP t u Z M=.ok false M:=by
 unfold gP
 rw [h1]
 cases b with
 |true=>exact h2 rfl
 |false=>rfl
theorem Fq {x y:Bool}(h1:t Z M=.ok x M)(h2:u Z M=.ok y M):gP t u Z M=.ok (x&&y) M:=by
 unfold gP
 rw [h1]
 cases x with
 |true=>exact h2
 |false=>rfl
theorem jq {x y:Bool}(h1:a Z M=.ok (.bl x) M)(h2:x=true->b Z M=.ok (.bl y) M):fB a b Z M=.ok (.bl (x&&y)) M:=by
 unfold fB
 rw [h1]
 cases x with
 |true=>exact h2 rfl
 |false=>rfl
theorem oz {k:Bool}{x:D}(ht:t Z M=.ok k M)(h1:k=true->a Z M=.ok x M)(h2:k=false->b Z M=.ok x M):ll t a b Z M=.ok x M:=by
 unfold ll
 rw [ht]
 cases k with
 |true=>exact h1 rfl
 |false=>exact h2 rfl
theorem yA {j:Nat}{ds:List D}(e:Z[j]?.getD none=some (.tup ds)):bt .len (ag (ah j) av) Z M=.ok (nD ds.length) M:=by
 unfold bt
 rw [aI (ba e) rfl]
 rfl
theorem JK {i j:Int}(h1:a Z M=.ok (.int i) M)(h2:b Z M=.ok (.int j) M):aJ (aW .ne a b) Z M=.ok (!(i==j)) M:=by
 refine lZ ?_
 unfold aW
 rw [h1]
 show (b Z M).bind _=_
 rw [h2]
 rfl
theorem IK {l h i:Int}{c:GE}(h1:a Z M=.ok (.int l) M)(h2:b Z M=.ok (.int i) M)(h3:c Z M=.ok (.int h) M):lS .le .le a b c Z M=.ok (.bl (decide (l<=i)&&decide (i<=h))) M:=by
 unfold lS
 rw [h1]
 show (b Z M).bind _=_
 rw [h2]
 show (if decide (l<=i)=true then _ else _)=_
 cases decide (l<=i) with
 | true =>
   show (c Z M).bind _=_
   rw [h3]
   rfl
 |false=>rfl
end
theorem xl {t:GT}{A rest:GS}{Z:Env}{M:Mem}{k:Fl->Mem->Prop}{R:Mem->Prop}(ht:au (t Z M) fun b M'=>b=false/\R M')(h:∀M',R M'->au (rest Z M') k):au (aj (bo t A ax) rest Z M) k:=by
 simp only [aQ,kY]
 obtain ⟨b,M',e,rfl,r⟩:=qz.mp ht
 rw [e]
 exact h M' r
end LD
namespace LD
open PySem
def Th:Nat->Nat->D->Prop
 |_,_,.non=>True
 |_,_,.bl _=>True
 |_,_,.int _=>True
 |_,L,.str x=>x.cps.size<=L/\x.cps.all (· < 0x110000)=true
 |n+1,L,.tup ds=>ds.length<=L/\∀d∈ds,Th n L d
 |n+1,L,.lst ds=>ds.length<=L/\∀d∈ds,Th n L d
 |_,_,_=>False
theorem Th.mono:∀{n n' L L':Nat}{d:D},Th n L d->n<=n'->L<=L'->Th n' L' d
 |n,n',L,L',.non,_,_,_=>by cases n'<;>trivial
 |n,n',L,L',.bl _,_,_,_=>by cases n'<;>trivial
 |n,n',L,L',.int _,_,_,_=>by cases n'<;>trivial
 | n, n', L, L', .str x, h, _, l => by
   have h:x.cps.size<=L/\x.cps.all (· < 0x110000)=true:=by cases n<;>exact h
   have:x.cps.size<=L'/\x.cps.all (· < 0x110000)=true:=⟨tqh h.1 l,h.2⟩
   cases n'<;>exact this
 |n+1,n'+1,L,L',.tup ds,h,a,l=>⟨tqh h.1 l,fun d hd=>Th.mono (h.2 d hd) (Nat.le_of_succ_le_succ a) l⟩
 |n+1,n'+1,L,L',.lst ds,h,a,l=>⟨tqh h.1 l,fun d hd=>Th.mono (h.2 d hd) (Nat.le_of_succ_le_succ a) l⟩
 |n+1,0,L,L',.tup ds,h,a,l=>by omega
 |n+1,0,L,L',.lst ds,h,a,l=>by omega
 |0,n',L,L',.tup ds,h,a,l=>h.elim
 |0,n',L,L',.lst ds,h,a,l=>h.elim
 |n,n',L,L',.frz _,h,_,_=>by cases n<;>exact h.elim
 |n,n',L,L',.cell _,h,_,_=>by cases n<;>exact h.elim
 |n,n',L,L',.fn _,h,_,_=>by cases n<;>exact h.elim
 |n,n',L,L',.exc _ _,h,_,_=>by cases n<;>exact h.elim
theorem Th.pure:∀{n L:Nat}{d:D},Th n L d->aN n d=true
 |n,L,.non,_=>by cases n<;>rfl
 |n,L,.bl _,_=>by cases n<;>rfl
 |n,L,.int _,_=>by cases n<;>rfl
 |n,L,.str x,h=>by cases n<;>exact h.2
 | n + 1, L, .tup ds, h => by
   show ds.all (aN n)=true
   rw [List.all_eq_true]
   exact fun d hd=>(h.2 d hd).pure
 | n + 1, L, .lst ds, h => by
   show ds.all (aN n)=true
   rw [List.all_eq_true]
   exact fun d hd=>(h.2 d hd).pure
 |0,L,.tup ds,h=>h.elim
 |0,L,.lst ds,h=>h.elim
 |n,L,.frz _,h=>by cases n<;>exact h.elim
 |n,L,.cell _,h=>by cases n<;>exact h.elim
 |n,L,.fn _,h=>by cases n<;>exact h.elim
 |n,L,.exc _ _,h=>by cases n<;>exact h.elim
theorem Th.view {n L:Nat}{d:D}{M:Mem}(h:Th n L d):view M d=d:=by
 cases d<;>first|rfl|(cases n<;>exact h.elim)
theorem Th.tup {n L:Nat}{ds:List D}(h:Th n L (.tup ds)):ds.length<=L/\∀d∈ds,Th n L d:=by
 cases n with
 |zero=>exact h.elim
 |succ n=>exact ⟨h.1,fun d hd=>(h.2 d hd).mono (Nat.le_succ n) (tqg L)⟩
def bF (lo hi:Int):D->Bool
 |.int i=>decide (lo<=i)&&decide (i<=hi)
 |_=>false
def eZ (w:Nat):D->Bool
 |.tup ds=>ds.length==w
 |_=>false
def jU (w:Nat):D->Bool
 |.tup ds=>ds.length==w&&ds.all (bF 0 ((w:Int)-1))
 |_=>false
def lJ (w:Nat):D->Bool
 |.tup ds=>ds.length==w&&ds.all (jU w)
 |_=>false
def lz (w p:Nat):List D->Bool
 |[a,t,c]=>bF 0 ((p:Int)-1) a&&(jU w t&&bF 1 3 c)
 |_=>false
def jG (w p:Nat):List D->Bool
 |[a,o,t,c]=>bF 0 ((p:Int)-1) a&&(bF 0 ((p:Int)-1) o&&(lJ w t&&bF 1 3 c))
 |_=>false
def kd (w p:Nat):List D->Bool
 |[a,o,c]=>bF 0 ((p:Int)-1) a&&(bF 0 ((p:Int)-1) o&&bF 1 3 c)
 |_=>false
def nK (w p:Nat):List D->Bool
 |[a,x,c]=>bF 0 ((p:Int)-1) a&&(bF 0 ((w:Int)-1) x&&bF 1 3 c)
 |_=>false
def dj (w p:Nat)(s:Str)(ds:List D):Bool:=
 if s="turn" then lz w p ds else if s="join" then jG w p ds else if s="move" then kd w p ds else if s="put" then nK w p ds else false
def iG (w p:Nat):D->Bool
 |.tup (.str s::ds)=>dj w p s ds
 |_=>false
def gZ:D->Bool
 |.tup ds=>decide (1<=ds.length)&&decide (ds.length<=6)
 |_=>false
def nR:D->List D
 |.tup ds=>ds
 |_=>[]
def gk:D->Nat
 |.int i=>i.toNat
 |_=>0
theorem oP {lo hi:Int}{d:D}(h:bF lo hi d=true)(h0:0<=lo):d=nD (gk d)/\lo<=(gk d:Int)/\(gk d:Int)<=hi:=by
 cases d with
 | int i =>
   simp [bF] at h
   refine ⟨?_,?_⟩
   ·show D.int i=D.int ((i.toNat:Nat):Int)
    rw [Int.toNat_of_nonneg (by omega)]
   ·show lo<=((i.toNat:Nat):Int)/\((i.toNat:Nat):Int)<=hi
    rw [Int.toNat_of_nonneg (by omega)]
    exact h
 |_=>cases h
def fH:D->Bool
 |.tup [a,b,c]=>bF 2 4 a&&(bF 1 2 b&&(gZ c&&(nR c).all (iG (gk a) (gk b))))
 |_=>false
theorem vw {d:D}(h:eZ 3 d=false):fH d=false:=by
 match d,h with
 |.tup [a,b,c],h=>cases h
 |.tup [],_=>rfl
 |.tup [_],_=>rfl
 |.tup [_,_],_=>rfl
 |.tup (_::_::_::_::r),_=>rfl
 |.non,_=>rfl
 |.bl _,_=>rfl
 |.int _,_=>rfl
 |.str _,_=>rfl
 |.lst _,_=>rfl
 |.frz _,_=>rfl
 |.cell _,_=>rfl
 |.fn _,_=>rfl
 |.exc _ _,_=>rfl
structure y6 (P:Nat->Option Df):Prop where
 is_between:P 0=some ⟨3,3,fT⟩
 is_word:P 1=some ⟨2,2,jS⟩
 is_place:P 2=some ⟨2,2,jl⟩
 is_cost:P 3=some ⟨1,1,jT⟩
 is_tuple_of:P 4=some ⟨2,2,gD⟩
 is_table:P 5=some ⟨2,2,jk⟩
 is_double_table:P 6=some ⟨2,2,eB⟩
 is_turn:P 7=some ⟨3,6,hG⟩
 is_join:P 8=some ⟨3,7,hR⟩
 is_move:P 9=some ⟨3,6,hJ⟩
 is_put:P 10=some ⟨3,6,iP⟩
 is_deed:P 11=some ⟨3,5,hU⟩
 is_machine:P 12=some ⟨1,4,fS⟩
theorem lT (f:D->Bool):∀ds:List D,boolsOf (ds.map fun d=>.bl (f d))=some (ds.map f)
 |[]=>rfl
 |d::r=>by simp [boolsOf,lT f r]
theorem all_eq {w:GW}{ge:GE}{Z:Env}{M:Mem}{ds:List D}(f:D->Bool)(hw:au (w Z M) fun wk M'=>M'=M/\wk M=some ds)(hz:ds.length<=sz)(he:∀d∈ds,ge (some d::Z) M=.ok (.bl (f d)) M) :
 bt .all (ag (bX false 1 (.one 0) w (cg ge)) av) Z M=.ok (.bl (ds.all f)) M:=by
 refine aE ?_
 simp only [dW,bp,iA,bx]
 refine a7 hw fun wk M' ⟨e1,e2⟩=>?_
 subst e1
 refine jR (fun d=>.bl (f d)) hz e2 (fun d hd=>⟨some d::Z,rfl,he d hd⟩) ?_
 simp only [cO,List.length_map,xD]
 refine ⟨hz,_,lT f ds,?_,trivial⟩
 congr 1
 rw [List.all_map];rfl
theorem vE {k L:Nat}{x:D}(hx:Th k L x){t:Ty}(h:((¬ ∃s,x=.str s)/\t=.str\/(¬ ∃s,x=.tup s)/\t=.tuple)):cx t x=some false:=by
 rcases h with ⟨h,rfl⟩|⟨h,rfl⟩<;>cases x<;>first|rfl|exact absurd ⟨_,rfl⟩ h|(cases k<;>exact hx.elim)
section
variable {P:Nat->Option Df}(h:y6 P){M:Mem}{k L:Nat}{d:D}
include h
theorem kr (n:Nat)(hd:Th k L d)(lo hi:Int):aw P (n+1) 0 [d,.int lo,.int hi] M=.ok (.bl (bF lo hi d)) M:=by
 cases d with
 | int t =>
   refine aE (aL h.is_between rfl ?_)
   simp [fT,cx,bF]
   by_cases h1:lo<=t<;>simp [h1]<;>omega
 |fn j=>cases k<;>exact hd.elim
 |exc y p=>cases k<;>exact hd.elim
 |_=>exact aE (aL h.is_between rfl (dF rfl))
theorem pB (n:Nat){w:Nat}(hd:Th k L d):aw P (n+2) 1 [nD w,d] M=.ok (.bl (bF 0 ((w:Int)-1) d)) M:=by
 refine aE (aL h.is_word rfl ?_)
 simp [jS,kr h _ hd]
theorem iR (n:Nat){w:Nat}(hd:Th k L d):aw P (n+2) 2 [nD w,d] M=.ok (.bl (bF 0 ((w:Int)-1) d)) M:=by
 refine aE (aL h.is_place rfl ?_)
 simp [jl,kr h _ hd]
theorem mO (n:Nat)(hd:Th k L d):aw P (n+2) 3 [d] M=.ok (.bl (bF 1 3 d)) M:=by
 refine aE (aL h.is_cost rfl ?_)
 simp [jT,kr h _ hd]
theorem l5 (n:Nat){w:Nat}(hd:Th k L d):aw P (n+1) 4 [nD w,d] M=.ok (.bl (eZ w d)) M:=by
 refine aE (aL h.is_tuple_of rfl ?_)
 cases d with
 |fn j=>cases k<;>exact hd.elim
 |exc y p=>cases k<;>exact hd.elim
 | tup ds =>
   simp [gD,cx,eZ]
   by_cases e:ds.length=w
   ·simp [e]
   ·have:¬ ((ds.length:Int)=(w:Int)):=by omega
    simp [e,this]
 |_=>exact dF rfl
theorem wL (n:Nat){w:Nat}(hd:Th k L d)(hL:L<=100):aw P (n+3) 5 [nD w,d] M=.ok (.bl (jU w d)) M:=by
 refine aE (aL h.is_table rfl ?_)
 have e:=l5 h (n+1) (w:=w) (M:=M) hd
 simp only [jk,aQ,cF,Dt,dP,bp,bx,bc,List.map_cons,List.map_nil,List.cons_append,List.nil_append,List.getElem?_cons_zero,List.getElem?_cons_succ,Option.getD_some,Option.some.injEq,exists_eq_left']
 rw [e]
 refine ⟨_,rfl,?_⟩
 cases d with
 | tup ds =>
   have ht:=hd.tup
   by_cases el:ds.length=w
   ·have:eZ w (.tup ds)=true:=by simp [eZ,el]
    rw [this,if_pos rfl,all_eq (ds:=ds) (bF 0 ((w:Int)-1)) (by simp;exact ⟨rfl,rfl⟩) (aM (by omega)) (fun d hd=>aE (by simp [pB h n (ht.2 d hd)]))]
    exact ⟨by simp [jU,el],rfl⟩
   ·have:eZ w (.tup ds)=false:=by simp [eZ,el]
    rw [this,if_neg (by simp)]
    exact ⟨by simp [jU,el],rfl⟩
 |_=>exact ⟨rfl,rfl⟩
theorem BE (n:Nat){w:Nat}(hd:Th k L d)(hL:L<=100):aw P (n+4) 6 [nD w,d] M=.ok (.bl (lJ w d)) M:=by
 refine aE (aL h.is_double_table rfl ?_)
 have e:=l5 h (n+2) (w:=w) (M:=M) hd
 simp only [eB,aQ,cF,Dt,dP,bp,bx,bc,List.map_cons,List.map_nil,List.cons_append,List.nil_append,List.getElem?_cons_zero,List.getElem?_cons_succ,Option.getD_some,Option.some.injEq,exists_eq_left']
 rw [e]
 refine ⟨_,rfl,?_⟩
 cases d with
 | tup ds =>
   have ht:=hd.tup
   by_cases el:ds.length=w
   ·have:eZ w (.tup ds)=true:=by simp [eZ,el]
    rw [this,if_pos rfl,all_eq (ds:=ds) (jU w) (by simp;exact ⟨rfl,rfl⟩) (aM (by omega)) (fun d hd=>aE (by simp [wL h n (ht.2 d hd) hL]))]
    exact ⟨by simp [lJ,el],rfl⟩
   ·have:eZ w (.tup ds)=false:=by simp [eZ,el]
    rw [this,if_neg (by simp)]
    exact ⟨by simp [lJ,el],rfl⟩
 |_=>exact ⟨rfl,rfl⟩
omit h in
theorem qS {j c:Nat}{ds:List D}{Z:Env}(e:Z[j]?.getD none=some (.tup ds))(hc:ds.length≠c):(aJ (aW .ne (bt .len (ag (ah j) av)) (gC (.int (c:Int)))):GT) Z M=.ok true M:=by
 rw [JK (yA e) rfl,beq_eq_false_iff_ne.mpr (by omega)]
 rfl
theorem Bz (n:Nat){w p:Nat}{ds:List D}(hd:∀d∈ds,Th k L d)(hL:L<=100)(hl:ds.length<=100):aw P (n+4) 7 [nD w,nD p,.tup ds] M=.ok (.bl (lz w p ds)) M:=by
 refine aE (aL h.is_turn rfl ?_)
 match ds,hd,hl with
 | [a, t, c], hd, _ =>
   show au (hG (aw P (n+3)) [some (nD w),some (nD p),some (.tup [a,t,c]),none,none,none] M) _
   unfold hG
   refine aP rfl (dO rfl ?_)
   show au _ _
   exact d8 (jq (kj rfl rfl (iR h (n+1) (hd a (.head _)))) fun _=>jq (kj rfl rfl (wL h n (hd t (.tail _ (.head _))) hL)) fun _=>ng rfl (mO h (n+1) (hd c (.tail _ (.tail _ (.head _)))))) ⟨rfl,rfl⟩
 |[],_,_=>exact dF rfl
 |[_],_,_=>exact dF rfl
 |[_,_],_,_=>exact dF rfl
 | a :: b :: c :: d :: r, _, _ =>
   show au (hG (aw P (n+3)) [some (nD w),some (nD p),some (.tup (a::b::c::d::r)),none,none,none] M) _
   exact bW (qS (c:=3) (ds:=a::b::c::d::r) rfl (fun z=>by simp at z)) rfl ⟨rfl,rfl⟩
theorem BD (n:Nat){w p:Nat}{ds:List D}(hd:∀d∈ds,Th k L d)(hL:L<=100)(hl:ds.length<=100):aw P (n+5) 8 [nD w,nD p,.tup ds] M=.ok (.bl (jG w p ds)) M:=by
 refine aE (aL h.is_join rfl ?_)
 match ds,hd,hl with
 | [a, o, t, c], hd, _ =>
   show au (hR (aw P (n+4)) [some (nD w),some (nD p),some (.tup [a,o,t,c]),none,none,none,none] M) _
   unfold hR
   refine aP rfl (dO rfl ?_)
   refine dR (JD (qD (lZ (kj rfl rfl (iR h (n+2) (hd a (.head _)))))) (qD (lZ (kj rfl rfl (iR h (n+2) (hd o (.tail _ (.head _)))))))) (fun e=>?_) fun e=>?_
   ·refine d8 (v:=.bl false) rfl ⟨?_,rfl⟩
    show D.bl false=.bl (_&&(_&&_))
    cases q:bF 0 ((p:Int)-1) a with
    |false=>rfl
    | true =>
      rw [q] at e
      cases q2:bF 0 ((p:Int)-1) o with
      |false=>rfl
      |true=>rw [q2] at e;cases e
   ·refine d8 (jq (kj rfl rfl (BE h n (hd t (.tail _ (.tail _ (.head _)))) hL)) fun _=>ng rfl (mO h (n+2) (hd c (.tail _ (.tail _ (.tail _ (.head _))))))) ⟨?_,rfl⟩
    show _=D.bl (bF 0 ((p:Int)-1) a&&(bF 0 ((p:Int)-1) o&&_))
    cases q:bF 0 ((p:Int)-1) a with
    |false=>rw [q] at e;cases e
    | true =>
      rw [q] at e
      cases q2:bF 0 ((p:Int)-1) o with
      |false=>rw [q2] at e;cases e
      |true=>rfl
 |[],_,_=>exact dF rfl
 |[_],_,_=>exact dF rfl
 |[_,_],_,_=>exact dF rfl
 |[_,_,_],_,_=>exact dF rfl
 | a :: b :: c :: d :: e :: r, _, _ =>
   show au (hR (aw P (n+4)) [some (nD w),some (nD p),some (.tup (a::b::c::d::e::r)),none,none,none,none] M) _
   exact bW (qS (c:=4) (ds:=a::b::c::d::e::r) rfl (fun z=>by simp at z)) rfl ⟨rfl,rfl⟩
theorem BC (n:Nat){w p:Nat}{ds:List D}(hd:∀d∈ds,Th k L d)(hL:L<=100)(hl:ds.length<=100):aw P (n+3) 9 [nD w,nD p,.tup ds] M=.ok (.bl (kd w p ds)) M:=by
 refine aE (aL h.is_move rfl ?_)
 match ds,hd,hl with
 | [a, t, c], hd, _ =>
   show au (hJ (aw P (n+2)) [some (nD w),some (nD p),some (.tup [a,t,c]),none,none,none] M) _
   unfold hJ
   refine aP rfl (dO rfl ?_)
   show au _ _
   exact d8 (jq (kj rfl rfl (iR h n (hd a (.head _)))) fun _=>jq (kj rfl rfl (iR h n (hd t (.tail _ (.head _))))) fun _=>ng rfl (mO h n (hd c (.tail _ (.tail _ (.head _)))))) ⟨rfl,rfl⟩
 |[],_,_=>exact dF rfl
 |[_],_,_=>exact dF rfl
 |[_,_],_,_=>exact dF rfl
 | a :: b :: c :: d :: r, _, _ =>
   show au (hJ (aw P (n+2)) [some (nD w),some (nD p),some (.tup (a::b::c::d::r)),none,none,none] M) _
   exact bW (qS (c:=3) (ds:=a::b::c::d::r) rfl (fun z=>by simp at z)) rfl ⟨rfl,rfl⟩
theorem DQ (n:Nat){w p:Nat}{ds:List D}(hd:∀d∈ds,Th k L d)(hL:L<=100)(hl:ds.length<=100):aw P (n+3) 10 [nD w,nD p,.tup ds] M=.ok (.bl (nK w p ds)) M:=by
 refine aE (aL h.is_put rfl ?_)
 match ds,hd,hl with
 | [a, t, c], hd, _ =>
   show au (iP (aw P (n+2)) [some (nD w),some (nD p),some (.tup [a,t,c]),none,none,none] M) _
   unfold iP
   refine aP rfl (dO rfl ?_)
   show au _ _
   exact d8 (jq (kj rfl rfl (iR h n (hd a (.head _)))) fun _=>jq (kj rfl rfl (pB h n (hd t (.tail _ (.head _))))) fun _=>ng rfl (mO h n (hd c (.tail _ (.tail _ (.head _)))))) ⟨rfl,rfl⟩
 |[],_,_=>exact dF rfl
 |[_],_,_=>exact dF rfl
 |[_,_],_,_=>exact dF rfl
 | a :: b :: c :: d :: r, _, _ =>
   show au (iP (aw P (n+2)) [some (nD w),some (nD p),some (.tup (a::b::c::d::r)),none,none,none] M) _
   exact bW (qS (c:=3) (ds:=a::b::c::d::r) rfl (fun z=>by simp at z)) rfl ⟨rfl,rfl⟩
omit h in
theorem qr {w p:Nat}{ds:List D}:dj w p "turn" ds=lz w p ds:=by unfold dj;rw [if_pos rfl]
omit h in
theorem qp {w p:Nat}{ds:List D}:dj w p "join" ds=jG w p ds:=by unfold dj;rw [if_neg (by decide +kernel),if_pos rfl]
omit h in
theorem qo {w p:Nat}{ds:List D}:dj w p "move" ds=kd w p ds:=by unfold dj;rw [if_neg (by decide +kernel),if_neg (by decide +kernel),if_pos rfl]
omit h in
theorem qm {w p:Nat}{ds:List D}:dj w p "put" ds=nK w p ds:=by unfold dj;rw [if_neg (by decide +kernel),if_neg (by decide +kernel),if_neg (by decide +kernel),if_pos rfl]
omit h in
theorem Ad {w p:Nat}{ds:List D}{s:Str}(e1:¬ s="turn")(e2:¬ s="join")(e3:¬ s="move")(e4:¬ s="put"):dj w p s ds=false:=by unfold dj;rw [if_neg e1,if_neg e2,if_neg e3,if_neg e4]
omit h in
theorem xP {s:Str}(e1:¬ s="turn")(e2:¬ s="join")(e3:¬ s="move")(e4:¬ s="put"):dS.lookup s=none:=by
 unfold dS
 simp only [List.lookup,beq_eq_false_iff_ne.mpr e1,beq_eq_false_iff_ne.mpr e2,beq_eq_false_iff_ne.mpr e3,beq_eq_false_iff_ne.mpr e4]
theorem oJ (n:Nat){w p f:Nat}{s:Str}{ds:List D}{v:Bool}(lk:dS.lookup s=some f)(q:aw P (n+5) f [nD w,nD p,.tup ds] M=.ok (.bl v) M):aw P (n+6) 11 [nD w,nD p,.tup (.str s::ds)] M=.ok (.bl v) M:=by
 refine aE (aL h.is_deed rfl ?_)
 simp [-List.lookup_isSome_iff,hU,cx,cb,lk,eG,a9,cL,cut,q]
theorem CK (n:Nat){w p:Nat}{s:Str}{ds:List D}(lk:dS.lookup s=none):aw P (n+6) 11 [nD w,nD p,.tup (.str s::ds)] M=.ok (.bl false) M:=by
 refine aE (aL h.is_deed rfl ?_)
 have e:(dS.lookup s).isSome=false:=by rw [lk];rfl
 simp [-List.lookup_isSome_iff,-List.lookup_eq_none_iff,-Option.isSome_eq_false_iff,hU,cx,cb,e]
 exact lk
theorem BG (n:Nat){w p:Nat}(hd:Th k L d)(hL:L<=100):aw P (n+6) 11 [nD w,nD p,d] M=.ok (.bl (iG w p d)) M:=by
 cases d with
 |fn j=>cases k<;>exact hd.elim
 |exc y p=>cases k<;>exact hd.elim
 | tup xs =>
   have ht:=hd.tup
   cases xs with
   |nil=>exact aE (aL h.is_deed rfl (dF rfl))
   | cons x ds =>
     have hx:=ht.2 x List.mem_cons_self
     have hds:∀d∈ds,Th k L d:=fun d hd=>ht.2 d (List.mem_cons_of_mem _ hd)
     have hl:ds.length<=100:=by have:=ht.1;simp at this;omega
     by_cases hs:∃s,x=.str s
     ·obtain ⟨s,rfl⟩:=hs
      show _=Res.ok (D.bl (dj w p s ds)) M
      by_cases e1:s="turn"
      ·subst e1
       rw [qr];exact oJ h n Mr (Bz h (n+1) hds hL hl)
      by_cases e2:s="join"
      ·subst e2
       rw [qp];exact oJ h n Mq (BD h n hds hL hl)
      by_cases e3:s="move"
      ·subst e3
       rw [qo];exact oJ h n Mp (BC h (n+2) hds hL hl)
      by_cases e4:s="put"
      ·subst e4
       rw [qm];exact oJ h n Mo (DQ h (n+2) hds hL hl)
      rw [Ad e1 e2 e3 e4]
      exact CK h n (xP e1 e2 e3 e4)
     ·have e1:iG w p (.tup (x::ds))=false:=by cases x<;>first|rfl|exact absurd ⟨_,rfl⟩ hs
      have e2:=vE hx (t:=.str) (.inl ⟨hs,rfl⟩)
      rw [e1]
      refine aE (aL h.is_deed rfl ?_)
      have e3:cx .tuple (.tup (x::ds))=some true:=rfl
      simp [hU,cb,e2,e3]
 |_=>exact aE (aL h.is_deed rfl (dF rfl))
theorem Cm (n:Nat)(hd:Th k L d)(hn:eZ 3 d=false):aw P (n+7) 12 [d] M=.ok (.bl false) M:=by
 refine aE (aL h.is_machine rfl ?_)
 have e:aw P (n+6) 4 [.int 3,d] M=.ok (.bl (eZ 3 d)) M:=l5 h (n+5) (w:=3) (M:=M) hd
 rw [hn] at e
 simp [fS,e]
theorem JM (n:Nat){a b c:D}(hd:Th k L (.tup [a,b,c]))(hL:L<=100):aw P (n+7) 12 [.tup [a,b,c]] M=.ok (.bl (fH (.tup [a,b,c]))) M:=by
 refine aE (aL h.is_machine rfl ?_)
 have ht:=hd.tup.2
 simp only [List.mem_cons,List.not_mem_nil,or_false,forall_eq_or_imp,forall_eq] at ht
 have e:aw P (n+6) 4 [.int 3,.tup [a,b,c]] M=.ok (.bl true) M:=l5 h (n+5) (w:=3) (M:=M) hd
 have b1:=kr h (n+5) (M:=M) ht.1 2 4
 have b2:=kr h (n+5) (M:=M) ht.2.1 1 2
 simp only [fS,aQ,qi,cF,eL,uC,kY,om,fG,Bv,FW,cR,dP,bp,bx,bc,vK,List.map_cons,List.map_nil,List.cons_append,List.nil_append,List.getElem?_cons_zero,List.getElem?_cons_succ,Option.getD_some,Option.some.injEq,exists_eq_left']
 rw [e]
 refine ⟨_,rfl,?_⟩
 rw [if_neg (by simp)]
 refine ⟨_,_,rfl,rfl,_,rfl,?_⟩
 rw [b1]
 refine ⟨_,rfl,?_⟩
 by_cases c1:bF 2 4 a=false
 ·rw [c1,if_pos (by decide),if_pos trivial]
  exact ⟨by simp [fH,c1],rfl⟩
 have c1:bF 2 4 a=true:=by simpa using c1
 rw [c1,if_neg (by simp)]
 refine ⟨_,rfl,?_⟩
 rw [b2]
 refine ⟨_,rfl,?_⟩
 by_cases c2:bF 1 2 b=false
 ·rw [c2,if_pos (by decide)]
  exact ⟨by simp [fH,c2],rfl⟩
 have c2:bF 1 2 b=true:=by simpa using c2
 rw [c2,if_neg (by simp)]
 refine ⟨_,rfl,?_⟩
 obtain ⟨ea,_,_⟩:=oP c1 (by decide)
 obtain ⟨eb,_,_⟩:=oP c2 (by decide)
 cases c with
 |fn j=>exact absurd ht.2.2 (by cases k<;>exact id)
 |exc y p=>exact absurd ht.2.2 (by cases k<;>exact id)
 | tup ds =>
   have hc:=ht.2.2.tup
   refine ⟨true,rfl,true,rfl,?_⟩
   rw [if_neg (by simp)]
   simp only [JY,cR]
   refine dW.mpr (bp.mpr (bc.mpr ⟨_,rfl,bx.mpr (rW.mpr ⟨_,rfl,?_⟩)⟩))
   by_cases l1:(1:Int)<=(ds.length:Int)
   ·rw [decide_eq_true l1,if_pos (by decide)]
    refine ⟨_,rfl,_,rfl,?_⟩
    by_cases l6:(ds.length:Int)<=6
    ·rw [decide_eq_true l6,if_neg (by simp)]
     have lb:gZ (.tup ds)=true:=by simp [gZ];omega
     rw [all_eq (ds:=ds) (iG (gk a) (gk b)) (by simp;exact ⟨rfl,rfl⟩) (aM (by omega)) (fun d hd=>aE (by
      have q:=BG h n (w:=gk a) (p:=gk b) (M:=M) (hc.2 d hd) hL
      rw [<- ea,<- eb] at q
      simp [q]))]
     refine ⟨?_,rfl⟩
     show D.bl (ds.all (iG (gk a) (gk b)))=D.bl (bF 2 4 a&&(bF 1 2 b&&(gZ (.tup ds)&&ds.all (iG (gk a) (gk b)))))
     rw [c1,c2,lb];simp
    ·rw [decide_eq_false l6,if_pos (by decide)]
     refine ⟨?_,rfl⟩
     have lb:gZ (.tup ds)=false:=by simp [gZ];omega
     simp [fH,lb]
   ·rw [decide_eq_false l1,if_neg (by simp)]
    refine ⟨_,rfl,?_⟩
    rw [if_pos (by decide)]
    refine ⟨?_,rfl⟩
    have lb:gZ (.tup ds)=false:=by simp [gZ];omega
    simp [fH,lb]
 | _ =>
   refine ⟨false,rfl,false,rfl,?_⟩
   rw [if_pos (by decide)]
   exact ⟨by simp [fH,gZ],rfl⟩
theorem pC (n:Nat)(hd:Th k L d)(hL:L<=100):aw P (n+7) 12 [d] M=.ok (.bl (fH d)) M:=by
 by_cases hn:eZ 3 d=false
 ·rw [Cm h n hd hn,vw hn]
 ·match d,hd,hn with
  |.tup [a,b,c],hd,_=>exact JM h n hd hL
  |.tup [],_,hn=>exact absurd rfl hn
  |.tup [_],_,hn=>exact absurd rfl hn
  |.tup [_,_],_,hn=>exact absurd rfl hn
  |.tup (_::_::_::_::r),_,hn=>exact absurd (by simp [eZ]) hn
  |.non,_,hn=>exact absurd rfl hn
  |.bl _,_,hn=>exact absurd rfl hn
  |.int _,_,hn=>exact absurd rfl hn
  |.str _,_,hn=>exact absurd rfl hn
  |.lst _,_,hn=>exact absurd rfl hn
  |.frz _,_,hn=>exact absurd rfl hn
  |.cell _,_,hn=>exact absurd rfl hn
  |.fn _,_,hn=>exact absurd rfl hn
  |.exc _ _,_,hn=>exact absurd rfl hn
omit h in
theorem d9 {lo hi:Int}{n:Nat}(h1:lo<=(n:Int))(h2:(n:Int)<=hi):bF lo hi (nD n)=true:=by simp [bF];omega
omit h in
theorem uE {w:Nat}{t:List Nat}(ht:kn w t):jU w (a8 t)=true:=by
 have e:(t.map nD).all (bF 0 ((w:Int)-1))=true:=by
  rw [List.all_eq_true]
  intro x hx
  obtain ⟨i,hi,rfl⟩:=List.mem_map.mp hx
  have:=ht.2 i hi
  exact d9 (by omega) (by omega)
 show ((t.map nD).length==w&&(t.map nD).all (bF 0 ((w:Int)-1)))=true
 rw [e,List.length_map,ht.1];simp
omit h in
theorem AS {w p:Nat}{d:bB}(hd:c9 w p d):iG w p d.d=true:=by
 cases d with
 | turn a t c =>
   obtain ⟨h1,h2,h3⟩:=hd
   unfold ia at h3
   show dj w p "turn" _=true
   rw [qr]
   simp only [lz]
   rw [d9 (by omega) (by omega),uE h2,d9 (by omega) (by omega)];rfl
 | join a o t c =>
   obtain ⟨h1,h2,h3,h4⟩:=hd
   unfold ia at h4
   show dj w p "join" _=true
   rw [qp]
   simp only [jG]
   have e:lJ w (.tup (t.map a8))=true:=by
    have e:(t.map a8).all (jU w)=true:=by
     rw [List.all_eq_true]
     intro x hx
     obtain ⟨i,hi,rfl⟩:=List.mem_map.mp hx
     exact uE (h3.2 i hi)
    show ((t.map a8).length==w&&(t.map a8).all (jU w))=true
    rw [e,List.length_map,h3.1];simp
   rw [d9 (by omega) (by omega),d9 (by omega) (by omega),e,d9 (by omega) (by omega)];rfl
 | move a o c =>
   obtain ⟨h1,h2,h3⟩:=hd
   unfold ia at h3
   show dj w p "move" _=true
   rw [qo]
   simp only [kd]
   rw [d9 (by omega) (by omega),d9 (by omega) (by omega),d9 (by omega) (by omega)];rfl
 | put a o c =>
   obtain ⟨h1,h2,h3⟩:=hd
   unfold ia at h3
   show dj w p "put" _=true
   rw [qm]
   simp only [nK]
   rw [d9 (by omega) (by omega),d9 (by omega) (by omega),d9 (by omega) (by omega)];rfl
omit h in
theorem lC {m:aZ}(hm:br m):fH m.d=true:=by
 have w2:=hm.w2
 have w4:=hm.w4
 have p1:=hm.p1
 have p2:=hm.p2
 have l1:=hm.d1
 have l6:=hm.d6
 have e:(m.deeds.map bB.d).all (iG m.words m.places)=true:=by
  rw [List.all_eq_true]
  intro x hx
  obtain ⟨i,hi,rfl⟩:=List.mem_map.mp hx
  exact AS (hm.ok i hi)
 have e2:gZ (.tup (m.deeds.map bB.d))=true:=by simp [gZ];omega
 show (bF 2 4 (nD m.words)&&(bF 1 2 (nD m.places)&&(gZ (.tup (m.deeds.map bB.d))&&(m.deeds.map bB.d).all (iG m.words m.places))))=true
 rw [d9 (by omega) (by omega),d9 (by omega) (by omega),e,e2];rfl
end
end LD
namespace LD
open PySem
def wG:Nat->Nat->D->Bool
 |_,_,.non=>true
 |_,_,.bl _=>true
 |_,_,.int _=>true
 |_,L,.str x=>decide (x.cps.size<=L)&&x.cps.all (· < 0x110000)
 |n+1,L,.tup ds=>decide (ds.length<=L)&&ds.all (wG n L)
 |n+1,L,.lst ds=>decide (ds.length<=L)&&ds.all (wG n L)
 |_,_,_=>false
theorem uD:∀{n L:Nat}{d:D},wG n L d=true->Th n L d
 |n,L,.non,_=>by cases n<;>trivial
 |n,L,.bl _,_=>by cases n<;>trivial
 |n,L,.int _,_=>by cases n<;>trivial
 | n, L, .str x, h => by
   have q:(decide (x.cps.size<=L)&&x.cps.all (· < 0x110000))=true:=by cases n<;>exact h
   simp only [Bool.and_eq_true,decide_eq_true_eq] at q
   have q:x.cps.size<=L/\x.cps.all (· < 0x110000)=true:=q
   cases n<;>exact q
 | n + 1, L, .tup ds, h => by
   have h:(decide (ds.length<=L)&&ds.all (wG n L))=true:=h
   simp only [Bool.and_eq_true,decide_eq_true_eq] at h
   exact ⟨h.1,fun d hd=>uD (List.all_eq_true.mp h.2 d hd)⟩
 | n + 1, L, .lst ds, h => by
   have h:(decide (ds.length<=L)&&ds.all (wG n L))=true:=h
   simp only [Bool.and_eq_true,decide_eq_true_eq] at h
   exact ⟨h.1,fun d hd=>uD (List.all_eq_true.mp h.2 d hd)⟩
 |0,L,.tup ds,h=>by cases h
 |0,L,.lst ds,h=>by cases h
 |n,L,.frz _,h=>by cases n<;>cases h
 |n,L,.cell _,h=>by cases n<;>cases h
 |n,L,.fn _,h=>by cases n<;>cases h
 |n,L,.exc _ _,h=>by cases n<;>cases h
theorem zu {w:Nat}{t:List Nat}(h:kn w t)(w4:w<=4):Th 2 6 (a8 t):=by
 refine ⟨by have:=h.1;simp;omega,fun d hd=>?_⟩
 obtain ⟨i,_,rfl⟩:=List.mem_map.mp hd
 trivial
theorem t9 {n:Nat}{z:Str}(h:wG 0 6 (.str z)=true):Th n 6 (.str z):=(uD h).mono (Nat.zero_le n) (tqg 6)
theorem jf {n:Nat}{i:Int}:Th n 6 (.int i):=by cases n<;>trivial
theorem Fc {w p:Nat}{d:bB}(h:c9 w p d)(w4:w<=4):Th 4 6 d.d:=by
 cases d with
 | turn a t c =>
   refine ⟨by simp,fun x hx=>?_⟩
   simp only [List.mem_cons,List.not_mem_nil,or_false] at hx
   rcases hx with rfl|rfl|rfl|rfl
   ·exact t9 (by decide +kernel)
   ·exact jf
   ·exact (zu h.2.1 w4).mono (by decide) (by decide)
   ·exact jf
 | join a o t c =>
   refine ⟨by simp,fun x hx=>?_⟩
   simp only [List.mem_cons,List.not_mem_nil,or_false] at hx
   rcases hx with rfl|rfl|rfl|rfl|rfl
   ·exact t9 (by decide +kernel)
   ·exact jf
   ·exact jf
   ·refine ⟨by have:=h.2.2.1.1;simp;omega,fun y hy=>?_⟩
    obtain ⟨z,hz,rfl⟩:=List.mem_map.mp hy
    exact zu (h.2.2.1.2 z hz) w4
   ·exact jf
 | move a o c =>
   refine ⟨by simp,fun x hx=>?_⟩
   simp only [List.mem_cons,List.not_mem_nil,or_false] at hx
   rcases hx with rfl|rfl|rfl|rfl
   ·exact t9 (by decide +kernel)
   all_goals exact jf
 | put a o c =>
   refine ⟨by simp,fun x hx=>?_⟩
   simp only [List.mem_cons,List.not_mem_nil,or_false] at hx
   rcases hx with rfl|rfl|rfl|rfl
   ·exact t9 (by decide +kernel)
   all_goals exact jf
theorem mi {m:aZ}(h:br m):Th 6 6 m.d:=by
 refine ⟨by simp,fun x hx=>?_⟩
 simp only [List.mem_cons,List.not_mem_nil,or_false] at hx
 rcases hx with rfl|rfl|rfl
 ·exact jf
 ·exact jf
 ·refine ⟨by have:=h.d6;simpa using this,fun y hy=>?_⟩
  obtain ⟨z,hz,rfl⟩:=List.mem_map.mp hy
  exact Fc (h.ok z hz) h.w4
theorem HasM0.q {P:Nat->Option Df}(h:HasM0 P):y6 P:=⟨h.is_between,h.is_word,h.is_place,h.is_cost,h.is_tuple_of,h.is_table,h.is_double_table,h.is_turn,h.is_join,h.is_move,h.is_put,h.is_deed,h.is_machine⟩
end LD
namespace LD
open PySem
structure Sub (M M':Mem):Prop where
 len:M.length<=M'.length
 at':∀k,k<M.length->M'[k]?=M[k]?
theorem Sub.trans {M M1 M2:Mem}(a:Sub M M1)(b:Sub M1 M2):Sub M M2:=⟨tqh a.len b.len,fun k hk=>(b.at' k (tqi hk a.len)).trans (a.at' k hk)⟩
theorem Sub.app {M X:Mem}:Sub M (M++X):=⟨by simp,fun k hk=>List.getElem?_append_left hk⟩
theorem Sub.get {k:Nat}{M M':Mem}{ds:List D}(h:Sub M M')(e:M[k]?=some ds):M'[k]?=some ds:=by rw [h.at' k (List.getElem?_eq_some_iff.mp e).1];exact e
theorem Sub.setq {M M':Mem}{q:Nat}{ds:List D}(h:Sub M M')(hq:M.length<=q):Sub M (M'.set q ds):=⟨by simpa using h.len,fun k hk=>by rw [List.getElem?_set_ne (by omega)];exact h.at' k hk⟩
theorem yQ {tg:dD}{w:Walk}{ge:GE}{ds:List D}{ρ0:Env}{M:Mem}{acc0:List D}{kl:List D->Mem->Prop}(f:D->D)(hz:acc0.length+ds.length<=sz)(hw:w M=some ds)(hs:∀d∈ds,∃ρ1,c7 tg d ρ0=some ρ1/\ge ρ1 M=.ok (f d) M)(hk:kl (acc0++ds.map f) M) :
 au (eF (d7 tg (cg ge) ρ0) w acc0 M) kl:=by
 refine jv (ds:=ds) (fun i acc M'=>M'=M/\acc=acc0++(ds.take i).map f) (fun i acc M' h=>by rw [h.1];exact hw) ⟨rfl,by simp⟩ ?_ ?_
 ·rintro i d acc M' hd ⟨rfl,rfl⟩
  obtain ⟨ρ1,e1,e2⟩:=hs d (List.mem_of_getElem? hd)
  have hi:i<ds.length:=(List.getElem?_eq_some_iff.mp hd).1
  simp only [d7,bR,ma,e1,Dx]
  refine ⟨ρ1,rfl,?_⟩
  rw [e2]
  refine ⟨by simp;omega,rfl,?_⟩
  rw [List.take_succ,hd]
  simp
 ·rintro acc M' ⟨rfl,rfl⟩
  simpa using hk
theorem sd {α β:Type}(f:α->List β)(n:Nat):∀(ds:List α),(∀d∈ds,(f d).length<=n)->(ds.flatMap f).length<=ds.length*n
 |[],_=>by simp
 | d :: r, h => by
   have h1:=h d List.mem_cons_self
   have h2:=sd f n r fun d hd=>h d (List.mem_cons_of_mem _ hd)
   simp only [List.flatMap_cons,List.length_append,List.length_cons,Nat.succ_mul]
   omega
theorem yR {t u:dD}{w:Walk}{gw2:GW}{ge:GE}{ds:List D}{ρ0:Env}{M:Mem}{kl:List D->Mem->Prop}(its:D->List D)(f:D->D->D)(n:Nat)(hn:∀d∈ds,(its d).length<=n)(hz:ds.length*n<=sz)(hw:w M=some ds)
 (hs:∀d∈ds,∃ρ1,c7 t d ρ0=some ρ1/\∃w2,gw2 ρ1 M=.ok w2 M/\w2 M=some (its d)/\∀e∈its d,∃ρ2,c7 u e ρ1=some ρ2/\ge ρ2 M=.ok (f d e) M) (hk:kl (ds.flatMap fun d=>(its d).map (f d)) M) :
 au (eF (d7 t (r8 u gw2 (cg ge)) ρ0) w [] M) kl:=by
 refine jv (ds:=ds) (fun i acc M'=>M'=M/\acc=(ds.take i).flatMap fun d=>(its d).map (f d)) (fun i acc M' h=>by rw [h.1];exact hw) ⟨rfl,by simp⟩ ?_ ?_
 ·rintro i d acc M' hd ⟨rfl,rfl⟩
  obtain ⟨ρ1,e1,w2,e2,e3,e4⟩:=hs d (List.mem_of_getElem? hd)
  have hi:i<ds.length:=(List.getElem?_eq_some_iff.mp hd).1
  simp only [d7,bR,ma,e1,r8]
  refine ⟨ρ1,rfl,?_⟩
  rw [e2]
  show au (eF (d7 u (cg ge) ρ1) w2 _ M') _
  have e5:(ds.take (i+1)).flatMap (fun d=>(its d).map (f d))=(ds.take i).flatMap (fun d=>(its d).map (f d))++(its d).map (f d):=by
   rw [List.take_succ,hd];simp
  have l1:=sd (fun d=>(its d).map (f d)) n (ds.take (i+1)) (fun d hd=>by simpa using hn d (List.mem_of_mem_take hd))
  rw [e5] at l1
  simp only [List.length_append,List.length_map,List.length_take] at l1
  refine yQ (f d) ?_ e3 e4 ⟨rfl,e5.symm⟩
  have:(min (i+1) ds.length)*n<=ds.length*n:=Nat.mul_le_mul_right _ (Nat.min_le_right _ _)
  omega
 ·rintro acc M' ⟨rfl,rfl⟩
  simpa using hk
def sg (w:Nat)(l:List (List Nat)):List (List Nat):=l.flatMap fun s=>(List.range w).map fun x=>s++[x]
def eK (w:Nat):Nat->List (List Nat)
 |0=>[[]]
 |p+1=>sg w (eK w p)
def c8 (m:aZ):List (List Nat):=eK m.words m.places
def hX (m:aZ)(s:List Nat):Prop:=s.length=m.places/\∀x∈s,x<m.words
theorem vU {w p:Nat}:∀s∈eK w p,s.length=p/\∀x∈s,x<w:=by
 induction p with
 |zero=>intro s hs;simp [eK] at hs;subst hs;simp
 | succ p ih =>
   intro s hs
   simp only [eK,sg,List.mem_flatMap,List.mem_map,List.mem_range] at hs
   obtain ⟨t,ht,x,hx,rfl⟩:=hs
   obtain ⟨h1,h2⟩:=ih t ht
   refine ⟨by simp [h1],fun y hy=>?_⟩
   rcases List.mem_append.mp hy with z|z
   ·exact h2 y z
   ·simp at z;omega
theorem oR {m:aZ}:∀s∈c8 m,hX m s:=vU
theorem lK {w:Nat}(hw:w<=4):∀p≤2,(eK w p).length<=4^p
 |0,_=>by simp [eK]
 | p + 1, hp => by
   have:=lK hw p (by omega)
   have l:=sd (fun s:List Nat=>(List.range w).map fun x=>s++[x]) 4 (eK w p) (fun d hd=>by simpa using hw)
   simp only [eK,sg]
   calc _<=(eK w p).length*4:=l
    _<=4^p*4:=Nat.mul_le_mul_right _ this
    _=4^(p+1):=by rw [Nat.pow_succ]
theorem g9 {m:aZ}(hm:br m):(c8 m).length<=16:=by
 have h:=lK hm.w4 m.places hm.p2
 have h1:=hm.p1
 have h2:=hm.p2
 have:m.places=1\/m.places=2:=by omega
 rcases this with e|e<;>rw [e] at h<;>unfold c8<;>rw [e]<;>omega
theorem tG {w:Nat}:∀(p:Nat) (s:List Nat),s.length=p->(∀x∈s,x<w)->s∈eK w p
 | 0, s, hl, _ => by
   obtain rfl:=List.length_eq_zero_iff.mp hl
   simp [eK]
 | p + 1, s, hl, hx => by
   have ne:s≠[]:=by intro e;subst e;cases hl
   have es:=List.dropLast_concat_getLast ne
   show s∈sg w (eK w p)
   unfold sg
   rw [List.mem_flatMap]
   refine ⟨s.dropLast,tG p _ (by simp [hl]) (fun x h=>hx x (List.dropLast_subset _ h)),?_⟩
   rw [List.mem_map]
   exact ⟨s.getLast ne,List.mem_range.mpr (hx _ (List.getLast_mem ne)),es⟩
theorem CS {m:aZ}(hm:br m){s:List Nat}(h:hX m s):s∈c8 m:=tG _ s h.1 h.2
def fe:bB->List Nat->Nat
 |.turn a t _,s=>t.getD (s.getD a 0) 0
 |.join a o t _,s=>(t.getD (s.getD a 0) []).getD (s.getD o 0) 0
 |.move _ o _,s=>s.getD o 0
 |.put _ x _,_=>x
def bB.at':bB->Nat
 |.turn a _ _=>a
 |.join a _ _ _=>a
 |.move a _ _=>a
 |.put a _ _=>a
def fQ (d:bB)(s:List Nat):List Nat:=s.take d.at'++[fe d s]++s.drop (d.at'+1)
theorem getD_mem {α:Type}{l:List α}{i:Nat}{d:α}(h:i<l.length):l.getD i d∈l:=by
 rw [List.getD_eq_getElem?_getD,List.getElem?_eq_getElem h];exact List.getElem_mem h
theorem qG {m:aZ}{d:bB}{s:List Nat}(hd:c9 m.words m.places d)(hs:hX m s):fe d s<m.words:=by
 obtain ⟨hl,hx⟩:=hs
 cases d with
 | turn a t c =>
   obtain ⟨h1,h2,h3⟩:=hd
   have:=hx _ (getD_mem (d:=0) (show a<s.length by omega))
   exact h2.2 _ (getD_mem (by rw [h2.1];exact this))
 | join a o t c =>
   obtain ⟨h1,h2,h3,h4⟩:=hd
   have a1:=hx _ (getD_mem (d:=0) (show a<s.length by omega))
   have a2:=hx _ (getD_mem (d:=0) (show o<s.length by omega))
   have a3:=h3.2 _ (getD_mem (d:=[]) (show s.getD a 0<t.length by rw [h3.1];exact a1))
   exact a3.2 _ (getD_mem (by rw [a3.1];exact a2))
 |move a o c=>exact hx _ (getD_mem (by obtain ⟨h1,h2,h3⟩:=hd;omega))
 |put a x c=>exact hd.2.1
theorem ui {w p:Nat}{d:bB}(hd:c9 w p d):d.at'<p:=by cases d<;>exact hd.1
theorem AR {m:aZ}{d:bB}{s:List Nat}(hd:c9 m.words m.places d)(hs:hX m s):hX m (fQ d s):=by
 have h1:=ui hd
 have h2:=qG hd hs
 obtain ⟨hl,hx⟩:=hs
 refine ⟨by simp [fQ];omega,fun x hm=>?_⟩
 simp only [fQ,List.mem_append,List.mem_singleton] at hm
 rcases hm with (z|z)|z
 ·exact hx x (List.mem_of_mem_take z)
 ·omega
 ·exact hx x (List.mem_of_mem_drop z)
def gr (m:aZ)(r:List Nat):Prop:=r.length<=40/\∀i∈r,i<m.deeds.length
def jw (m:aZ)(i:Nat):bB:=m.deeds.getD i (.put 0 0 1)
def gn (m:aZ):List Nat->List Nat->List Nat
 |[],s=>s
 |i::r,s=>gn m r (fQ (jw m i) s)
def gi (m:aZ):List Nat->List Nat->List (List Nat)
 |[],s=>[s]
 |i::r,s=>s::gi m r (fQ (jw m i) s)
theorem mF {m:aZ}(hm:br m){i:Nat}(hi:i<m.deeds.length):c9 m.words m.places (jw m i):=hm.ok _ (getD_mem hi)
theorem ml {m:aZ}(hm:br m):∀{r:List Nat}{s:List Nat},(∀i∈r,i<m.deeds.length)->hX m s->hX m (gn m r s)
 |[],s,_,h=>h
 |i::r,s,hr,h=>ml (r:=r) hm (fun j hj=>hr j (List.mem_cons_of_mem _ hj)) (AR (mF hm (hr i List.mem_cons_self)) h)
theorem vJ {m:aZ}:∀(a b s:List Nat),gn m (a++b) s=gn m b (gn m a s)
 |[],b,s=>rfl
 |i::a,b,s=>vJ a b _
theorem sM {m:aZ}:∀(r:List Nat) (i:Nat) (s:List Nat),gi m (r++[i]) s=gi m r s++[fQ (jw m i) (gn m r s)]
 |[],i,s=>rfl
 |j::r,i,s=>by simp [gi,gn,sM r i]
theorem pF {m:aZ}:∀(r s:List Nat),(gi m r s).length=r.length+1
 |[],s=>rfl
 |i::r,s=>by simp [gi,pF r]
theorem sN {m:aZ}:∀(r s:List Nat),(gi m r s)[r.length]?=some (gn m r s)
 |[],s=>rfl
 |i::r,s=>by simp [gi,gn,sN r]
theorem oZ {m:aZ}(r s:List Nat):((cb (gi m r s).length (-1)).bind fun j=>Option.map a8 (gi m r s)[j]?)=some (a8 (gn m r s)):=by
 rw [pF,EM (by omega)]
 show Option.map a8 (gi m r s)[r.length+1-1]?=_
 rw [Nat.add_sub_cancel,sN]
 rfl
theorem Bu {s:List Nat}{i:Nat}(hi:i<s.length):(cb (s.map nD).length (i:Int)).bind (fun j=>(s.map nD)[j]?)=some (nD (s.getD i 0)):=by
 rw [fo (by simpa using hi)]
 simp [List.getD_eq_getElem?_getD,hi]
def jY (r:List Nat):D:=.lst (r.map nD)
theorem Cn {m:aZ}{i:Nat}(hi:i<m.deeds.length):((cb (m.deeds.map bB.d).length (i:Int)).bind fun j=>(m.deeds.map bB.d)[j]?)=some (jw m i).d:=by
 rw [fo (by simpa using hi)]
 simp [jw,List.getD_eq_getElem?_getD,hi]
theorem HN {m:aZ}{M:Mem}:cY m.d (.int 2) M=some (.tup (m.deeds.map bB.d)):=rfl
theorem vG {m:aZ}{M:Mem}{i:Nat}(hi:i<m.deeds.length):cY (.tup (m.deeds.map bB.d)) (nD i) M=some (jw m i).d:=Cn hi
theorem AJ {d:bB}{M:Mem}:cY d.d (.int (-1)) M=some (nD d.cost):=by cases d<;>rfl
theorem jh {s:List Nat}{M:Mem}{i:Nat}(hi:i<s.length):cY (a8 s) (nD i) M=some (nD (s.getD i 0)):=Bu hi
theorem AI {t:List (List Nat)}{M:Mem}{i:Nat}(hi:i<t.length):cY (.tup (t.map a8)) (nD i) M=some (a8 (t.getD i [])):=by
 show (cb (t.map a8).length (i:Int)).bind (fun j=>(t.map a8)[j]?)=_
 rw [fo (by simpa using hi)]
 simp [List.getD_eq_getElem?_getD,hi]
def fz (M:Mem)(x:D)(r:List Nat):Prop:=x=.lst (r.map nD)\/∃q,x=.cell q/\M[q]?=some (r.map nD)
theorem fz.l {M:Mem}{r:List Nat}:fz M (.lst (r.map nD)) r:=.inl rfl
theorem fz.sub {M M':Mem}{x:D}{r:List Nat}(h:fz M x r)(s:Sub M M'):fz M' x r:=h.elim .inl fun ⟨q,e,g⟩=>.inr ⟨q,e,s.get g⟩
theorem fz.seq {M:Mem}{x:D}{r:List Nat}(h:fz M x r):de M x=some (r.map nD):=by
 rcases h with rfl|⟨q,rfl,e⟩
 ·rfl
 ·exact e
theorem fz.is {M:Mem}{x:D}{r:List Nat}(h:fz M x r):ig x=true/\jH x=true/\cx .list x=some true:=by
 rcases h with rfl|⟨q,rfl,e⟩<;>exact ⟨rfl,rfl,rfl⟩
theorem fz.len {M:Mem}{x:D}{r:List Nat}{k:D->Mem->Prop}(h:fz M x r):au (gp .len [x] M) k↔k (.int r.length) M:=by
 rcases h with rfl|⟨q,rfl,e⟩
 ·show k (.int (r.map nD).length) M↔_
  simp
 ·show au (match M[q]? with|some xs=>_|none=>_) k↔_
  rw [e];simp
section
variable {P:Nat->Option Df}(h:HasM0 P){M:Mem}
include h
theorem uJ (n:Nat){m:aZ}(hm:br m):aw P (n+8) 13 [m.d] M=.ok .non M:=by
 refine aE (aL h.need_machine rfl ?_)
 simp [dw,pC h.q n (mi hm) (by decide),lC hm]
theorem wQ (h15:P 15=some ⟨1,6,cH⟩)(n:Nat){m:aZ}(hm:br m):aw P (n+9) 15 [m.d] M=.ok (.lst ((c8 m).map a8)) M:=by
 refine aE (aL h15 rfl ?_)
 have w4:=hm.w4
 have p2:=hm.p2
 simp [cH,uJ h n hm]
 simp [aZ.d,gX]
 refine ⟨by decide,by omega,?_⟩
 refine fP (ds:=(List.range m.places).map fun (k:Nat)=>D.int (k:Int)) (fun i Z M'=>M'=M/\∃a,Z=[some m.d,some (nD m.words),some (nD m.places),some (.tup (m.deeds.map bB.d)),some (.lst ((eK m.words i).map a8)),a]) (fun _ _ _ _=>rfl) ⟨rfl,none,by simp [aZ.d,eK,a8]⟩ ?_ ?_
 ·rintro i d Z M' hd ⟨rfl,a,rfl⟩
  have hi:i<m.places:=by
   have:=(List.getElem?_eq_some_iff.mp hd).1
   simpa using this
  refine ⟨_,rfl,?_⟩
  simp [ig]
  refine yR (ds:=(eK m.words i).map a8) (fun _=>(List.range m.words).map fun (k:Nat)=>D.int (k:Int)) (fun d e=>match d,e with|.tup x,e=>.tup (x++[e])|_,_=>.non) 4 (by simpa using fun _ _=>w4) ?_ rfl ?_ ?_
  ·have:=lK w4 i (by omega)
   have:(4:Nat)^i<=4^2:=Nat.pow_le_pow_right (by decide) (by omega)
   simp only [List.length_map]
   exact aM (by omega)
  ·intro d hd
   obtain ⟨s,hs,rfl⟩:=List.mem_map.mp hd
   have ⟨l1,_⟩:=vU s hs
   refine ⟨_,rfl,(fun _=>some ((List.range m.words).map fun (k:Nat)=>D.int (k:Int))),aS ?_,rfl,fun e he=>⟨_,rfl,aE ?_⟩⟩
   ·simp
    omega
   ·simp [a8,sz]
    omega
  ·have e0:((eK m.words i).map a8).flatMap (fun d=>((List.range m.words).map fun (k:Nat)=>D.int (k:Int)).map (fun e=>match d,e with|.tup x,e=>D.tup (x++[e])|_,_=>.non))=(eK m.words (i+1)).map a8:=by
    simp only [eK,sg,List.flatMap_map,List.map_flatMap,List.map_map]
    congr 1
    funext s
    simp [a8,Function.comp_def]
   rw [e0]
   refine ⟨?_,rfl,rfl⟩
   have:=lK w4 (i+1) (by omega)
   have:(4:Nat)^(i+1)<=4^2:=Nat.pow_le_pow_right (by decide) (by omega)
   simp only [List.length_map]
   exact aM (by omega)
 ·rintro Z M' ⟨rfl,a,rfl⟩
  simp [c8]
theorem DV (n:Nat){m:aZ}{i:Nat}(hi:i<m.deeds.length):aw P (n+2) 16 [m.d,nD i] M=.ok (.bl true) M:=by
 refine aE (aL h.is_deed_number rfl ?_)
 simp [eX,aZ.d,cb,xO h]
 omega
theorem xK (n:Nat){m:aZ}{x:D}{r:List Nat}(hx:fz M x r)(hr:∀i∈r,i<m.deeds.length):aw P (n+3) 17 [m.d,x] M=.ok .non M:=by
 refine aE (aL h.need_numbers rfl ?_)
 obtain ⟨i1,i2,i3⟩:=hx.is
 simp [cQ,i1,i2,i3]
 refine fP (ds:=eJ 0 (r.map nD)) (fun i Z M'=>M'=M/\∃a b,Z=[some m.d,some x,a,b]) (fun _ _ _ e=>by rw [e.1,hx.seq];rfl) ⟨rfl,none,none,rfl⟩ ?_ ?_
 ·rintro i d Z M' hd ⟨rfl,a,b,rfl⟩
  rw [iU] at hd
  rw [List.getElem?_map] at hd
  cases e:r[i]? with
  |none=>rw [e] at hd;cases hd
  | some x =>
    rw [e] at hd
    simp at hd
    subst hd
    refine ⟨_,rfl,?_⟩
    simp [DV h n (hr x (List.mem_of_getElem? e))]
 ·rintro Z M' ⟨rfl,a,b,rfl⟩
  simp
theorem sH (n:Nat){m:aZ}{x:D}{r:List Nat}(hx:fz M x r)(hm:br m)(hr:gr m r):aw P (n+9) 18 [m.d,x] M=.ok .non M:=by
 have e:=xK h (n+5) (m:=m) hx hr.2
 refine aE (aL h.need_row rfl ?_)
 simp [dX,uJ h n hm,e]
 rw [hx.len]
 have:=hr.1
 simp
 omega
theorem zG (n:Nat){m:aZ}{r:List Nat}(hm:br m)(hr:gr m r):aw P (n+9) 18 [m.d,jY r] M=.ok .non M:=sH h n .l hm hr
end
section
variable {P:Nat->Option Df}(h:HasM P){M:Mem}
include h
theorem zA (n:Nat){m:aZ}{a c:Nat}{t s:List Nat}(hd:c9 m.words m.places (.turn a t c))(hs:hX m s):aw P (n+1) 20 [(bB.turn a t c).d,a8 s] M=.ok (nD (fe (.turn a t c) s)) M:=by
 obtain ⟨h1,h2,h3⟩:=hd
 have a1:a<s.length:=by rw [hs.1];exact h1
 have a2:s.getD a 0<t.length:=by rw [h2.1];exact hs.2 _ (getD_mem a1)
 refine aE (aL h.turned rfl ?_)
 simp [-iT,-List.getD_eq_getElem?_getD,nh,bB.d,gX,jh a1,jh a2,fe]
theorem zK (n:Nat){m:aZ}{a o c:Nat}{t:List (List Nat)}{s:List Nat}(hd:c9 m.words m.places (.join a o t c))(hs:hX m s):aw P (n+1) 21 [(bB.join a o t c).d,a8 s] M=.ok (nD (fe (.join a o t c) s)) M:=by
 obtain ⟨h1,h2,h3,h4⟩:=hd
 have a1:a<s.length:=by rw [hs.1];exact h1
 have a2:o<s.length:=by rw [hs.1];exact h2
 have a3:s.getD a 0<t.length:=by rw [h3.1];exact hs.2 _ (getD_mem a1)
 have a4:s.getD o 0<(t.getD (s.getD a 0) []).length:=by rw [(h3.2 _ (getD_mem a3)).1];exact hs.2 _ (getD_mem a2)
 refine aE (aL h.joined rfl ?_)
 simp [-iT,-List.getD_eq_getElem?_getD,nj,bB.d,gX,jh a1,jh a2,AI a3,jh a4,fe]
theorem BB (n:Nat){m:aZ}{a o c:Nat}{s:List Nat}(hd:c9 m.words m.places (.move a o c))(hs:hX m s):aw P (n+1) 22 [(bB.move a o c).d,a8 s] M=.ok (nD (fe (.move a o c) s)) M:=by
 obtain ⟨h1,h2,h3⟩:=hd
 have a2:o<s.length:=by rw [hs.1];exact h2
 refine aE (aL h.moved rfl ?_)
 simp [-iT,-List.getD_eq_getElem?_getD,oS,bB.d,gX,jh a2,fe]
theorem BA (n:Nat){a x c:Nat}{s:List Nat}:aw P (n+1) 23 [(bB.put a x c).d,a8 s] M=.ok (nD (fe (.put a x c) s)) M:=by
 refine aE (aL h.put_in rfl ?_)
 simp [ni,bB.d,gX,fe]
end
theorem Mx:d3.lookup (Str.ofString "turn")=some 20:=by decide +kernel
theorem Mw:d3.lookup (Str.ofString "join")=some 21:=by decide +kernel
theorem Mv:d3.lookup (Str.ofString "move")=some 22:=by decide +kernel
theorem Ms:d3.lookup (Str.ofString "put")=some 23:=by decide +kernel
theorem FP {s:List Nat}{M:Mem}{k:D->Mem->Prop}{a:Nat}(ha:a<=s.length):au (eG false (a8 s) .non (.int a) M) k↔k (a8 (s.take a)) M:=by
 simp only [eG,a8,a9,cut]
 rw [if_neg (by omega)]
 simp
 rw [Nat.min_eq_left (by simpa using ha)]
theorem D2 {s:List Nat}{M:Mem}{k:D->Mem->Prop}{a:Nat}(ha:a<=s.length):au (eG false (a8 s) (.int a) .non M) k↔k (a8 (s.drop a)) M:=by
 simp only [eG,a8,a9,cut]
 rw [if_neg (by omega)]
 simp
 rw [Nat.min_eq_left (by simpa using ha),List.take_of_length_le (by simp)]
section
variable {P:Nat->Option Df}(h:HasM P){M:Mem}
include h
theorem DU (n:Nat){m:aZ}{d:bB}{s:List Nat}(hm:br m)(hd:c9 m.words m.places d)(hs:hX m s):aw P (n+2) 24 [d.d,a8 s] M=.ok (a8 (fQ d s)) M:=by
 have a0:=ui hd
 have l0:=hs.1
 have p2:=hm.p2
 have key:∀f,aw P (n+1) f [d.d,a8 s] M=.ok (nD (fe d s)) M->cY d.d (.int 1) M=some (nD d.at')->(∀k:D->Mem->Prop,(∃y,cY d.d (.int 0) M=some (.str y)/\d3.lookup y=some f))->aw P (n+2) 24 [d.d,a8 s] M=.ok (a8 (fQ d s)) M:=fun f e1 e2 e3=>by
  obtain ⟨y,e3,e4⟩:=e3 fun _ _=>True
  refine aE (aL h.done rfl ?_)
  simp only [qY,aQ,gz,Io,eY,bc,cR,eL,cF,fK,lI,jj,bp,bx,EY]
  simp [-iT,e1,e2,e3,e4,cL]
  rw [FP (by omega),e1]
  have e5:(d.at':Int)+1=((d.at'+1:Nat):Int):=by omega
  rw [e5]
  simp only [kc,a8,jr]
  refine ⟨by decide,?_,?_⟩
  ·simp
   exact aM (by omega)
  ·rw [show D.tup (s.map nD)=a8 s from rfl,D2 (by omega)]
   simp only [a8,jr]
   refine ⟨?_,?_,trivial⟩
   ·simp
    exact aM (by omega)
   ·simp [fQ]
 cases d with
 |turn a t c=>exact key 20 (zA h n hd hs) rfl fun _=>⟨_,rfl,Mx⟩
 |join a o t c=>exact key 21 (zK h n hd hs) rfl fun _=>⟨_,rfl,Mw⟩
 |move a o c=>exact key 22 (BB h n hd hs) rfl fun _=>⟨_,rfl,Mv⟩
 |put a x c=>exact key 23 (BA h n) rfl fun _=>⟨_,rfl,Ms⟩
theorem v7 (n:Nat){m:aZ}{x:D}{r s:List Nat}(hx:fz M x r)(hm:br m)(hrl:r.length<=100000)(hr:∀i∈r,i<m.deeds.length)(hs:hX m s):aw P (n+3) 25 [m.d,x,a8 s] M=.ok (.cell M.length) (M++[(gi m r s).map a8]):=by
 refine aE (aL h.all_standing rfl ?_)
 simp [ij,hx.is]
 refine ⟨by decide,?_⟩
 refine fP (ds:=r.map nD) (fun i Z M'=>M'=M++[(gi m (r.take i) s).map a8]/\∃a,Z=[some m.d,some x,some (a8 s),some (.cell M.length),a]) (fun _ _ _ e=>by rw [e.1];exact (hx.sub Sub.app).seq) ⟨by simp [gi],none,rfl⟩ ?_ ?_
 ·rintro i d Z M' hd ⟨rfl,a,rfl⟩
  rw [List.getElem?_map] at hd
  cases e:r[i]? with
  |none=>rw [e] at hd;cases hd
  | some x =>
    rw [e] at hd
    simp at hd
    subst hd
    have hx:=hr x (List.mem_of_getElem? e)
    have hi:i<r.length:=(List.getElem?_eq_some_iff.mp e).1
    refine ⟨_,rfl,?_⟩
    have hse:hX m (gn m (r.take i) s):=ml hm (fun j hj=>hr j (List.mem_of_mem_take hj)) hs
    have hl:=pF (m:=m) (r.take i) s
    have hl2:(r.take i).length=i:=by simp;omega
    simp [-iT,HN,vG hx,oZ,DU h n hm (mF hm hx) hse]
    refine ⟨?_,?_⟩
    ·rw [hl,hl2]
     exact Nat.lt_of_le_of_lt (show i+1<=100001 by omega) (by decide)
    ·rw [List.take_succ,e]
     simp [sM]
 ·rintro Z M' ⟨rfl,a,rfl⟩
  simp
def sj (m:aZ)(r:List Nat):D:=.tup ((c8 m).map fun s=>a8 (gn m r s))
theorem uL (h15:P 15=some ⟨1,6,cH⟩)(h46:P 46=some ⟨2,2,hV⟩)(n:Nat){m:aZ}{x:D}{r:List Nat}(hx:fz M x r)(hm:br m)(hrl:r.length<=100000)(hr:∀i∈r,i<m.deeds.length):aw P (n+10) 46 [m.d,x] M=.ok (sj m r) (M++(c8 m).map fun s=>(gi m r s).map a8):=by
 refine aE (aL h46 rfl ?_)
 simp [hV,wQ h.toHasM0 h15 n hm]
 refine ⟨rfl,?_⟩
 have bl:=g9 hm
 refine comp_map (ds:=(c8 m).map a8) (fun i acc M'=>acc=((c8 m).take i).map (fun s=>a8 (gn m r s))/\M'=M++((c8 m).take i).map fun s=>(gi m r s).map a8) (aM (by simp;omega)) (fun _ _ _ _=>rfl) (by simp) ?_ ?_
 ·rintro i d acc M' hd _ ⟨rfl,eM⟩
  rw [List.getElem?_map] at hd
  cases e:(c8 m)[i]? with
  |none=>rw [e] at hd;cases hd
  | some s =>
    rw [e] at hd
    have hd:a8 s=d:=Option.some.inj hd
    subst hd
    have hs:=oR s (List.mem_of_getElem? e)
    refine ⟨_,rfl,?_⟩
    have st:=v7 h (n+6) (M:=M') (by rw [eM];exact hx.sub Sub.app) hm hrl hr hs
    simp [st,oZ]
    rw [eM,List.take_succ,List.take_succ]
    simp [e]
 ·rintro acc M' _ ⟨rfl,rfl⟩
  simp
  exact ⟨aM (by omega),by simp [sj,List.take_of_length_le]⟩
theorem zN (h15:P 15=some ⟨1,6,cH⟩)(h27:P 27=some ⟨2,2,gL⟩)(h46:P 46=some ⟨2,2,hV⟩)(n:Nat){m:aZ}{x:D}{r:List Nat}(hx:fz M x r)(hm:br m)(hr:gr m r):aw P (n+11) 27 [m.d,x] M=.ok (sj m r) (M++(c8 m).map fun s=>(gi m r s).map a8):=by
 refine aE (aL h27 rfl ?_)
 simp [gL,sH h.toHasM0 (n+1) hx hm hr,uL h h15 h46 n hx hm (tqh hr.1 (by decide)) hr.2]
theorem FL (h15:P 15=some ⟨1,6,cH⟩)(h27:P 27=some ⟨2,2,gL⟩)(h46:P 46=some ⟨2,2,hV⟩)(n:Nat){m:aZ}{r:List Nat}(hm:br m)(hr:gr m r):aw P (n+11) 27 [m.d,jY r] M=.ok (sj m r) (M++(c8 m).map fun s=>(gi m r s).map a8):=zN h h15 h27 h46 n .l hm hr
end
end LD
namespace LD
open PySem
@[simp] theorem vA {j:Nat}{M:Mem}{k:D->Mem->Prop}:au (gp .len [.cell j] M) k↔∃ds,M[j]?=some ds/\k (.int ds.length) M:=by
 show au (match M[j]? with|some xs=>_|none=>_) k↔_
 cases M[j]?<;>simp
structure aU (M:Mem) (p B:Nat):Prop where
 ex:∃(c:Nat) (cells:List Int) (at_ st:Int),M[p]?=some [.cell c,.int at_,.int st]/\M[c]?=some (cells.map D.int)/\c<p/\0<=at_/\at_<=B/\0<=st
structure bw (p:Nat) (M M':Mem):Prop where
 len:M.length<=M'.length
 at':∀k,k<M.length->k≠p->M'[k]?=M[k]?
theorem bw.refl {p:Nat}{M:Mem}:bw p M M:=⟨tqg _,fun _ _ _=>rfl⟩
theorem bw.trans {p:Nat}{M M1 M2:Mem}(a:bw p M M1)(b:bw p M1 M2):bw p M M2:=⟨tqh a.len b.len,fun k hk n=>(b.at' k (tqi hk a.len) n).trans (a.at' k hk n)⟩
theorem bw.set {p:Nat}{M:Mem}{ds:List D}:bw p M (M.set p ds):=⟨by simp,fun k _ n=>List.getElem?_set_ne (Ne.symm n)⟩
theorem bw.app {p:Nat}{M X:Mem}:bw p M (M++X):=⟨by simp,fun k hk _=>List.getElem?_append_left hk⟩
theorem bw.get {p k:Nat}{M M':Mem}{ds:List D}(h:bw p M M')(e:M[k]?=some ds)(n:k≠p):M'[k]?=some ds:=by rw [h.at' k (List.getElem?_eq_some_iff.mp e).1 n];exact e
theorem aU.lt {M:Mem}{p B:Nat}(h:aU M p B):p<M.length:=by obtain ⟨_,_,_,_,e,_⟩:=h.ex;exact (List.getElem?_eq_some_iff.mp e).1
theorem aU.app {M X:Mem}{p B:Nat}(h:aU M p B):aU (M++X) p B:=by
 obtain ⟨c,cells,a,st,e1,e2,r⟩:=h.ex
 exact ⟨c,cells,a,st,by rw [List.getElem?_append_left (List.getElem?_eq_some_iff.mp e1).1];exact e1,by rw [List.getElem?_append_left (List.getElem?_eq_some_iff.mp e2).1];exact e2,r⟩
theorem aU.mono {M:Mem}{p B B':Nat}(h:aU M p B)(hb:B<=B'):aU M p B':=by
 obtain ⟨c,cells,a,st,e1,e2,e3,e4,e5,e6⟩:=h.ex
 exact ⟨c,cells,a,st,e1,e2,e3,e4,by omega,e6⟩
theorem aU.setq {M:Mem}{p q B:Nat}{ds:List D}(h:aU M p B)(hq:p<q):aU (M.set q ds) p B:=by
 obtain ⟨c,cells,a,st,e1,e2,e3,e4,e5,e6⟩:=h.ex
 exact ⟨c,cells,a,st,by rw [List.getElem?_set_ne (by omega)];exact e1,by rw [List.getElem?_set_ne (by omega)];exact e2,e3,e4,e5,e6⟩
theorem bw.setq {p q:Nat}{M M':Mem}{ds:List D}(h:bw p M M')(hq:M.length<=q):bw p M (M'.set q ds):=⟨by simpa using h.len,fun k hk n=>by rw [List.getElem?_set_ne (by omega)];exact h.at' k hk n⟩
theorem Aw {a b A B:Int}(h1:0<=a)(h2:a<=A)(h3:0<=b)(h4:b<=B):0<=a*b/\a*b<=A*B:=
 ⟨Int.mul_nonneg h1 h3,Int.mul_le_mul h2 h4 h3 (Int.le_trans h1 h2)⟩
def Ej:List D:=[.int 2147483629,.int 2147483587,.int 2147483579,.int 2147483563,.int 2147483549,.int 2147483543,.int 2147483497,.int 2147483489,.int 2147483477,.int 2147483423,.int 2147483399,.int 2147483353,.int 2147483323]
theorem pH (j:Int)(M:Mem):∃q:Int,cY (.lst Ej) (.int (j % 13)) M=some (.int q)/\0<q/\q<2147483648:=by
 have h1:0<=j % 13:=Int.emod_nonneg _ (by decide)
 have h2:j % 13<13:=Int.emod_lt_of_pos _ (by decide)
 generalize j % 13=i at h1 h2
 have:i=0\/i=1\/i=2\/i=3\/i=4\/i=5\/i=6\/i=7\/i=8\/i=9\/i=10\/i=11\/i=12:=by omega
 rcases this with rfl|rfl|rfl|rfl|rfl|rfl|rfl|rfl|rfl|rfl|rfl|rfl|rfl<;>exact ⟨_,rfl,by decide,by decide⟩
section
variable {P:Nat->Option Df}(h:HasP0 P){M:Mem}
include h
theorem zC (n:Nat){x a:Int}(h0:0<=a)(h1:a<=1000000):au (aw P (n+1) 28 [.int x,.int a] M) fun d M'=>M'=M/\∃v:Int,d=.int v/\0<=v:=by
 refine aL h.law_spread rfl ?_
 simp [-xn,iH]
 by_cases hx:(1000000000000000000:Int)<=x
 ·exact .inr ⟨hx,by omega⟩
 ·have r1:=Int.emod_nonneg x (show (1000000007:Int)≠0 by decide)
  have r2:=Int.emod_lt_of_pos x (show (0:Int)<1000000007 by decide)
  have r3:=Int.emod_nonneg x (show (65537:Int)≠0 by decide)
  have r4:=Int.emod_lt_of_pos x (show (0:Int)<65537 by decide)
  obtain ⟨m1,m2⟩:=Aw r1 (Int.le_of_lt r2) (show 0<=2*a+69069 by omega) (show 2*a+69069<=2069069 by omega)
  refine .inl ⟨by omega,by decide,by decide,by decide,.inl ⟨by omega,by omega⟩,by omega,?_⟩
  obtain ⟨q1,e1,p1,p2⟩:=pH a M
  refine ⟨.int q1,e1,?_⟩
  generalize (x % 1000000007*(2*a+69069)+a*40503+977)^3=y1
  have b1:=Int.emod_nonneg y1 (show q1≠0 by omega)
  have b2:=Int.emod_lt_of_pos y1 p1
  generalize hz1:y1 % q1=one at b1 b2
  obtain ⟨m3,m4⟩:=Aw b1 (show one<=2147483648 by omega) (show 0<=a+3 by omega) (show a+3<=1000003 by omega)
  simp only [qI,qH,gF,u4,hz1]
  refine ⟨p1,.inr ⟨by omega,by omega⟩,⟨by decide,by decide,by omega⟩,?_⟩
  obtain ⟨q2,e2,p3,p4⟩:=pH (a+5) M
  refine ⟨.int q2,e2,?_⟩
  generalize (one*(a+3)+x % 65537+5)^(5:Int).toNat=y2
  have b3:=Int.emod_nonneg y2 (show q2≠0 by omega)
  have b4:=Int.emod_lt_of_pos y2 p3
  generalize hz2:y2 % q2=two at b3 b4
  have r5:=Int.emod_nonneg one (show (1009:Int)≠0 by decide)
  have r6:=Int.emod_lt_of_pos one (show (0:Int)<1009 by decide)
  simp only [qI,qH,gF,u4,hz2]
  refine ⟨p3,by decide,⟨by decide,by decide,by omega⟩,?_⟩
  obtain ⟨q3,e3,p5,p6⟩:=pH (a+7) M
  refine ⟨.int q3,e3,?_⟩
  generalize (two+one % 1009+a)^(3:Int).toNat=y3
  have b5:=Int.emod_nonneg y3 (show q3≠0 by omega)
  simp only [qI,qH,gF,u4]
  refine ⟨p5,.inr ⟨by decide,by decide⟩,.inr ⟨by decide,by decide⟩,trivial,_,rfl,by omega⟩
omit h in
theorem MB:cb 3 0=some 0:=rfl
omit h in
theorem MA:cb 3 1=some 1:=rfl
omit h in
theorem H8:cb 3 2=some 2:=rfl
omit h in
theorem rY {l:List Int}{i:Int}(h0:0<=i)(h1:i<l.length):∃x,((cb l.length i).bind fun j=>Option.map D.int l[j]?)=some (.int x):=by
 obtain ⟨k,rfl⟩:=Int.eq_ofNat_of_zero_le h0
 have hk:k<l.length:=by omega
 refine ⟨l[k],?_⟩
 rw [fo hk]
 simp [hk]
def mG:GS:=aj (aV (.one 4) (aH false .mod (aO (ah 0) (gI 2)) (ah 1))) (aj (fZ (ah 0) (gI 2) (aH false .fdiv (aO (ah 0) (gI 2)) (ah 1))) (aj (bh (ah 4)) ax))
def rj (c:Call):GS:=aj (fZ (ah 0) (gI 1) (aH false .add (ah 2) (gI 1))) (aj (fZ (ah 0) (gI 2) (aA 28 c (ag (ah 3) (ag (ah 2) av)))) ax)
omit h in
theorem sF {M M1:Mem}{p c many B:Nat}{cells:List Int}{a st:Int}{x y:Option D}(e1:M1[p]?=some [.cell c,.int a,.int st])(e2:M1[c]?=some (cells.map D.int))(lt:c<p)(a0:0<=a)(aB:a<=(B+1:Nat))(s0:0<=st)(k:bw p M M1)
 (h0:0<many) (h1:many<=10000000):au (mG [some (.cell p),some (nD many),x,y,none] M1) (gm fun d M'=>∃v:Nat,d=nD v/\v<many/\aU M' p (B+1)/\bw p M M'):=by
 have hp:p<M1.length:=(List.getElem?_eq_some_iff.mp e1).1
 have ne:c≠p:=tqk lt
 have b0:(0:Int)<(many:Int):=by omega
 have r1:=Int.emod_nonneg st (show (many:Int)≠0 by omega)
 have r2:=Int.emod_lt_of_pos st b0
 simp [mG,e1,cb]
 refine ⟨by omega,by omega,(st % many).toNat,by omega,by omega,⟨c,cells,a,st / many,?_,?_,lt,a0,aB,Int.ediv_nonneg s0 (by omega)⟩,k.trans bw.set⟩
 ·simp [hp]
 ·rw [List.getElem?_set_ne (Ne.symm ne)];exact e2
theorem wK (n:Nat){p B many:Nat}(hp:aU M p B)(hB:B<=1000000)(h0:0<many)(h1:many<=10000000):au (aw P (n+2) 31 [.cell p,nD many] M) fun d M'=>∃v:Nat,d=nD v/\v<many/\aU M' p (B+1)/\bw p M M':=by
 obtain ⟨c,cells,a,st,e1,e2,lt,a0,aB,s0⟩:=hp.ex
 have ne:c≠p:=tqk lt
 have hpl:p<M.length:=(List.getElem?_eq_some_iff.mp e1).1
 refine aL h.law_take rfl ?_
 show au (aj (bo _ (aj _ (aj _ (aj _ (rj (aw P (n+1)))))) _) mG [some (.cell p),some (nD many),none,none,none] M) _
 have mid:∀(x:Int),au (rj (aw P (n+1)) [some (.cell p),some (nD many),some (.int a),some (.int x),none] M) (lA mG (gm fun d M'=>∃v:Nat,d=nD v/\v<many/\aU M' p (B+1)/\bw p M M')):=by
  intro x
  unfold rj
  simp [e1,cb]
  refine a7 (zC h n (x:=x) (a:=a) a0 (by omega)) fun d M' ⟨e,v,ev,v0⟩=>?_
  subst e ev
  refine ⟨[.cell c,.int (a+1),.int st],by simp [hpl],2,by simp,?_⟩
  have k1:bw p M ((M.set p [.cell c,.int (a+1),.int st]).set p ([.cell c,.int (a+1),.int st].set 2 (.int v))):=bw.set.trans bw.set
  refine sF (c:=c) (cells:=cells) (a:=a+1) (st:=v) ?_ ?_ lt (by omega) (by omega) v0 k1 h0 h1
  ·simp [hpl]
  ·rw [List.getElem?_set_ne (Ne.symm ne),List.getElem?_set_ne (Ne.symm ne)];exact e2
 have c0:(0:Int)<=(cells.length:Int):=by omega
 simp [e1,e2,MB,MA,H8,nD]
 by_cases c1:st<many
 ·refine .inr ⟨c1,?_⟩
  by_cases c2:a<(cells.length:Int)
  ·obtain ⟨x,ex⟩:=rY a0 c2
   exact .inr ⟨c2,_,ex,mid x⟩
  ·refine .inl ⟨by omega,?_⟩
   by_cases c3:cells=[]
   ·exact .inl ⟨c3,mid 0⟩
   ·have c4:0<cells.length:=List.length_pos_iff.mpr c3
    have r1:=Int.emod_nonneg (a*5+3) (show (cells.length:Int)≠0 by omega)
    have r2:=Int.emod_lt_of_pos (a*5+3) (show (0:Int)<(cells.length:Int) by omega)
    obtain ⟨x,ex⟩:=rY r1 r2
    refine .inr ⟨c4,_,ex,?_⟩
    simp only [qI]
    exact ⟨by omega,mid _⟩
 ·refine .inl ⟨by omega,?_⟩
  exact sF e1 e2 lt a0 (by omega) s0 .refl h0 h1
end
end LD
namespace LD
open PySem
def bB.withC:bB->Nat->bB
 |.turn a t _,c=>.turn a t c
 |.join a o t _,c=>.join a o t c
 |.move a o _,c=>.move a o c
 |.put a x _,c=>.put a x c
theorem Bi {w p c:Nat}{d:bB}(h:c9 w p d)(hc:ia c):c9 w p (d.withC c):=by
 cases d with
 |turn=>exact ⟨h.1,h.2.1,hc⟩
 |join=>exact ⟨h.1,h.2.1,h.2.2.1,hc⟩
 |move=>exact ⟨h.1,h.2.1,hc⟩
 |put=>exact ⟨h.1,h.2.1,hc⟩
theorem Fg {w p:Nat}{d:bB}(h:c9 w p d):ia d.cost:=by
 cases d with
 |turn=>exact h.2.2
 |join=>exact h.2.2.2
 |move=>exact h.2.2
 |put=>exact h.2.2
theorem CM {d:bB}{c:Nat}{M:Mem}{k:D->Mem->Prop}(hk:k (d.withC c).d M):au (eG false d.d .non (.int (-1)) M) fun x M=>au (fR false .add x (.tup [nD c]) M) k:=by
 cases d<;>(simp [bB.d,eG,a9,cut];exact ⟨by decide,hk⟩)
theorem Bx (n:Nat)(d:bB):aN (n+3) d.d=true:=by
 have tp:∀(n:Nat) (l:List Nat),(l.map nD).all (aN n)=true:=fun n l=>by
  rw [List.all_eq_true];intro x hx;obtain ⟨i,_,rfl⟩:=List.mem_map.mp hx;cases n<;>rfl
 cases d with
 |turn a t c=>simp [bB.d,aN,a8,nD];decide +kernel
 |join a o t c=>simp [bB.d,aN,nD,a8];decide +kernel
 |move a o c=>simp [bB.d,aN,nD];decide +kernel
 |put a x c=>simp [bB.d,aN,nD];decide +kernel
theorem ne_nil {M:Mem}{q:Nat}{ds:List bB}(e:M[q]?=some (ds.map bB.d)):bN .ne (.cell q) (.lst []) M=some (!ds.isEmpty):=by
 have hp:(ds.map bB.d).all (aN 63)=true:=by
  rw [List.all_eq_true];intro x hx;obtain ⟨d,_,rfl⟩:=List.mem_map.mp hx;exact Bx 60 d
 have hv:view M (.cell q)=.lst (ds.map bB.d):=by simp [view,e]
 have h1:aN 64 (.lst (ds.map bB.d))=true:=hp
 refine oN (by rw [hv];exact h1) rfl ?_
 rw [hv]
 cases ds<;>rfl
@[simp] theorem HH {m:Bool}{x:List D}{j:Int}{M:Mem}{k:D->Mem->Prop}:au (fR m .mul (.tup x) (.int j) M) k↔(x.length*j.toNat<=sz/\-(2^63)<=j/\j<2^63)/\k (.tup (List.replicate j.toNat x).flatten) M:=la
@[simp] theorem HI {m:Bool}{x:List D}{j:Int}{M:Mem}{k:D->Mem->Prop}:au (fR m .mul (.lst x) (.int j) M) k↔(x.length*j.toNat<=sz/\-(2^63)<=j/\j<2^63)/\au (cf m (List.replicate j.toNat x).flatten M) k:=la
theorem uP {xs:List D}{a:Nat}{M:Mem}{k:D->Mem->Prop}:au (eG false (.lst xs) .non (.int a) M) k↔(xs.take a).length<=sz/\k (.lst (xs.take a)) M:=by
 have e:cut xs 0 (min a xs.length)=xs.take a:=by
  unfold cut
  rcases Nat.le_total a xs.length with h|h
  ·rw [Nat.min_eq_left h];simp
  ·rw [Nat.min_eq_right h];simp [List.take_of_length_le h]
 show au (match a9 xs.length 0 D.non,a9 xs.length xs.length (.int a) with|some l,some h=>cf false (cut xs l h) M|_,_=>.bad) k↔_
 have e2:a9 xs.length xs.length (.int a)=some (min a xs.length):=by
  show some _=_
  rw [if_neg (by omega)];simp
 rw [e2]
 show au (cf false (cut xs 0 (min a xs.length)) M) k↔_
 rw [e,cO]
theorem BK {xs:List D}{a:Nat}{M:Mem}{k:D->Mem->Prop}:au (eG false (.lst xs) (.int a) .non M) k↔(xs.drop a).length<=sz/\k (.lst (xs.drop a)) M:=by
 have e:cut xs (min a xs.length) xs.length=xs.drop a:=by
  unfold cut
  rcases Nat.le_total a xs.length with h|h
  ·rw [Nat.min_eq_left h,List.take_of_length_le (by simp)]
  ·rw [Nat.min_eq_right h];simp [List.drop_eq_nil_of_le h]
 show au (match a9 xs.length 0 (.int a),a9 xs.length xs.length D.non with|some l,some h=>cf false (cut xs l h) M|_,_=>.bad) k↔_
 have e2:a9 xs.length 0 (.int a)=some (min a xs.length):=by
  show some _=_
  rw [if_neg (by omega)];simp
 rw [e2]
 show au (cf false (cut xs (min a xs.length) xs.length) M) k↔_
 rw [e,cO]
theorem vN {w:Nat}{ge:GE}{Z:Env}{M:Mem}{kl:List D->Mem->Prop}(f:Nat->Nat)(hw:w<=100)(hf:∀k,k<w->ge (some (.int (k:Int))::Z) M=.ok (nD (f k)) M)(hk:kl (((List.range w).map f).map nD) M) :
 au (eF (d7 (.one 0) (cg ge) (none::Z)) (fun _=>some ((List.range w).map fun (k:Nat)=>D.int (k:Int))) [] M) kl:=by
 refine jR (ds:=(List.range w).map fun (k:Nat)=>D.int (k:Int)) (fun d=>match d with|.int i=>nD (f i.toNat)|_=>.non) (aM (by simp;omega)) rfl (fun d hd=>?_) ?_
 ·obtain ⟨k,hk,rfl⟩:=List.mem_map.mp hd
  exact ⟨_,rfl,hf k (List.mem_range.mp hk)⟩
 ·simpa [Function.comp_def] using hk
theorem wI {w:Nat}{f:Nat->Nat}(hf:∀k,k<w->f k<w):kn w ((List.range w).map f):=⟨by simp,fun x hx=>by
 obtain ⟨k,hk,rfl⟩:=List.mem_map.mp hx
 exact hf k (List.mem_range.mp hk)⟩
section
variable {P:Nat->Option Df}(h:HasP0 P){M:Mem}
include h
theorem DY (n:Nat){p B:Nat}(hp:aU M p B):au (aw P (n+1) 30 [.cell p] M) fun d M'=>d=.cell p/\aU M' p B/\bw p M M':=by
 obtain ⟨c,cells,a,st,e1,e2,lt,a0,aB,s0⟩:=hp.ex
 have ne:c≠p:=tqk lt
 have hpl:p<M.length:=(List.getElem?_eq_some_iff.mp e1).1
 refine aL h.law_anew rfl ?_
 simp [jJ,e1,H8]
 refine ⟨⟨c,cells,a,0,by simp [hpl],?_,lt,a0,aB,by omega⟩,bw.set⟩
 rw [List.getElem?_set_ne (Ne.symm ne)];exact e2
theorem tk (n:Nat){p B many:Nat}{k:D->Mem->Prop}(hp:aU M p B)(hB:B<=1000000)(h0:0<many)(h1:many<=10000000)(hk:∀(v:Nat) (M':Mem),v<many->aU M' p (B+1)->bw p M M'->k (nD v) M'):au (aw P (n+2) 31 [.cell p,nD many] M) k:=
 a7 (wK h n hp hB h0 h1) fun d M' ⟨v,e,hv,hp',hk'⟩=>by subst e;exact hk v M' hv hp' hk'
end
theorem bd {B c k m:Nat}(h:B<=c)(e:c+k<=m):B+k<=m:=tqh (Nat.add_le_add_right h k) e
theorem yB {B k m:Nat}(e:k<=m):B+k<=B+m:=Nat.add_le_add_left e B
theorem oA {xs:List D}{v:Nat}{M:Mem}(h:v<xs.length):cY (.lst xs) (nD v) M=some xs[v]:=by
 show (cb xs.length (v:Int)).bind (fun j=>xs[j]?)=_
 rw [fo h]
 simp [h]
theorem ua {Z:Env}{M:Mem}{j v c:Nat}(h:Z[j]?.getD none=some (nD v)):(aJ (aW .lt (ah j) (gC (.int (c:Int)))):GT) Z M=.ok (decide (v<c)) M:=by
 refine aS ?_
 simp only [fG,ft,bc,cR]
 refine ⟨_,h,_,rfl,_,rfl,?_,trivial⟩
 simp
theorem lH {Z:Env}{M:Mem}{j v c:Nat}(h:Z[j]?.getD none=some (nD v)):(aJ (aW .eq (ah j) (gC (.int (c:Int)))):GT) Z M=.ok ((v:Int)==(c:Int)) M:=by
 refine aS ?_
 simp only [fG,ft,bc,cR]
 exact ⟨_,h,_,rfl,_,rfl,rfl,trivial⟩
theorem JS {Z:Env}{M:Mem}{j v c:Nat}(h:Z[j]?.getD none=some (nD v)):(aJ (aW .gt (ah j) (gC (.int (c:Int)))):GT) Z M=.ok (decide ((c:Int)<(v:Int))) M:=by
 refine aS ?_
 simp only [fG,ft,bc,cR]
 exact ⟨_,h,_,rfl,_,rfl,rfl,trivial⟩
section
variable {Z:Env}{M:Mem}{g a:GE}{rest:GS}{kf:Fl->Mem->Prop}
section
variable {P:Nat->Option Df}(hp_:HasP0 P)(n:Nat){i j p B many:Nat}(hj:Z[j]?.getD none=some (.cell p))(hg:g Z M=.ok (nD many) M)(hp:aU M p B)(hB:B<=1000000)(h0:0<many)(h1:many<=10000000)
include hp_ hj hg hp hB h0 h1
theorem iz:au (aA 31 (aw P (n+2)) (ag (ah j) (ag g av)) Z M) fun d M'=>∃v:Nat,d=nD v/\v<many/\aU M' p (B+1)/\bw p M M':=by
 rw [dI (aI (ba hj) (aI hg rfl))]
 exact wK hp_ n hp hB h0 h1
theorem fN (hk:∀(v:Nat) (M':Mem),v<many->aU M' p (B+1)->bw p M M'->au (rest (Z.set i (some (nD v))) M') kf):au (aj (aV (.one i) (aA 31 (aw P (n+2)) (ag (ah j) (ag g av)))) rest Z M) kf:=by
 refine cS (iz hp_ n hj hg hp hB h0 h1) ?_
 rintro x M' ⟨v,rfl,a,b,c⟩
 exact hk v M' a b c
theorem vF {xs:List D}(hl:a Z M=.ok (.lst xs) M)(hz:xs.length=many):au (aO a (aA 31 (aw P (n+2)) (ag (ah j) (ag g av))) Z M) fun d M'=>d∈xs/\aU M' p (B+1)/\bw p M M':=by
 unfold aO
 rw [hl,bR,kc,bR]
 refine a7 (iz hp_ n hj hg hp hB h0 h1) ?_
 rintro x M' ⟨v,rfl,a,b,c⟩
 rw [oA (by omega)]
 exact ⟨List.getElem_mem _,b,c⟩
end
end
section
variable {Z:Env}{M:Mem}{k:D->Mem->Prop}
theorem kW {e:GE}{K:Fl->Mem->Prop}(h:au (e Z M) fun x M=>K (.ret x) M):au (aj (bh e) ax Z M) K:=by
 simp only [aQ,cF]
 exact h
theorem Ax {e:GE}{j v w:Nat}(he:e Z M=.ok (nD v) M)(hj:Z[j]?.getD none=some (nD w))(hw:0<w):aH false .mod e (ah j) Z M=.ok (nD (v % w)) M:=by
 unfold aH
 rw [he]
 show (ah j Z M).bind _=_
 rw [ba hj]
 show (if (0:Int)<(w:Int) then Res.ok (D.int ((v:Int) % (w:Int))) M else .bad)=_
 rw [if_pos (by omega)]
 rfl
theorem so {e f:GE}{v w:Nat}(he:e Z M=.ok (nD v) M)(hf:f Z M=.ok (nD w) M):aH false .add e f Z M=.ok (nD (v+w)) M:=by
 unfold aH
 rw [he]
 show (f Z M).bind _=_
 rw [hf]
 rfl
theorem FK {e:GE}{v c:Nat}(he:e Z M=.ok (nD v) M)(hc:c<=v):aH false .sub e (gC (.int (c:Int))) Z M=.ok (nD (v-c)) M:=by
 unfold aH
 rw [he]
 show Res.ok (D.int ((v:Int)-(c:Int))) M=_
 rw [<- Int.ofNat_sub hc]
end
section
variable {P:Nat->Option Df}(h:HasP P){M:Mem}
include h
theorem zB (n:Nat){p B w:Nat}(hp:aU M p B)(hB:B<=900000)(w2:2<=w)(w4:w<=4):au (aw P (n+3) 32 [.cell p,nD w] M) fun d M'=>∃t,d=a8 t/\kn w t/\aU M' p (B+7)/\bw p M M':=by
 have w0:0<w:=tqi (by decide) w2
 have wM:w<=10000000:=tqh w4 (tqq rfl)
 refine aL h.law_tab rfl ?_
 show au (jm (aw P (n+2)) [some (.cell p),some (nD w),none,none,none,none] M) _
 unfold jm
 refine fN h n (many:=6) rfl rfl hp (tqh hB (by decide)) (by decide) (by decide) fun kind M1 hk p1 k1=>?_
 refine fN h n (many:=w) rfl rfl p1 (bd (k:=1) hB (by decide)) w0 wM fun word M2 hw p2 k2=>?_
 refine fN h n (many:=w) rfl rfl p2 (bd (k:=2) hB (by decide)) w0 wM fun other M3 ho p3 k3=>?_
 have K3:=(k1.trans k2).trans k3
 have fin:∀(l:List Nat) (M':Mem),kn w l->aU M' p (B+7)->bw p M M'->(l.map nD).length<=sz/\∃t,D.tup (l.map nD)=a8 t/\kn w t/\aU M' p (B+7)/\bw p M M':=fun l M' hl hp' hk'=>⟨aM (by rw [List.length_map,hl.1];omega),l,rfl,hl,hp',hk'⟩
 have p7:aU M3 p (B+7):=p3.mono (yB (k:=3) (by decide))
 show au (aj _ _ [some (.cell p),some (nD w),some (nD kind),some (nD word),some (nD other),none] M3) _
 refine dR (ua (c:=2) rfl) (fun _=>?_) fun _=>?_
 ·simp only [aQ,cF,dW,bp,bx,iA,kz,bc]
  refine ⟨_,rfl,_,rfl,⟨by omega,by omega⟩,?_⟩
  refine comp_map (ds:=(List.range w).map fun (k:Nat)=>D.int (k:Int)) (fun i acc M'=>∃t:List Nat,acc=t.map nD/\(∀x∈t,x<w)/\aU M' p (B+3+i)/\bw p M M') (aM (by simp;omega)) (fun _ _ _ _=>rfl) ⟨[],rfl,(fun _ hx=>nomatch hx),p3,K3⟩ ?_ ?_
  ·rintro i d acc M' hd _ ⟨t,rfl,ht,hp',hk'⟩
   have hi:i<w:=by
    have:=(List.getElem?_eq_some_iff.mp hd).1
    simpa using this
   refine ⟨_,rfl,a7 (iz h n (many:=w) rfl rfl hp' (by omega) w0 wM) ?_⟩
   rintro _ M4 ⟨v,rfl,hv,p4,k4⟩
   refine ⟨t++[v],by rw [List.map_append];rfl,fun x hx=>?_,p4,hk'.trans k4⟩
   rcases List.mem_append.mp hx with z|z
   ·exact ht x z
   ·rw [List.mem_singleton.mp z];exact hv
  ·rintro acc M' hl ⟨t,rfl,ht,hp',hk'⟩
   simp only [List.length_map,List.length_range] at hl hp'
   exact cO.mpr (fin t M' ⟨hl,ht⟩ (hp'.mono (by omega)) hk')
 refine dR (lH (c:=2) rfl) (fun _=>?_) fun _=>?_
 ·simp only [aQ,cF,dW,bp,bx,iA,kz,bc]
  refine ⟨_,rfl,_,rfl,⟨by omega,by omega⟩,?_⟩
  exact vN (fun k=>(k+1+word) % w) (by omega) (fun k hk=>Ax (so (so (ba rfl) rfl) (ba rfl)) rfl w0) (cO.mpr (fin _ M3 (wI fun k _=>Nat.mod_lt _ w0) p7 K3))
 refine dR (lH (c:=3) rfl) (fun _=>?_) fun _=>?_
 ·simp only [aQ,cF,dW,bp,bx,iA,kz,bc]
  refine ⟨_,rfl,_,rfl,⟨by omega,by omega⟩,?_⟩
  refine vN (fun k=>if k=word then other else k) (by omega) (fun k hk=>?_) (cO.mpr (fin _ M3 (wI fun k hk=>by split<;>assumption) p7 K3))
  have e:(aJ (aW .eq (ah 0) (ah 4)):GT) [some (.int (k:Int)),some (.cell p),some (nD w),some (nD kind),some (nD word),some (nD other),none] M3=.ok ((k:Int)==(word:Int)) M3:=rfl
  by_cases ck:k=word
  ·rw [if_pos ck]
   exact oz (k:=true) (e.trans (by rw [ck,beq_self_eq_true])) (fun _=>rfl) (fun z=>nomatch z)
  ·rw [if_neg ck]
   exact oz (k:=false) (e.trans (by rw [beq_eq_false_iff_ne.mpr (by omega)])) (fun z=>nomatch z) (fun _=>rfl)
 refine dR (lH (c:=4) rfl) (fun _=>kW ?_) fun _=>?_
 ·simp only [fK,jj,bp,bx,bc]
  refine ⟨_,rfl,aM (n:=1) (by decide),_,rfl,HH.mpr ⟨⟨aM (by simp;omega),by omega,by omega⟩,List.replicate w word,?_,⟨List.length_replicate,fun x hx=>by rw [List.eq_of_mem_replicate hx];exact hw⟩,p7,K3⟩⟩
  simp [a8,nD]
 ·simp only [aQ,gz,EX,bc,l8,cF,dW,bp,bx,eL]
  simp
  refine ⟨by omega,aM (by omega),word,fo hw,other,fo ho,((List.range w).set word other).set other word,?_,⟨by simp,fun x hx=>?_⟩,p7.app,K3.trans bw.app⟩
  ·simp [a8,nD,List.map_set]
  ·rcases List.mem_or_eq_of_mem_set hx with z|rfl
   ·rcases List.mem_or_eq_of_mem_set z with y|rfl
    ·exact List.mem_range.mp y
    ·exact ho
   ·exact hw
theorem BF (n:Nat){p B w pl:Nat}(hp:aU M p B)(hB:B<=800000)(w2:2<=w)(w4:w<=4)(p1:1<=pl)(p2:pl<=2):au (aw P (n+4) 33 [.cell p,nD w,nD pl] M) fun d M'=>∃e:bB,d=e.d/\c9 w pl e/\aU M' p (B+40)/\bw p M M':=by
 have pM:pl<=10000000:=tqh p2 (tqq rfl)
 refine aL h.law_deed rfl ?_
 show au (iB (aw P (n+3)) [some (.cell p),some (nD w),some (nD pl),none,none,none,none] M) _
 unfold iB
 refine fN h (n+1) (many:=8) rfl rfl hp (tqh hB (by decide)) (by decide) (by decide) fun kind M1 hk q1 k1=>?_
 refine cS (k:=fun d M'=>∃v:Nat,d=nD (1+v)/\v<3/\aU M' p (B+2)/\bw p M1 M') ?_ ?_
 ·rw [fK]
  simp only [cR]
  refine a7 (iz h (n+1) (many:=3) rfl rfl q1 (bd (k:=1) hB (by decide)) (by decide) (by decide)) ?_
  rintro _ M2 ⟨v,rfl,hv,q,kk⟩
  exact gF.mpr ⟨v,by show D.int (1+(v:Int))=D.int ((1+v:Nat):Int);rw [Int.natCast_add];rfl,hv,q,kk⟩
 rintro _ M2 ⟨price,rfl,hc,q2,k2⟩
 refine fN h (n+1) (many:=pl) rfl rfl q2 (bd (k:=2) hB (by decide)) p1 pM fun at_ M3 ha q3 k3=>?_
 refine fN h (n+1) (many:=pl) rfl rfl q3 (bd (k:=3) hB (by decide)) p1 pM fun other M4 ho q4 k4=>?_
 have K4:=((k1.trans k2).trans k3).trans k4
 have co:ia (1+price):=⟨by omega,by omega⟩
 have q40:aU M4 p (B+40):=q4.mono (yB (k:=4) (by decide))
 show au (aj _ _ [some (.cell p),some (nD w),some (nD pl),some (nD kind),some (nD (1+price)),some (nD at_),some (nD other)] M4) _
 refine dR (ua (c:=3) rfl) (fun _=>kW ?_) fun _=>?_
 ·simp only [jj,bp,bx,cR,bc,dP]
  refine ⟨_,rfl,_,rfl,_,rfl,a7 (zB h n q4 (bd (k:=4) hB (by decide)) w2 w4) fun d M' ⟨t,e,ht,hp',hk'⟩=>⟨_,rfl,aM (n:=4) (by decide),.turn at_ t (1+price),?_,⟨ha,ht,co⟩,hp'.mono (yB (k:=11) (by decide)),K4.trans hk'⟩⟩
  subst e;rfl
 refine dR (ua (c:=5) rfl) (fun _=>kW ?_) fun _=>?_
 ·obtain ⟨o,eo,ho'⟩:∃o:Nat,ll (aJ (aW .eq (ah 3) (gI 3))) (aH false .mod (aH false .add (ah 5) (gI 1)) (ah 2)) (ah 6) [some (.cell p),some (nD w),some (nD pl),some (nD kind),some (nD (1+price)),some (nD at_),some (nD other)] M4=.ok (nD o) M4/\o<pl:=by
   have e:(aJ (aW .eq (ah 3) (gI 3)):GT) [some (.cell p),some (nD w),some (nD pl),some (nD kind),some (nD (1+price)),some (nD at_),some (nD other)] M4=.ok ((kind:Int)==3) M4:=lH (c:=3) rfl
   cases q:(kind:Int)==3 with
   |true=>rw [q] at e;exact ⟨(at_+1) % pl,oz e (fun _=>Ax (w:=pl) (so (v:=at_) (w:=1) (ba rfl) rfl) rfl p1) (fun z=>nomatch z),Nat.mod_lt _ p1⟩
   |false=>rw [q] at e;exact ⟨other,oz e (fun z=>nomatch z) (fun _=>ba rfl),ho⟩
  simp only [jj,bp,bx,cR,bc]
  refine ⟨_,rfl,?_⟩
  rw [eo,kc]
  exact ⟨_,rfl,aM (n:=4) (by decide),.move at_ o (1+price),rfl,⟨ha,ho',co⟩,q40,K4⟩
 refine dR (lH (c:=5) rfl) (fun _=>kW ?_) fun _=>?_
 ·simp only [jj,bp,bx,cR]
  show au (aw P (n+3) 31 [.cell p,nD w] M4) _
  refine tk h (n+1) q4 (bd (k:=4) hB (by decide)) (tqi (by decide) w2) (tqh w4 (tqq rfl)) fun v M5 hv q5 k5=>?_
  exact ⟨aM (n:=4) (by decide),.put at_ v (1+price),rfl,⟨ha,hv,co⟩,q5.mono (yB (k:=5) (by decide)),K4.trans k5⟩
 ·simp only [aQ,cF,jj,bp,bx,cR,dW,iA,kz,bc]
  refine ⟨_,rfl,_,rfl,_,rfl,_,rfl,⟨by omega,by omega⟩,?_⟩
  refine comp_map (ds:=(List.range w).map fun (k:Nat)=>D.int (k:Int)) (fun i acc M'=>∃t:List (List Nat),acc=t.map a8/\(∀x∈t,kn w x)/\aU M' p (B+4+i*7)/\bw p M M') (aM (by simp;omega)) (fun _ _ _ _=>rfl) ⟨[],rfl,(fun _ hx=>nomatch hx),q4,K4⟩ ?_ ?_
  ·rintro i d acc M' hd _ ⟨t,rfl,ht,hp',hk'⟩
   have hi:i<w:=by
    have:=(List.getElem?_eq_some_iff.mp hd).1
    simpa using this
   refine ⟨_,rfl,?_⟩
   rw [dI (aI (ba rfl) (aI (ba rfl) rfl))]
   refine a7 (zB h n hp' (by omega) w2 w4) ?_
   rintro _ M4 ⟨v,rfl,hv,p4,k4⟩
   refine ⟨t++[v],by rw [List.map_append];rfl,fun x hx=>?_,p4.mono (by omega),hk'.trans k4⟩
   rcases List.mem_append.mp hx with z|z
   ·exact ht x z
   ·rw [List.mem_singleton.mp z];exact hv
  ·rintro acc M' hl ⟨t,rfl,ht,hp',hk'⟩
   simp only [List.length_map,List.length_range] at hl hp'
   exact cO.mpr ⟨aM (by rw [List.length_map];omega),_,rfl,aM (n:=5) (by decide),.join at_ other t (1+price),rfl,⟨ha,ho,⟨hl,ht⟩,co⟩,hp'.mono (by omega),hk'⟩
theorem xM (n:Nat){p B W Pl mo:Nat}(hp:aU M p B)(hB:B<=700000)(W2:2<=W)(W4:W<=4)(P1:1<=Pl)(P2:Pl<=2)(m1:1<=mo)(m6:mo<=6):au (aw P (n+5) 34 [.cell p,nD W,nD Pl,nD mo] M) fun d M'=>∃m:aZ,d=m.d/\br m/\m.words<=W/\m.places<=Pl/\m.deeds.length<=mo/\aU M' p (B+300)/\bw p M M':=by
 refine aL h.law_machine rfl ?_
 show au (fV (aw P (n+4)) [some (.cell p),some (nD W),some (nD Pl),some (nD mo),none,none,none,none] M) _
 unfold fV
 have plus:∀{Z:Env}{M:Mem}{g:GE}{B c many:Nat}{rest:GS}{K:Fl->Mem->Prop}{i:Nat},Z[0]?.getD none=some (.cell p)->g Z M=.ok (nD many) M->aU M p B->B<=1000000->0<many->many<=10000000->(∀(v:Nat) (M':Mem),v<many->aU M' p (B+1)->bw p M M'->au (rest (Z.set i (some (nD (c+v)))) M') K)->au (aj (aV (.one i) (aH false .add (gC (.int (c:Int))) (aA 31 (aw P (n+4)) (ag (ah 0) (ag g av))))) rest Z M) K:=by
  intro Z M g B c many rest K i e0 eg hp hB h0 h1 hk
  refine cS (k:=fun d M'=>∃v:Nat,d=nD (c+v)/\v<many/\aU M' p (B+1)/\bw p M M') ?_ ?_
  ·rw [fK]
   simp only [cR]
   refine a7 (iz h (n+2) (many:=many) e0 eg hp hB h0 h1) ?_
   rintro _ M2 ⟨v,rfl,hv,q,kk⟩
   exact gF.mpr ⟨v,by show D.int ((c:Int)+(v:Int))=D.int ((c+v:Nat):Int);rw [Int.natCast_add],hv,q,kk⟩
  ·rintro _ M' ⟨v,rfl,a,b,c⟩
   exact hk v M' a b c
 refine plus (c:=2) (many:=W-1) rfl (FK (c:=1) (ba rfl) (by omega)) hp (tqh hB (by decide)) (by omega) (by omega) fun w M1 hw q1 k1=>?_
 refine plus (c:=1) (many:=Pl) rfl (ba rfl) q1 (bd (k:=1) hB (by decide)) P1 (tqh P2 (tqq rfl)) fun pl M2 hpl q2 k2=>?_
 have pl2:p<M2.length:=q2.lt
 have K2:=k1.trans k2
 have ML:M.length<=M2.length:=K2.len
 have w2:2<=2+w:=Nat.le_add_right _ _
 have w4:2+w<=4:=by omega
 have l1:1<=1+pl:=Nat.le_add_right _ _
 have l2:1+pl<=2:=by omega
 generalize hW:2+w=w' at w2 w4
 generalize hP:1+pl=p' at l1 l2
 refine cS (k:=fun d M'=>d=.cell M2.length/\M'=M2++[[]]) ?_ ?_
 ·simp only [mX,bx]
  exact ow.mpr ⟨Nat.zero_le _,rfl,rfl⟩
 rintro _ _ ⟨rfl,rfl⟩
 show au (aj _ _ [some (.cell p),some (nD w'),some (nD p'),some (nD mo),some (.cell M2.length),none,none,none] (M2++[[]])) _
 simp only [aQ,l9,kz,fK,cR]
 refine a7 (iz h (n+2) (many:=mo) rfl rfl q2.app (bd (k:=2) hB (by decide)) m1 (tqh m6 (tqq rfl))) ?_
 rintro _ M3 ⟨many,rfl,hmany,q3,k3⟩
 have e3:M3[M2.length]?=some []:=k3.get (List.getElem?_concat_length) (by omega)
 have K3:bw p M M3:=K2.trans (bw.app.trans k3)
 generalize hq:M2.length=q at *
 refine gF.mpr ⟨_,rfl,⟨by omega,by omega⟩,?_⟩
 rw [show (1+(many:Int)).toNat=1+many by omega]
 refine fP (ds:=(List.range (1+many)).map fun (k:Nat)=>D.int (k:Int)) (fun i Z M'=>∃ds:List bB,M'[q]?=some (ds.map bB.d)/\ds.length=i/\(∀d∈ds,c9 w' p' d)/\aU M' p (B+3+i*45)/\bw p M M'/\∃a b c,Z=[some (.cell p),some (nD w'),some (nD p'),some (nD mo),some (.cell q),a,b,c])
  (fun _ _ _ _=>rfl) ⟨[],e3,rfl,(fun _ hd=>nomatch hd),q3,K3,none,none,none,rfl⟩ ?_ ?_
 ·rintro i d Z M' hd ⟨ds,e4,hl,hds,q4,K4,a,b,c,rfl⟩
  have hi:i<1+many:=by
   have:=(List.getElem?_eq_some_iff.mp hd).1
   simpa using this
  have hi6:i<=5:=by omega
  have hB4:B+3+i*45<=700228:=by omega
  have hqM:M.length<=q:=ML
  have hpq:p<q:=pl2
  refine ⟨_,rfl,?_⟩
  refine fN h (n+2) (many:=5) rfl rfl q4 (tqh hB4 (by decide)) (by decide) (by decide) fun again M5 ha q5 k5=>?_
  have e5:=k5.get e4 (Nat.ne_of_gt hpq)
  refine cS (k:=fun d M'=>∃e:bB,d=e.d/\c9 w' p' e/\aU M' p (B+3+i*45+41)/\bw p M5 M') ?_ ?_
  ·rw [dI (aI (ba rfl) (aI (ba rfl) (aI (ba rfl) rfl)))]
   exact a7 (BF h n (w:=w') (pl:=p') q5 (bd (k:=1) hB4 (by decide)) w2 w4 l1 l2) fun d M' ⟨e,a,b,c,d⟩=>⟨e,a,b,c,d⟩
  rintro _ M6 ⟨e,rfl,he,q6,k6⟩
  have e6:=k6.get e5 (Nat.ne_of_gt hpq)
  have K6:=(K4.trans k5).trans k6
  have hsm:(ds.map bB.d).length<sz:=Nat.lt_of_le_of_lt (show (ds.map bB.d).length<=50 by rw [List.length_map,hl];omega) (by decide)
  have fin:∀(e:bB) (M'':Mem) (x5 x6:Option D),c9 w' p' e->M''[q]?=some (ds.map bB.d)->aU M'' p (B+3+(i+1)*45)->bw p M M''->
   au (aj (nH (ah 4) (ah 7)) ax [some (.cell p),some (nD w'),some (nD p'),some (nD mo),some (.cell q),x5,x6,some e.d] M'') fun fl M'=>∃ρ',fl=.next ρ'/\∃ds:List bB,M'[q]?=some (ds.map bB.d)/\ds.length=i+1/\(∀d∈ds,c9 w' p' d)/\aU M' p (B+3+(i+1)*45)/\bw p M M'/\∃a b c,ρ'=[some (.cell p),some (nD w'),some (nD p'),some (nD mo),some (.cell q),a,b,c]:=by
   intro e M'' x5 x6 he e7 q7 K7
   simp only [aQ,FY,bc]
   refine ⟨_,rfl,_,rfl,q,ds.map bB.d,rfl,e7,hsm,_,rfl,ds++[e],?_,by rw [List.length_append,hl];rfl,fun d hd=>?_,q7.setq hpq,K7.setq hqM,_,_,_,rfl⟩
   ·rw [List.getElem?_set_self (List.getElem?_eq_some_iff.mp e7).1,List.map_append];rfl
   ·rcases List.mem_append.mp hd with z|z
    ·exact hds d z
    ·rw [List.mem_singleton.mp z];exact he
  show au (aj _ _ [some (.cell p),some (nD w'),some (nD p'),some (nD mo),some (.cell q),some d,some (nD again),some e.d] M6) _
  have en:(aJ (aW .ne (ah 4) (bD false av)):GT) [some (.cell p),some (nD w'),some (nD p'),some (nD mo),some (.cell q),some d,some (nD again),some e.d] M6=.ok (!ds.isEmpty) M6:=by
   refine lZ ?_
   unfold aW
   show (dv M6 (bN .ne (.cell q) (.lst []) M6)).bind _=_
   rw [ne_nil e6];rfl
  refine dR (Fq (lH (c:=0) rfl) en) (fun cc=>?_) fun _=>fin e M6 _ _ he e6 (q6.mono (by omega)) K6
  have hpos:0<ds.length:=by
   rw [Bool.and_eq_true] at cc
   cases ds with
   |nil=>exact absurd cc.2 (by decide)
   |cons _ _=>exact Nat.succ_pos _
  simp only [aQ,gz,fK,lI,eY,jj,bp,bx,yN,cR]
  have el:bt .len (ag (ah 4) av) [some (.cell p),some (nD w'),some (nD p'),some (nD mo),some (.cell q),some d,some (nD again),some e.d] M6=.ok (nD ds.length) M6:=by
   refine aE ?_
   simp only [dW,bp,bx,bc]
   exact ⟨_,rfl,vA.mpr ⟨_,e6,by rw [List.length_map],rfl⟩⟩
  show au (aA 31 (aw P (n+4)) (ag (ah 0) (ag (bt .len (ag (ah 4) av)) av)) [some (.cell p),some (nD w'),some (nD p'),some (nD mo),some (.cell q),some d,some (nD again),some e.d] M6) _
  refine a7 (iz h (n+2) (many:=ds.length) rfl el q6 (bd (k:=41) hB4 (by decide)) hpos (by omega)) ?_
  rintro _ M7 ⟨v,rfl,hv,q7,k7⟩
  have e7:=k7.get e6 (Nat.ne_of_gt hpq)
  refine ⟨(ds.getD v e).d,?_,1,rfl,rfl,rfl,?_⟩
  ·show (M7[q]?).bind (fun ds=>(cb ds.length (v:Int)).bind fun j=>ds[j]?)=_
   rw [e7]
   show (cb (ds.map bB.d).length (v:Int)).bind (fun j=>(ds.map bB.d)[j]?)=_
   rw [fo (by rw [List.length_map];exact hv)]
   simp [List.getD_eq_getElem?_getD,hv]
  ·refine a7 (CM (d:=ds.getD v e) (c:=e.cost) (k:=fun x M'=>au (aj (nH (ah 4) (ah 7)) ax [some (.cell p),some (nD w'),some (nD p'),some (nD mo),some (.cell q),some d,some (nD again),some x] M') fun fl M'=>∃ρ',fl=.next ρ'/\∃ds:List bB,M'[q]?=some (ds.map bB.d)/\ds.length=i+1/\(∀d∈ds,c9 w' p' d)/\aU M' p (B+3+(i+1)*45)/\bw p M M'/\∃a b c,ρ'=[some (.cell p),some (nD w'),some (nD p'),some (nD mo),some (.cell q),a,b,c]) ?_) fun x1 M3 hx=>⟨1,rfl,nD e.cost,AJ,aM (n:=1) (by decide),hx⟩
   exact fin _ M7 _ _ (Bi (hds _ (getD_mem hv)) (Fg he)) e7 (q7.mono (by omega)) (K6.trans k7)
 ·rintro Z M' ⟨ds,e4,hl,hds,q4,K4,a,b,c,rfl⟩
  simp only [List.length_map,List.length_range] at hl q4
  refine kW ?_
  simp only [jj,bp,bx,dW,bc]
  refine ⟨_,rfl,_,rfl,_,rfl,qb.mpr ⟨_,e4,aM (n:=3) (by decide),⟨w',p',ds⟩,rfl,⟨w2,w4,l1,l2,?_,?_,hds⟩,?_,?_,?_,q4.mono (by omega),K4⟩⟩
  ·show 1<=ds.length;omega
  ·show ds.length<=6;omega
  ·show w'<=W;omega
  ·show p'<=Pl;omega
  ·show ds.length<=mo;omega
theorem wN (h35:P 35=some ⟨3,6,ik⟩)(n:Nat){p B mo:Nat}{m:aZ}(hm:br m)(hp:aU M p B)(hB:B<=700000)(hmo:mo<=40):au (aw P (n+3) 35 [.cell p,m.d,nD mo] M) fun d M'=>∃r:List Nat,d=.lst (r.map nD)/\gr m r/\r.length<=mo/\aU M' p (B+50)/\bw p M M':=by
 refine aL h35 rfl ?_
 have d1:=hm.d1
 have d6:=hm.d6
 simp only [ik,aQ,gz,dP,bp,bx,cR,bc,Ds]
 simp only [Option.some.injEq,exists_eq_left',List.getElem?_cons_zero,List.getElem?_cons_succ,Option.getD_some,List.map_cons,List.map_nil,List.cons_append,List.nil_append,nD]
 refine tk h n (many:=4) hp (by omega) (by omega) (by omega) fun kind M1 hk q1 k1=>?_
 simp [nD]
 have core:∀(many:Nat) (M2:Mem),many<=mo->aU M2 p (B+2)->bw p M M2->au (eF (d7 (dD.one 0) (cg (aA 31 (aw P (n+2)) (ag (ah 1) (ag (bt vZ.len (ag (aO (ah 2) (gC (D.int 2))) av)) av))))
  [none,some (D.cell p),some m.d,some (D.int mo),some (D.int kind),some (D.int many),none]) (fun x=>some (List.map (fun k:Nat=>D.int k) (List.range many))) [] M2) fun acc M_2=>acc.length<=sz/\
   ((¬(kind : Int) = 1 /\ ∃ r, acc = List.map nD r /\ gr m r /\ r.length <= mo /\ aU M_2 p (B + 50) /\ bw p M M_2) \/ (kind : Int) = 1 /\ cL false D.non = true /\ cL true (D.int 2) = true /\
     au (eG false (D.lst acc) D.non (D.int 2) M_2) fun x_1 M_3=>au (fR false nv.mul x_1 (D.int many) M_3) fun x_2 M_4=>cL false D.non=true/\cL true (D.int many)=true/\
      au (eG false x_2 D.non (D.int many) M_4) fun d M'=>∃r,d=D.lst (List.map nD r)/\gr m r/\r.length<=mo/\aU M' p (B+50)/\bw p M M'):=by
  intro many M2 hmany q2 k2
  refine comp_map (ds:=(List.range many).map fun (k:Nat)=>D.int (k:Int)) (fun i acc M'=>∃t:List Nat,acc=t.map nD/\(∀x∈t,x<m.deeds.length)/\aU M' p (B+2+i)/\bw p M M') (aM (by simp;omega)) (fun _ _ _ _=>rfl) ⟨[],rfl,by simp,q2,k2⟩ ?_ ?_
  ·rintro i d acc M' hd _ ⟨t,rfl,ht,hp',hk'⟩
   have hi:i<many:=by
    have:=(List.getElem?_eq_some_iff.mp hd).1
    simpa using this
   refine ⟨_,rfl,?_⟩
   simp [-iT,HN]
   refine tk h n hp' (by omega) (by omega) (by omega) fun v M4 hv p4 k4=>⟨t++[v],by simp,fun x hx=>?_,p4.mono (by omega),hk'.trans k4⟩
   rcases List.mem_append.mp hx with z|z
   ·exact ht x z
   ·simp at z;omega
  ·rintro acc M' hl ⟨t,rfl,ht,hp',hk'⟩
   simp at hl
   have P50:aU M' p (B+50):=hp'.mono (by simp;omega)
   refine ⟨aM (by simp;omega),?_⟩
   by_cases c1:kind=1
   ·refine .inr ⟨by omega,rfl,rfl,(uP (a:=2)).mpr ⟨aM (by simp;omega),HI.mpr ⟨⟨?_,by omega,by omega⟩,cO.mpr ⟨?_,rfl,rfl,uP.mpr ⟨?_,?_⟩⟩⟩⟩⟩
    ·refine tqh (Nat.mul_le_mul (show _<=2 by simp;omega) (show _<=40 by omega)) (by decide)
    ·rw [Int.toNat_natCast]
     simp
     exact tqh (Nat.mul_le_mul (show many<=40 by omega) (show min 2 t.length<=2 by omega)) (by decide)
    ·exact aM (by simp;omega)
    ·rw [Int.toNat_natCast]
     refine ⟨((List.replicate many (t.take 2)).flatten).take many,by simp [List.map_flatten,List.map_take],⟨by simp;omega,fun i hi=>?_⟩,by simp;omega,P50,hk'⟩
     have:=List.mem_of_mem_take hi
     simp only [List.mem_flatten,List.mem_replicate] at this
     obtain ⟨l,⟨_,rfl⟩,hl2⟩:=this
     exact ht i (List.mem_of_mem_take hl2)
   ·exact .inl ⟨by omega,t,rfl,⟨by omega,ht⟩,by omega,P50,hk'⟩
 by_cases c0:kind=0
 ·exact .inr ⟨c0,by omega,core mo M1 (tqg _) (q1.mono (by omega)) k1⟩
 ·refine .inl ⟨c0,?_⟩
  rw [show ((mo:Int)+1)=((mo+1:Nat):Int) by omega]
  refine tk h n q1 (by omega) (by omega) (by omega) fun many M2 hmany q2 k2=>⟨many,rfl,⟨by omega,by omega⟩,?_⟩
  exact core many M2 (by omega) q2 (k1.trans k2)
end
end LD
namespace LD
open PySem
theorem D3 {xs:List D}{a b:Nat}{M:Mem}{k:D->Mem->Prop}:au (eG false (.frz xs) (.int a) (.int b) M) k↔(cut xs (min a xs.length) (min b xs.length)).length<=sz/\k (.lst (cut xs (min a xs.length) (min b xs.length))) M:=by
 show au (match a9 xs.length 0 (.int a),a9 xs.length xs.length (.int b) with|some l,some h=>cf false (cut xs l h) M|_,_=>.bad) k↔_
 have e1:a9 xs.length 0 (.int a)=some (min a xs.length):=by
  show some _=_
  rw [if_neg (by omega)];simp
 have e2:a9 xs.length xs.length (.int b)=some (min b xs.length):=by
  show some _=_
  rw [if_neg (by omega)];simp
 rw [e1,e2]
 exact cO
theorem BJ {xs:List D}{b:Nat}{M:Mem}{k:D->Mem->Prop}:au (eG false (.frz xs) .non (.int b) M) k↔(cut xs 0 (min b xs.length)).length<=sz/\k (.lst (cut xs 0 (min b xs.length))) M:=by
 show au (match a9 xs.length 0 D.non,a9 xs.length xs.length (.int b) with|some l,some h=>cf false (cut xs l h) M|_,_=>.bad) k↔_
 have e2:a9 xs.length xs.length (.int b)=some (min b xs.length):=by
  show some _=_
  rw [if_neg (by omega)];simp
 rw [e2]
 exact cO
theorem xy {α β:Type}(f:α->β)(l:List α)(a b:Nat):cut (l.map f) a b=(cut l a b).map f:=by simp [cut,List.map_take,List.map_drop]
theorem sh {α:Type}(l:List α)(a b:Nat):(cut l a b).length<=l.length:=by simp [cut];omega
section
variable {P:Nat->Option Df}(h:HasP0 P){M:Mem}
include h
theorem DR (n:Nat){ns:List Int}(hn:ns.length<=63):au (aw P (n+1) 29 [.frz (ns.map D.int)] []) fun d M'=>d=.cell 1/\aU M' 1 0:=by
 refine aL h.law_open rfl ?_
 simp [jI,cL]
 refine (BJ (b:=12)).mpr ⟨?_,?_⟩
 ·exact aM (tqh (sh _ _ _) (by simp;omega))
 simp only [Co,ow]
 refine ⟨aM (tqh (sh _ _ _) (by simp;omega)),(D3 (a:=12) (b:=63)).mpr ⟨aM (tqh (sh _ _ _) (by simp;omega)),⟨rfl,rfl⟩,?_⟩⟩
 rw [xy,xy]
 simp only [List.length_map,List.length_nil,List.nil_append]
 have e63:min 63 ns.length=ns.length:=by omega
 rw [e63]
 refine fP (ds:=eJ 0 ((cut ns (min 12 ns.length) ns.length).map D.int)) (fun i Z M'=>∃l:List Int,M'=[l.map D.int]/\l.length=min 12 ns.length/\∃a b,Z=[some (.frz (ns.map D.int)),some (.cell 0),a,b]) (fun _ _ _ _=>rfl) ⟨cut ns 0 (min 12 ns.length),rfl,by simp [cut],none,none,rfl⟩ ?_ ?_
 ·rintro i d Z M' hd ⟨l,rfl,hl,a,b,rfl⟩
  rw [iU,List.getElem?_map] at hd
  cases e:(cut ns (min 12 ns.length) ns.length)[i]? with
  |none=>rw [e] at hd;cases hd
  | some x =>
    rw [e] at hd
    have hd:D.tup [.int ((0+i:Nat):Int),.int x]=d:=Option.some.inj hd
    subst hd
    have hi:=(List.getElem?_eq_some_iff.mp e).1
    have hlen:12<ns.length:=by
     by_cases c:12<ns.length
     ·exact c
     ·have:min 12 ns.length=ns.length:=by omega
      rw [this] at hi
      simp [cut] at hi
    have l12:l.length=12:=by omega
    have r1:=Int.emod_nonneg (i:Int) (show (12:Int)≠0 by decide)
    have r2:=Int.emod_lt_of_pos (i:Int) (show (0:Int)<12 by decide)
    obtain ⟨y,ey⟩:=rY (l:=l) r1 (by rw [l12];exact r2)
    obtain ⟨k,ek⟩:∃k:Nat,(i:Int) % 12=(k:Int):=⟨((i:Int) % 12).toNat,by omega⟩
    refine ⟨_,rfl,?_⟩
    simp
    rw [ek] at ey ⊢
    have hk:k<l.length:=by omega
    refine ⟨_,ey,?_⟩
    simp only [gF]
    refine ⟨l.map D.int,rfl,k,?_,l.set k (y+x),?_,by simp [hl]⟩
    ·simpa using fo hk
    ·simp [List.map_set]
 ·rintro Z M' ⟨l,rfl,hl,a,b,rfl⟩
  simp
  exact ⟨by decide,⟨0,l,0,0,rfl,rfl,by decide,by decide,by decide,by decide⟩⟩
end
end LD
namespace LD
open PySem
theorem Sub.keep {p:Nat}{M M':Mem}(h:Sub M M'):bw p M M':=⟨h.len,fun k hk _=>h.at' k hk⟩
theorem Sub.pen {p B:Nat}{M M':Mem}(h:Sub M M')(hp:aU M p B):aU M' p B:=by
 obtain ⟨c,cells,a,st,e1,e2,r⟩:=hp.ex
 exact ⟨c,cells,a,st,h.get e1,h.get e2,r⟩
end LD
namespace LD
open PySem
structure y7 (P:Nat->Option Df):Prop where
 after:P 41=some ⟨2,4,jo⟩
 begins:P 42=some ⟨1,1,iI⟩
structure uj (P:Nat->Option Df):Prop where
 same:P 40=some ⟨2,2,dm⟩
theorem su:∀ds:List D,dJ ds ds=ds.map fun d=>.tup [d,d]
 |[]=>rfl
 |d::r=>by simp [dJ,su r]
theorem yq {ds:List D}{M:Mem}:bN .notin (.bl false) (.lst (ds.map fun _=>.bl true)) M=some true:=by
 show ((de M (.lst (ds.map fun _=>.bl true))).bind (jg (view M (.bl false)))).map (!·)=_
 show (jg (.bl false) (ds.map fun _=>.bl true)).map (!·)=_
 unfold jg
 rw [if_pos]
 ·have:(ds.map fun _=>D.bl true).any (fun y=>bu y (.bl false))=false:=by
   rw [List.any_eq_false];intro x hx;obtain ⟨_,_,rfl⟩:=List.mem_map.mp hx;simp [bu]
  rw [this];rfl
 ·simp [aN]
@[simp] theorem pP {m:Bool}{ds:List D}{M:Mem}{k:D->Mem->Prop}:au (gp (.list m) [.tup ds] M) k↔au (cf m ds M) k:=Iff.rfl
theorem bH {x y:Str}{b:Bool}(e:qT (.str x) (.str y)=some b)(M:Mem):bN .eq (.str x) (.str y) M=some b:=by
 show nr M (.str x) (.str y)=some b
 unfold nr
 rw [show qT (view M (.str x)) (view M (.str y))=some b from e]
theorem yP {m:aZ}{d:bB}{s:List Nat}(hd:c9 m.words m.places d)(hs:hX m s):fQ d s=s.set d.at' (fe d s):=by
 have a0:=ui hd
 rw [List.set_eq_take_append_cons_drop,if_pos (by rw [hs.1];exact a0)]
 simp [fQ]
theorem fc {D0:D}{nm w:Str}{A rest:GS}{Z:Env}{M:Mem}{k:Fl->Mem->Prop}(h0:Z[0]?=some (some D0))(e0:cY D0 (.int 0) M=some (.str nm))(c:bN .eq (.str nm) (.str w) M=some false)(h:au (rest Z M) k):au (aj (bo (aJ (aW .eq (aO (ah 0) (gI 0)) (gC (.str w)))) A ax) rest Z M) k:=by
 simp [h0,e0,c,h]
theorem oj {D0:D}{nm w:Str}{A rest:GS}{Z:Env}{M:Mem}{k:Fl->Mem->Prop}(h0:Z[0]?=some (some D0))(e0:cY D0 (.int 0) M=some (.str nm))(c:bN .eq (.str nm) (.str w) M=some true)(h:au (A Z M) (lA rest k)):au (aj (bo (aJ (aW .eq (aO (ah 0) (gI 0)) (gC (.str w)))) A ax) rest Z M) k:=by
 simp [h0,e0,c,h]
def uT (c:Call):GS:=aj (bo (aJ (aW .ne (bt .len (ag (ah 0) av)) (bt .len (ag (ah 1) av)))) rF ax) (aj (bh (aW .notin s8 (bX false 2 (.tup [0,1]) (lG (ah 0) (ah 1)) (cg (aA 40 c (ag (ah 0) (ag (ah 1) av))))))) ax)
section
variable {P:Nat->Option Df}(h:uj P){M:Mem}
include h
theorem zS (n:Nat){x y:D}{ds:List D}{Z:Env}{kl:List D->Mem->Prop}(hx:de M x=some ds)(hy:de M y=some ds)(hz:ds.length<=sz)(hs:∀d∈ds,aw P n 40 [d,d] M=.ok (.bl true) M)(hk:kl (ds.map fun _=>.bl true) M) :
 au (eF (d7 (.tup [0,1]) (cg (aA 40 (aw P n) (ag (ah 0) (ag (ah 1) av)))) (none::none::Z)) (oi x y) [] M) kl:=by
 refine jR (ds:=ds.map fun d=>.tup [d,d]) (fun _=>.bl true) (by simpa using hz) ?_ ?_ ?_
 ·simp [oi,hx,hy,su]
 ·intro d hd
  obtain ⟨e,he,rfl⟩:=List.mem_map.mp hd
  refine ⟨_,rfl,?_⟩
  refine aE ?_
  simp
  rw [hs e he]
  exact ⟨rfl,rfl⟩
 ·simpa [Function.comp_def] using hk
theorem BM (n:Nat){x y:D}{ds:List D}(hx:de M x=some ds)(hy:de M y=some ds)(lx:gp .len [x] M=.ok (.int ds.length) M)(ly:gp .len [y] M=.ok (.int ds.length) M)(sx:ig x=true)(sy:ig y=true)(hz:ds.length<=sz)(hs:∀d∈ds,aw P n 40 [d,d] M=.ok (.bl true) M) :
 au (uT (aw P n) [some x,some y] M) (gm fun d M'=>d=.bl true/\M'=M):=by
 simp [uT,lx,ly,sx,sy]
 exact zS h n hx hy hz hs ⟨by simpa using hz,yq,rfl⟩
end
section
variable {P:Nat->Option Df}(h:y7 P){M:Mem}
include h
set_option maxHeartbeats 2000000 in
theorem km (n:Nat){D0:D}{nm:Str}{s:List Nat}{a:Nat}{v:Nat}(ha:a<s.length)(hz:s.length<=100)(e0:∀M,cY D0 (.int 0) M=some (.str nm))(e1:∀M,cY D0 (.int 1) M=some (nD a))
 (bT bJ bM bP:Bool) (cT:∀M,bN .eq (.str nm) (.str "turn") M=some bT) (cJ:∀M,bN .eq (.str nm) (.str "join") M=some bJ) (cM:∀M,bN .eq (.str nm) (.str "move") M=some bM) (cP:∀M,bN .eq (.str nm) (.str "put") M=some bP)
 (hb:(bT=true/\bJ=false/\bM=false/\bP=false/\∀M,∃t,cY D0 (.int 2) M=some t/\cY t (nD (s.getD a 0)) M=some (nD v))
  \/(bT=false/\bJ=true/\bM=false/\bP=false/\∀M,∃t u o,cY D0 (.int 3) M=some t/\cY t (nD (s.getD a 0)) M=some u/\cY D0 (.int 2) M=some (nD o)/\o<s.length/\cY u (nD (s.getD o 0)) M=some (nD v))
  \/(bT=false/\bJ=false/\bM=true/\bP=false/\∀M,∃o,cY D0 (.int 2) M=some (nD o)/\o<s.length/\v=s.getD o 0)
  \/(bT=false/\bJ=false/\bM=false/\bP=true/\∀M,cY D0 (.int 2) M=some (nD v))) :
 aw P (n+1) 41 [D0,a8 s] M=.ok (a8 (s.set a v)) (M++[(s.set a v).map nD]):=by
 refine aE (aL h.after rfl ?_)
 have S:∀M i,i<s.length->cY (a8 s) (nD i) M=some (nD (s.getD i 0)):=fun M i hi=>jh hi
 have T:au (gp (.list true) [a8 s] M) (fun x M'=>x=.cell M.length/\M'=M++[s.map nD]):=by
  show au (gp (.list true) [.tup (s.map nD)] M) _
  rw [pP,ow]
  exact ⟨aM (by simp;omega),rfl,rfl⟩
 simp only [jo,aQ,gz,dW,eY,cR,bp,bx,bc,List.map_cons,List.map_nil,List.cons_append,List.nil_append,List.getElem?_cons_zero,List.getElem?_cons_succ,Option.getD_some,Option.some.injEq,exists_eq_left',eL]
 refine a7 T fun x M' hx=>?_
 obtain ⟨rfl,rfl⟩:=hx
 have q:=S (M++[s.map nD]) a ha
 refine ⟨_,rfl,_,rfl,_,e1 _,_,q,?_⟩
 have fin:∀Z:Env,Z[2]?=some (some (.cell M.length))->au (aj (bh (bt .tuple (ag (ah 2) av))) ax Z ((M++[s.map nD]).set M.length ((s.map nD).set a (nD v)))) (gm fun x M'=>x=a8 (s.set a v)/\M'=M++[(s.set a v).map nD]):=fun Z hρ=>by
  simp [hρ]
  simp [a8,List.map_set]
 have gl:(M++[s.map nD])[M.length]?=some (s.map nD):=by simp
 have ix:cb (s.map nD).length (a:Int)=some a:=fo (by simpa using ha)
 rcases hb with ⟨rfl,rfl,rfl,rfl,hv⟩|⟨rfl,rfl,rfl,rfl,hv⟩|⟨rfl,rfl,rfl,rfl,hv⟩|⟨rfl,rfl,rfl,rfl,hv⟩
 ·obtain ⟨t,v1,v2⟩:=hv (M++[s.map nD])
  refine aQ.mp (oj rfl (e0 _) (cT _) ?_)
  simp only [aQ,l8,eY,bc,cR]
  refine ⟨_,rfl,_,v1,_,rfl,_,v2,_,rfl,_,rfl,_,e1 _,_,_,_,_,rfl,rfl,gl,ix,?_⟩
  exact fc rfl (e0 _) (cJ _) (fc rfl (e0 _) (cM _) (fc rfl (e0 _) (cP _) (fin _ rfl)))
 ·obtain ⟨t,u,o,v1,v2,v3,v4,v5⟩:=hv (M++[s.map nD])
  refine aQ.mp (fc rfl (e0 _) (cT _) (oj rfl (e0 _) (cJ _) ?_))
  simp only [aQ,l8,eY,bc,cR]
  refine ⟨_,rfl,_,v1,_,rfl,_,v2,_,rfl,_,rfl,_,v3,_,S _ _ v4,_,v5,_,rfl,_,rfl,_,e1 _,_,_,_,_,rfl,rfl,gl,ix,?_⟩
  exact fc rfl (e0 _) (cM _) (fc rfl (e0 _) (cP _) (fin _ rfl))
 ·obtain ⟨o,v1,v2,v3⟩:=hv (M++[s.map nD])
  subst v3
  refine aQ.mp (fc rfl (e0 _) (cT _) (fc rfl (e0 _) (cJ _) (oj rfl (e0 _) (cM _) ?_)))
  simp only [aQ,l8,eY,bc,cR]
  refine ⟨_,rfl,_,rfl,_,v1,_,S _ _ v2,_,rfl,_,rfl,_,e1 _,_,_,_,_,rfl,rfl,gl,ix,?_⟩
  exact fc rfl (e0 _) (cP _) (fin _ rfl)
 ·have v1:=hv (M++[s.map nD])
  refine aQ.mp (fc rfl (e0 _) (cT _) (fc rfl (e0 _) (cJ _) (fc rfl (e0 _) (cM _) (oj rfl (e0 _) (cP _) ?_))))
  simp only [aQ,l8,eY,bc,cR]
  refine ⟨_,rfl,_,v1,_,rfl,_,rfl,_,e1 _,_,_,_,_,rfl,rfl,gl,ix,?_⟩
  exact fin [some D0,some (a8 s),some (.cell M.length),some (nD (s.getD a 0))] rfl
theorem BH (n:Nat){m:aZ}{d:bB}{s:List Nat}(hm:br m)(hd:c9 m.words m.places d)(hs:hX m s):aw P (n+1) 41 [d.d,a8 s] M=.ok (a8 (fQ d s)) (M++[(fQ d s).map nD]):=by
 rw [yP hd hs]
 have l0:=hs.1
 have p2:=hm.p2
 have g:∀i,i<m.places->s.getD i 0<m.words:=fun i hi=>hs.2 _ (getD_mem (by omega))
 have nw:=qG hd hs
 have a0:=ui hd
 have ha:d.at'<s.length:=by omega
 cases d with
 |turn a t c=>exact km h n ha (by omega) (fun _=>rfl) (fun _=>rfl) true false false false (bH (by decide +kernel)) (bH (by decide +kernel)) (bH (by decide +kernel)) (bH (by decide +kernel)) (.inl ⟨rfl,rfl,rfl,rfl,fun M=>⟨a8 t,rfl,jh (by rw [hd.2.1.1];exact g _ hd.1)⟩⟩)
 | join a o t c =>
   refine km h n ha (by omega) (fun _=>rfl) (fun _=>rfl) false true false false (bH (by decide +kernel)) (bH (by decide +kernel)) (bH (by decide +kernel)) (bH (by decide +kernel)) (.inr (.inl ⟨rfl,rfl,rfl,rfl,fun M=>⟨.tup (t.map a8),a8 (t.getD (s.getD a 0) []),o,rfl,AI (by rw [hd.2.2.1.1];exact g _ hd.1),rfl,by rw [l0];exact hd.2.1,jh ?_⟩⟩))
   rw [(hd.2.2.1.2 _ (getD_mem (by rw [hd.2.2.1.1];exact g _ hd.1))).1]
   exact g _ hd.2.1
 |move a o c=>exact km h n ha (by omega) (fun _=>rfl) (fun _=>rfl) false false true false (bH (by decide +kernel)) (bH (by decide +kernel)) (bH (by decide +kernel)) (bH (by decide +kernel)) (.inr (.inr (.inl ⟨rfl,rfl,rfl,rfl,fun M=>⟨o,rfl,by rw [l0];exact hd.2.1,rfl⟩⟩)))
 |put a x c=>exact km h n ha (by omega) (fun _=>rfl) (fun _=>rfl) false false false true (bH (by decide +kernel)) (bH (by decide +kernel)) (bH (by decide +kernel)) (bH (by decide +kernel)) (.inr (.inr (.inr ⟨rfl,rfl,rfl,rfl,fun M=>rfl⟩)))
theorem sI (n:Nat){m:aZ}(hm:br m):aw P (n+1) 42 [m.d] M=.ok (.lst ((c8 m).map a8)) M:=by
 refine aE (aL h.begins rfl ?_)
 simp [iI]
 have p1:=hm.p1
 have p2:=hm.p2
 have w2:=hm.w2
 have w4:=hm.w4
 refine ⟨_,rfl,?_⟩
 have hp:m.places=1\/m.places=2:=by omega
 have hw:m.words=2\/m.words=3\/m.words=4:=by omega
 rcases hp with ep|ep
 ·refine .inr ⟨by rw [ep];rfl,_,rfl,_,rfl,by omega,?_⟩
  refine jR (ds:=(List.range m.words).map fun (k:Nat)=>D.int (k:Int)) (fun d=>.tup [d]) (aM (by simp;omega)) (by simp) (fun d hd=>⟨_,rfl,aE (by simp;exact aM (by omega))⟩) ⟨aM (by simp;omega),?_,rfl⟩
  unfold c8
  rw [ep]
  rcases hw with e|e|e<;>rw [e]<;>rfl
 ·refine .inl ⟨by rw [ep];rfl,_,rfl,_,rfl,?_⟩
  simp
  refine ⟨by omega,?_⟩
  have ew:((m.words:Int)*(m.words:Int)).toNat=m.words*m.words:=by rw [<- Int.natCast_mul];rfl
  have hw2:m.words*m.words<=16:=Nat.mul_le_mul w4 w4
  rw [ew]
  refine ⟨⟨by rw [<- Int.natCast_mul];omega,by rw [<- Int.natCast_mul];omega⟩,?_⟩
  have key:∀k:Nat,(bZ (ag (aH false nv.fdiv (ah 0) (aO (ah 1) (gC (D.int 0)))) (ag (aH false nv.mod (ah 0) (aO (ah 1) (gC (D.int 0)))) av))) [some (nD k),some m.d] M=.ok (a8 [k / m.words,k % m.words]) M:=by
   intro k
   refine aE ?_
   simp
   refine ⟨_,rfl,?_⟩
   simp
   refine ⟨by omega,_,rfl,?_⟩
   simp
   exact ⟨by omega,aM (by omega),rfl⟩
  refine comp_map (ds:=(List.range (m.words*m.words)).map fun (k:Nat)=>D.int (k:Int)) (fun i acc M'=>M'=M/\acc=((List.range (m.words*m.words)).take i).map fun k=>a8 [k / m.words,k % m.words]) (aM (by simpa using by omega)) (fun _ _ _ _=>rfl) ⟨rfl,rfl⟩ ?_ ?_
  ·rintro i d acc M' hd _ ⟨rfl,rfl⟩
   have hi:=(List.getElem?_eq_some_iff.mp hd).1
   simp at hi
   have:d=nD i:=by
    rw [List.getElem?_map,List.getElem?_range (by omega)] at hd
    exact (Option.some.inj hd).symm
   subst this
   refine ⟨_,rfl,?_⟩
   rw [show List.set [none,some m.d] 0 (some (nD i))=[some (nD i),some m.d] from rfl,key i]
   refine ⟨rfl,?_⟩
   rw [List.take_succ,List.getElem?_range (by omega)]
   simp
  ·rintro acc M' _ ⟨rfl,rfl⟩
   simp
   refine ⟨aM (by omega),?_⟩
   unfold c8
   rw [ep]
   rcases hw with e|e|e<;>rw [e]<;>rfl
end
end LD
namespace LD
open PySem
section
variable {Z:Env}{M:Mem}{a b d:GE}{k:D->Mem->Prop}{kw:Walk->Mem->Prop}{kf:Fl->Mem->Prop}
@[simp] theorem JX {m:Bool}:au (rZ m a Z M) k↔au (a Z M) fun x M=>au (xQ m x M) k:=by simp [rZ]
@[simp] theorem Nd {m:Bool}{xs:List D}:au (xQ m (.lst xs) M) k↔au (cf m xs.reverse M) k:=Iff.rfl
@[simp] theorem D8 {m:Bool}{xs:List D}:au (xQ m (.tup xs) M) k↔k (.tup xs.reverse) M:=Iff.rfl
end
theorem IM (i j:Nat):bu (nD i) (nD j)=decide (i=j):=by
 show ((i:Int)==(j:Int))=_
 rw [Bool.eq_iff_iff];simp;omega
theorem A5:∀l r:List Nat,lU (l.map nD) (r.map nD)=decide (l=r)
 |[],[]=>rfl
 |[],_::_=>rfl
 |_::_,[]=>rfl
 | i :: l, j :: r => by
   show (bu (nD i) (nD j)&&lU (l.map nD) (r.map nD))=_
   rw [IM,A5 l r,Bool.eq_iff_iff];simp
theorem uZ (n:Nat)(l:List Nat):aN (n+1) (.lst (l.map nD))=true:=by
 show (l.map nD).all (aN n)=true
 rw [List.all_eq_true];intro x hx;obtain ⟨i,_,rfl⟩:=List.mem_map.mp hx;cases n<;>rfl
theorem A4 {l r:List Nat}{M:Mem}:bN .ne (.lst (l.map nD)) (.lst (r.map nD)) M=some (!decide (l=r)):=oN (uZ 63 l) (uZ 63 r) (A5 l r)
def ends (m:aZ)(r:List Nat):List (List Nat):=(c8 m).map (gn m r)
theorem A7 (m:aZ)(r:List Nat):sj m r=.tup ((ends m r).map a8):=by simp [sj,ends,Function.comp_def]
section
variable {P:Nat->Option Df}(h:y7 P){M:Mem}
include h
theorem v8 (he:P 44=some ⟨2,5,fD⟩)(n:Nat){m:aZ}{x:D}{r:List Nat}(hx:fz M x r)(hm:br m)(hr:∀i∈r,i<m.deeds.length):au (aw P (n+2) 44 [m.d,x] M) fun d M'=>d=.tup ((ends m r).map a8)/\Sub M M':=by
 have bb:=sI h n (M:=M++[[]]) hm
 have bl:=g9 hm
 refine aL he rfl ?_
 simp [fD,bb]
 refine ⟨rfl,?_⟩
 generalize hq:M.length=q
 refine fP (ds:=(c8 m).map a8) (fun i Z M'=>M'[q]?=some (((c8 m).take i).map fun s=>a8 (gn m r s))/\Sub M M'/\q<M'.length/\∃x3 x4,Z=[some m.d,some x,some (.cell q),x3,x4]) (fun _ _ _ _=>rfl) ⟨by subst hq;simp,Sub.app,by subst hq;simp,none,none,rfl⟩ ?_ ?_
 ·rintro i d Z M' hd ⟨e4,S4,hql,x3,x4,rfl⟩
  rw [List.getElem?_map] at hd
  cases e:(c8 m)[i]? with
  |none=>rw [e] at hd;cases hd
  | some s =>
    rw [e] at hd
    cases Option.some.inj hd
    have hi:=(List.getElem?_eq_some_iff.mp e).1
    have hs:=oR s (List.mem_of_getElem? e)
    refine ⟨_,rfl,?_⟩
    simp [hx.is]
    refine fP (ds:=r.map nD) (fun j Z M2=>M2[q]?=some (((c8 m).take i).map fun s=>a8 (gn m r s))/\Sub M M2/\q<M2.length/\∃x4,Z=[some m.d,some x,some (.cell q),some (a8 (gn m (r.take j) s)),x4]) (fun _ _ _ e=>(hx.sub e.2.1).seq) ⟨e4,S4,hql,x4,rfl⟩ ?_ ?_
    ·rintro j dd Z M2 hj ⟨f4,T4,ql2,y4,rfl⟩
     rw [List.getElem?_map] at hj
     cases ej:r[j]? with
     |none=>rw [ej] at hj;cases hj
     | some k =>
       rw [ej] at hj
       cases Option.some.inj hj
       have hk:=hr k (List.mem_of_getElem? ej)
       have hst:hX m (gn m (r.take j) s):=ml hm (fun x hx=>hr x (List.mem_of_mem_take hx)) hs
       have af:=BH h n (M:=M2) hm (mF hm hk) hst
       refine ⟨_,rfl,?_⟩
       simp [-iT,HN,vG hk,af]
       exact ⟨by rw [List.getElem?_append_left ql2,f4,List.map_take],T4.trans Sub.app,by omega,by rw [List.take_succ,ej];simp [vJ,gn]⟩
    ·rintro Z M2 ⟨f4,T4,ql2,y4,rfl⟩
     simp [f4]
     exact ⟨Nat.lt_of_le_of_lt (show _<=50 by omega) (by decide),by rw [List.getElem?_set_self ql2,List.take_succ];simp [e],T4.setq (by omega),ql2⟩
 ·rintro Z M' ⟨e4,S4,hql,x3,x4,rfl⟩
  rw [List.length_map,List.take_length] at e4
  simp [e4,ends,Function.comp_def,S4]
theorem uK (he:P 44=some ⟨2,5,fD⟩)(n:Nat){m:aZ}{r:List Nat}(hm:br m)(hr:∀i∈r,i<m.deeds.length):au (aw P (n+2) 44 [m.d,.lst (r.map nD)] M) fun d M'=>d=.tup ((ends m r).map a8)/\Sub M M':=v8 h he n .l hm hr
end
end LD
namespace LD
open PySem
theorem D1 {xs:List D}{a:Nat}{M:Mem}{k:D->Mem->Prop}:au (eG false (.lst xs) .non (nD a) M) k↔(xs.take a).length<=sz/\k (.lst (xs.take a)) M:=uP
end LD
namespace LD
open PySem
structure KW where
 place:Nat
 num:Nat
 back:Bool
def KW.d (s:KW):D:=.tup [nD s.place,nD s.num,.bl s.back]
end LD
namespace LD
open PySem
theorem n5 {tg:dD}{w:Walk}{gc:GT}{ge:GE}{ds:List D}{ρ0:Env}{M:Mem}{kl:List D->Mem->Prop}(f:D->Bool)(g:D->D)(hz:ds.length<=sz)(hw:w M=some ds)
 (hs:∀d∈ds,∃ρ1,c7 tg d ρ0=some ρ1/\gc ρ1 M=.ok (f d) M/\(f d=true->ge ρ1 M=.ok (g d) M)) (hk:kl ((ds.filter f).map g) M):au (eF (d7 tg (nU gc (cg ge)) ρ0) w [] M) kl:=by
 refine jv (fun i acc M'=>M'=M/\acc=((ds.take i).filter f).map g) (fun i acc M' h=>by rw [h.1];exact hw) ⟨rfl,rfl⟩ ?_ ?_
 ·rintro i d acc M' hd ⟨rfl,rfl⟩
  obtain ⟨ρ1,e1,e2,e3⟩:=hs d (List.mem_of_getElem? hd)
  have hi:i<ds.length:=(List.getElem?_eq_some_iff.mp hd).1
  simp only [d7,e1,B8,Res.bind_ok,nU,e2]
  rw [List.take_succ,hd]
  cases q:f d with
  | false =>
    simp [q]
  | true =>
    rw [if_pos rfl]
    have len:(((ds.take i).filter f).map g).length<=i:=by
     rw [List.length_map]
     exact tqh (List.length_filter_le _ _) (by simp;omega)
    simp only [cg,e3 q,Res.bind_ok]
    rw [if_pos (by omega)]
    simp [q]
 ·rintro acc M' ⟨rfl,rfl⟩
  simpa using hk
end LD
namespace LD
open PySem
structure vY (P:Nat->Option Df):Prop where
 whole:P 67=some ⟨1,1,jn⟩
 is_in:P 68=some ⟨3,3,lr⟩
 numbers:P 69=some ⟨4,4,ip⟩
 is_deed:P 70=some ⟨3,3,bC⟩
 is_machine:P 71=some ⟨1,1,eC⟩
def qa:D->Bool
 |.int _=>true
 |_=>false
theorem eq_empty {l:List D}{M:Mem}(hp:l.all (aN 63)=true):bN .eq (.lst l) (.lst []) M=some l.isEmpty:=by
 refine ku hp rfl ?_
 cases l<;>rfl
theorem mW (f:D->Bool):∀ds:List D,((ds.filter fun d=>!f d).map fun _=>D.int 1).isEmpty=ds.all f
 |[]=>rfl
 | d :: r => by
   have ih:=mW f r
   cases q:f d with
   |true=>simpa [q] using ih
   |false=>simp [q]
theorem rP {w:GW}{gc:GT}{Z:Env}{M:Mem}{ds:List D}{k:D->Mem->Prop}(f:D->Bool)(hw:au (w Z M) fun wk M'=>M'=M/\wk M=some ds)(hz:ds.length<=sz)(he:∀d∈ds,gc (some d::Z) M=.ok (!f d) M)(hk:k (.bl (ds.all f)) M) :
 au (aW .eq (bX false 1 (.one 0) w (nU gc (cg (gI 1)))) (bD false av) Z M) k:=by
 simp only [ft,iA,mX,bx,cO]
 refine a7 hw fun wk M' ⟨e1,e2⟩=>?_
 subst e1
 refine n5 (fun d=>!f d) (fun _=>.int 1) hz e2 (fun d hd=>⟨some d::Z,rfl,he d hd,fun _=>rfl⟩) ?_
 refine ⟨tqh (by rw [List.length_map];exact List.length_filter_le _ _) hz,aM (by decide),_,eq_empty ?_,?_⟩
 ·rw [List.all_eq_true]
  intro x hx
  obtain ⟨_,_,rfl⟩:=List.mem_map.mp hx
  rfl
 ·rw [mW];exact hk
section
variable {P:Nat->Option Df}(h:vY P){M:Mem}{k L:Nat}{d:D}
include h
theorem nG (n:Nat)(hd:Th k L d):aw P (n+1) 67 [d] M=.ok (.bl (qa d)) M:=by
 refine aE (aL h.whole rfl ?_)
 cases d with
 |fn j=>cases k<;>exact hd.elim
 |exc y p=>cases k<;>exact hd.elim
 |_=>exact dF rfl
theorem kQ (n:Nat)(hd:Th k L d)(lo hi:Int):aw P (n+2) 68 [d,.int lo,.int hi] M=.ok (.bl (bF lo hi d)) M:=by
 refine aE (aL h.is_in rfl ?_)
 have e:aA 67 (aw P (n+1)) (ag (ah 0) av) [some d,some (.int lo),some (.int hi)] M=.ok (.bl (qa d)) M:=ng rfl (nG h n (M:=M) hd)
 cases d with
 |fn j=>cases k<;>exact hd.elim
 |exc y p=>cases k<;>exact hd.elim
 |int i=>exact d8 (jq e fun _=>IK rfl rfl rfl) ⟨rfl,rfl⟩
 |_=>exact d8 (jq (y:=false) e fun z=>by cases z) ⟨rfl,rfl⟩
def rM (many:Nat)(lo hi:Int):D->Bool
 |.tup ds=>ds.length==many&&ds.all (bF lo hi)
 |_=>false
theorem rm (n:Nat)(hd:Th k L d)(hL:L<=100){many:Nat}(lo hi:Int):aw P (n+3) 69 [d,nD many,.int lo,.int hi] M=.ok (.bl (rM many lo hi d)) M:=by
 refine aE (aL h.numbers rfl ?_)
 cases d with
 |fn j=>cases k<;>exact hd.elim
 |exc y p=>cases k<;>exact hd.elim
 | tup ds =>
   have ht:=hd.tup
   simp only [ip,aQ,qi,cF,eL,uC,kY,om,fG,Bv,cR,bc,vK,List.map_cons,List.map_nil,List.cons_append,List.nil_append,List.getElem?_cons_zero,List.getElem?_cons_succ,Option.getD_some,Option.some.injEq,exists_eq_left']
   refine ⟨true,rfl,true,rfl,?_⟩
   rw [if_neg (by decide)]
   refine ft.mpr (dW.mpr (bp.mpr (bc.mpr ⟨_,rfl,bx.mpr (rW.mpr (bc.mpr ⟨_,rfl,_,Kh,_,rfl,?_⟩))⟩)))
   by_cases el:ds.length=many
   ·have e0:(!((ds.length:Int)==(many:Int)))=false:=by simp [el]
    rw [e0,if_neg (by decide)]
    refine rP (bF lo hi) (ds:=ds) (by simp;exact ⟨rfl,rfl⟩) (aM (by omega)) (fun d hd=>aS (by simp [kQ h n (ht.2 d hd)])) ?_
    exact ⟨by simp [rM,el],rfl⟩
   ·have e0:(!((ds.length:Int)==(many:Int)))=true:=by simp;omega
    rw [e0,if_pos (by decide)]
    exact ⟨by simp [rM,el],rfl⟩
 |_=>exact dF rfl
end
abbrev dM:List D:=[.str "turn",.str "join",.str "move",.str "put"]
theorem Av {k L:Nat}{x:D}{M:Mem}(hx:Th k L x)(hk:k<=60):bN .notin x (.tup dM) M=some (!(dM.any fun y=>bu y x)):=by
 have hp:aN 64 x=true:=(hx.mono (n':=64) (by omega) (tqg L)).pure
 have e:bN .notin x (.tup dM) M=((de M (.tup dM)).bind (jg (view M x))).map (!·):=by cases x<;>rfl
 rw [e,hx.view]
 show Option.map _ (jg x dM)=_
 unfold jg
 rw [hp,show dM.all (aN 63)=true by decide +kernel]
 rfl
section
variable {P:Nat->Option Df}(h:vY P){M:Mem}{k L:Nat}{d:D}
include h
theorem AA (n:Nat){w p:Nat}{xs:List D}(hl:xs.length≠4/\xs.length≠5):aw P (n+4) 70 [.tup xs,nD w,nD p] M=.ok (.bl false) M:=by
 refine aE (aL h.is_deed rfl ?_)
 show au (bC _ [some (.tup xs),some (nD w),some (nD p)] M) _
 unfold bC
 refine bW (aS ?_) rfl ⟨rfl,rfl⟩
 have e:bN .notin (.int xs.length) (.tup [.int 4,.int 5]) M=some true:=by
  show ((jg (.int xs.length) [.int 4,.int 5]).map (!·))=_
  have e1:bu (.int 4) (.int xs.length)=false:=by simp [bu];omega
  have e2:bu (.int 5) (.int xs.length)=false:=by simp [bu];omega
  show (some ([D.int 4,D.int 5].any fun y=>bu y (.int xs.length))).map (!·)=_
  simp [e1,e2]
 simp [cx,e]
 exact aM (by decide)
theorem yD (n:Nat){w p:Nat}{x:D}{xs:List D}(hx:Th k L x)(hk:k<=60)(hl:xs.length=3\/xs.length=4)(hn:(dM.any fun y=>bu y x)=false):aw P (n+4) 70 [.tup (x::xs),nD w,nD p] M=.ok (.bl false) M:=by
 refine aE (aL h.is_deed rfl ?_)
 show au (bC _ [some (.tup (x::xs)),some (nD w),some (nD p)] M) _
 unfold bC
 have e:bN .notin (.int (x::xs).length) (.tup [.int 4,.int 5]) M=some false:=by
  show ((jg (.int (x::xs).length) [.int 4,.int 5]).map (!·))=_
  show (some ([D.int 4,D.int 5].any fun y=>bu y (.int (x::xs).length))).map (!·)=_
  rcases hl with e|e<;>simp [bu,e]
 have e2:=Av (M:=M) hx hk
 rw [hn] at e2
 refine aP (aS ?_) (bW (aS ?_) rfl ⟨rfl,rfl⟩)
 ·simp at e
  simp [cx,e]
  exact aM (by decide)
 ·simp [cb,e2]
  exact aM (by decide)
theorem Du (n:Nat){w p:Nat}{xs:List D}{a c:D}(hL1:L+1<=100)(i1:cY (.tup xs) (.int 1) M=some a)(il:cY (.tup xs) (.int (-1)) M=some c)(ha:Th k L a)(hc:Th k L c) :
 (fi (cn (aJ (aA 69 (aw P (n+3)) (ag (bZ (ag (aO (ah 0) (gI 1)) av)) (ag (gI 1) (ag (gI 0) (ag (aH false .sub (ah 2) (gI 1)) av))))))) (cn (aJ (aA 68 (aw P (n+3)) (ag (aO (ah 0) (eW (gI 1))) (ag (gI 1) (ag (gI 3) av)))))):GT) [some (.tup xs),some (nD w),some (nD p)] M=.ok (!(bF 0 ((p:Int)-1) a&&bF 1 3 c)) M:=by
 have q1:aw P (n+3) 69 [.tup [a],.int 1,.int 0,.int ((p:Int)-1)] M=.ok (.bl (rM 1 0 ((p:Int)-1) (.tup [a]))) M:=rm h n (d:=.tup [a]) (k:=k+1) (L:=L+1) (many:=1) (show [a].length<=L+1/\∀d∈[a],Th k (L+1) d from ⟨by simp,fun d hd=>by rw [List.mem_singleton.mp hd];exact ha.mono (tqg k) (Nat.le_succ L)⟩) hL1 0 _
 have q2:=kQ h (n+1) (M:=M) hc 1 3
 have z1:1<=sz:=aM (by decide)
 refine aS ?_
 simp [-iT,i1,il,q1,q2,z1,rM]
 cases bF 0 ((p:Int)-1) a<;>cases bF 1 3 c<;>simp
end
theorem ED {M:Mem}:bN .notin (.str "turn") (.tup dM) M=some false:=by
 show (jg (.str "turn") dM).map (!·)=_
 decide +kernel
theorem EF {M:Mem}:bN .notin (.str "join") (.tup dM) M=some false:=by
 show (jg (.str "join") dM).map (!·)=_
 decide +kernel
theorem EE {M:Mem}:bN .notin (.str "move") (.tup dM) M=some false:=by
 show (jg (.str "move") dM).map (!·)=_
 decide +kernel
theorem Hs {M:Mem}:bN .notin (.str "put") (.tup dM) M=some false:=by
 show (jg (.str "put") dM).map (!·)=_
 decide +kernel
theorem Dn {M:Mem}{x y:Bool}:bN .ne (.bl x) (.bl y) M=some (x != y):=by cases x<;>cases y<;>rfl
theorem Ib {M:Mem}:bN .notin (.int 4) (.tup [.int 4,.int 5]) M=some false/\bN .notin (.int 5) (.tup [.int 4,.int 5]) M=some false:=⟨rfl,rfl⟩
section
variable {P:Nat->Option Df}(h:vY P){M:Mem}{k L:Nat}{d:D}
include h
theorem yC (n:Nat){w p:Nat}{a b c:D}(hL:L+1<=100)(ha:Th k L a)(hb:Th k L b)(hc:Th k L c):aw P (n+4) 70 [.tup [.str "turn",a,b,c],nD w,nD p] M=.ok (.bl (lz w p [a,b,c])) M:=by
 refine aE (aL h.is_deed rfl ?_)
 show au (bC _ [some (.tup [.str "turn",a,b,c]),some (nD w),some (nD p)] M) _
 unfold bC
 have z2:2<=sz:=aM (by decide)
 have z4:4<=sz:=aM (by decide)
 have ej:=bH (x:="turn") (y:="join") (b:=false) (by decide +kernel) M
 have et:=bH (x:="turn") (y:="turn") (b:=true) (by decide +kernel) M
 have ep:=bH (x:="turn") (y:="put") (b:=false) (by decide +kernel) M
 have em:=bH (x:="turn") (y:="move") (b:=false) (by decide +kernel) M
 refine aP (by kernel_rfl) (aP (by kernel_rfl) ?_)
 have t3:=Du h n (w:=w) (p:=p) (M:=M) (xs:=[.str "turn",a,b,c]) hL rfl rfl ha hc
 cases A:(bF 0 ((p:Int)-1) a&&bF 1 3 c) with
 | false =>
   rw [A] at t3
   refine bW t3 rfl ⟨?_,rfl⟩
   simp only [lz]
   rcases Bool.and_eq_false_iff.mp A with q|q<;>simp [q]
 | true =>
   rw [A] at t3
   simp only [Bool.and_eq_true] at A
   refine aP t3 ?_
   have q:=rm h n (M:=M) (many:=w) hb (by omega) 0 ((w:Int)-1)
   refine bW (v:=.bl (jU w b)) (by kernel_rfl) (aE (by simp [cb,q];cases b<;>rfl)) ⟨?_,rfl⟩
   simp [lz,A.1,A.2]
theorem Ay (n:Nat){w p:Nat}{a b c:D}(hL:L+1<=100)(ha:Th k L a)(hb:Th k L b)(hc:Th k L c):aw P (n+4) 70 [.tup [.str "put",a,b,c],nD w,nD p] M=.ok (.bl (nK w p [a,b,c])) M:=by
 refine aE (aL h.is_deed rfl ?_)
 show au (bC _ [some (.tup [.str "put",a,b,c]),some (nD w),some (nD p)] M) _
 unfold bC
 have z2:2<=sz:=aM (by decide)
 have z4:4<=sz:=aM (by decide)
 have ej:=bH (x:="put") (y:="join") (b:=false) (by decide +kernel) M
 have et:=bH (x:="put") (y:="turn") (b:=false) (by decide +kernel) M
 have ep:=bH (x:="put") (y:="put") (b:=true) (by decide +kernel) M
 have em:=bH (x:="put") (y:="move") (b:=false) (by decide +kernel) M
 refine aP (by kernel_rfl) (aP (by kernel_rfl) ?_)
 have t3:=Du h n (w:=w) (p:=p) (M:=M) (xs:=[.str "put",a,b,c]) hL rfl rfl ha hc
 cases A:(bF 0 ((p:Int)-1) a&&bF 1 3 c) with
 | false =>
   rw [A] at t3
   refine bW t3 rfl ⟨?_,rfl⟩
   simp only [nK]
   rcases Bool.and_eq_false_iff.mp A with q|q<;>simp [q]
 | true =>
   rw [A] at t3
   simp only [Bool.and_eq_true] at A
   refine aP t3 ?_
   have q:=kQ h (n+1) (M:=M) hb 0 ((w:Int)-1)
   refine aP (by kernel_rfl) (bW (v:=.bl (bF 0 ((w:Int)-1) b)) (by kernel_rfl) (aE (by simp [cb,q])) ⟨?_,rfl⟩)
   simp [nK,A.1,A.2]
theorem yE (n:Nat){w p:Nat}{a b c:D}(hL:L+1<=100)(ha:Th k L a)(hb:Th k L b)(hc:Th k L c):aw P (n+4) 70 [.tup [.str "move",a,b,c],nD w,nD p] M=.ok (.bl (kd w p [a,b,c])) M:=by
 refine aE (aL h.is_deed rfl ?_)
 show au (bC _ [some (.tup [.str "move",a,b,c]),some (nD w),some (nD p)] M) _
 unfold bC
 have z2:2<=sz:=aM (by decide)
 have z4:4<=sz:=aM (by decide)
 have ej:=bH (x:="move") (y:="join") (b:=false) (by decide +kernel) M
 have et:=bH (x:="move") (y:="turn") (b:=false) (by decide +kernel) M
 have ep:=bH (x:="move") (y:="put") (b:=false) (by decide +kernel) M
 have em:=bH (x:="move") (y:="move") (b:=true) (by decide +kernel) M
 refine aP (by kernel_rfl) (aP (by kernel_rfl) ?_)
 have t3:=Du h n (w:=w) (p:=p) (M:=M) (xs:=[.str "move",a,b,c]) hL rfl rfl ha hc
 cases A:(bF 0 ((p:Int)-1) a&&bF 1 3 c) with
 | false =>
   rw [A] at t3
   refine bW t3 rfl ⟨?_,rfl⟩
   simp only [kd]
   rcases Bool.and_eq_false_iff.mp A with q|q<;>simp [q]
 | true =>
   rw [A] at t3
   simp only [Bool.and_eq_true] at A
   refine aP t3 ?_
   have q:=kQ h (n+1) (M:=M) hb 0 ((p:Int)-1)
   refine aP (by kernel_rfl) (aP (by kernel_rfl) ?_)
   cases B:bF 0 ((p:Int)-1) b with
   | false =>
     rw [B] at q
     exact bW (aS (by simp [cb,q])) rfl ⟨by simp [kd,B],rfl⟩
   | true =>
     rw [B] at q
     refine aP (aS (by simp [cb,q])) (bW (by kernel_rfl) rfl ⟨?_,rfl⟩)
     simp [kd,A.1,A.2,B]
theorem yF (n:Nat){w p:Nat}{a b e c:D}(hL:L+1<=100)(ha:Th k L a)(hb:Th k L b)(he:Th k L e)(hc:Th k L c):aw P (n+4) 70 [.tup [.str "join",a,b,e,c],nD w,nD p] M=.ok (.bl (jG w p [a,b,e,c])) M:=by
 refine aE (aL h.is_deed rfl ?_)
 show au (bC _ [some (.tup [.str "join",a,b,e,c]),some (nD w),some (nD p)] M) _
 unfold bC
 have z2:2<=sz:=aM (by decide)
 have z4:4<=sz:=aM (by decide)
 have ej:=bH (x:="join") (y:="join") (b:=true) (by decide +kernel) M
 have et:=bH (x:="join") (y:="turn") (b:=false) (by decide +kernel) M
 have ep:=bH (x:="join") (y:="put") (b:=false) (by decide +kernel) M
 have em:=bH (x:="join") (y:="move") (b:=false) (by decide +kernel) M
 refine aP (by kernel_rfl) (aP (by kernel_rfl) ?_)
 have t3:=Du h n (w:=w) (p:=p) (M:=M) (xs:=[.str "join",a,b,e,c]) hL rfl rfl ha hc
 cases A:(bF 0 ((p:Int)-1) a&&bF 1 3 c) with
 | false =>
   rw [A] at t3
   refine bW t3 rfl ⟨?_,rfl⟩
   simp only [jG]
   rcases Bool.and_eq_false_iff.mp A with q|q<;>simp [q]
 | true =>
   rw [A] at t3
   simp only [Bool.and_eq_true] at A
   refine aP t3 ?_
   have q:=kQ h (n+1) (M:=M) hb 0 ((p:Int)-1)
   refine aP (by kernel_rfl) (aP (by kernel_rfl) ?_)
   cases B:bF 0 ((p:Int)-1) b with
   | false =>
     rw [B] at q
     exact bW (aS (by simp [cb,q])) rfl ⟨by simp [jG,B],rfl⟩
   | true =>
     rw [B] at q
     refine aP (aS (by simp [cb,q])) (aP (by kernel_rfl) ?_)
     have e0:jG w p [a,b,e,c]=lJ w e:=by simp [jG,A.1,A.2,B]
     rw [e0]
     cases e with
     |fn j=>exact absurd he (by cases k<;>exact id)
     |exc y p=>exact absurd he (by cases k<;>exact id)
     | tup ds =>
       have ht:=he.tup
       by_cases el:ds.length=w
       ·refine aP (aS (by simp [cb,cx,el])) ?_
        simp only [aQ,cF]
        refine rP (jU w) (ds:=ds) (by simp [cb];exact ⟨rfl,rfl⟩) (aM (by omega)) (fun d hd=>aS (by
         have q:=rm h n (M:=M) (many:=w) (ht.2 d hd) (by omega) 0 ((w:Int)-1)
         have:rM w 0 ((w:Int)-1) d=jU w d:=by cases d<;>rfl
         rw [this] at q
         simp [q])) ?_
        exact ⟨by simp [lJ,el],rfl⟩
       ·have:¬ ((ds.length:Int)=(w:Int)):=by omega
        exact bW (aS (by simp [cb,cx,this])) rfl ⟨by simp [lJ,el],rfl⟩
     |_=>exact bW rfl rfl ⟨rfl,rfl⟩
omit h in
theorem Ac {w p:Nat}{s:Str}{ds:List D}(hl:ds.length≠3/\ds.length≠4):dj w p s ds=false:=by
 have t:lz w p ds=false:=by
  match ds,hl with
  |[],_=>rfl
  |[_],_=>rfl
  |[_,_],_=>rfl
  |[_,_,_],hl=>simp at hl
  |_::_::_::_::_,_=>rfl
 have j:jG w p ds=false:=by
  match ds,hl with
  |[],_=>rfl
  |[_],_=>rfl
  |[_,_],_=>rfl
  |[_,_,_],_=>rfl
  |[_,_,_,_],hl=>simp at hl
  |_::_::_::_::_::_,_=>rfl
 have m:kd w p ds=false:=by
  match ds,hl with
  |[],_=>rfl
  |[_],_=>rfl
  |[_,_],_=>rfl
  |[_,_,_],hl=>simp at hl
  |_::_::_::_::_,_=>rfl
 have u:nK w p ds=false:=by
  match ds,hl with
  |[],_=>rfl
  |[_],_=>rfl
  |[_,_],_=>rfl
  |[_,_,_],hl=>simp at hl
  |_::_::_::_::_,_=>rfl
 unfold dj
 rw [t,j,m,u]
 split<;>first|rfl|(split<;>first|rfl|(split<;>first|rfl|(split<;>rfl)))
theorem lD (n:Nat){w p:Nat}{s:Str}{xs:List D}{bj:Bool}(hs:bN .notin (.str s) (.tup dM) M=some false)(ej:bN .eq (.str s) (.str "join") M=some bj)(hl:xs.length=3/\bj=true\/xs.length=4/\bj=false):aw P (n+4) 70 [.tup (.str s::xs),nD w,nD p] M=.ok (.bl false) M:=by
 refine aE (aL h.is_deed rfl ?_)
 show au (bC _ [some (.tup (.str s::xs)),some (nD w),some (nD p)] M) _
 unfold bC
 have z2:2<=sz:=aM (by decide)
 have z4:4<=sz:=aM (by decide)
 rcases hl with ⟨e,rfl⟩|⟨e,rfl⟩
 ·refine aP (aS (by simp [cx,e,Ib.1,z2])) (bW (aS ?_) rfl ⟨rfl,rfl⟩)
  simp [cb,hs,z4,ej,Dn,e]
 ·refine aP (aS (by simp [cx,e,Ib.2,z2])) (bW (aS ?_) rfl ⟨rfl,rfl⟩)
  simp [cb,hs,z4,ej,Dn,e]
theorem Az (n:Nat){w p:Nat}(hi:cx .tuple d=some false):aw P (n+4) 70 [d,nD w,nD p] M=.ok (.bl false) M:=by
 refine aE (aL h.is_deed rfl ?_)
 show au (bC _ [some d,some (nD w),some (nD p)] M) _
 unfold bC
 exact bW (aS (by simp [hi])) rfl ⟨rfl,rfl⟩
theorem zJ (n:Nat){w p:Nat}(hd:Th k L d)(hk:k<=60)(hL:L+1<=100):aw P (n+4) 70 [d,nD w,nD p] M=.ok (.bl (iG w p d)) M:=by
 cases d with
 |fn j=>exact absurd hd (by cases k<;>exact id)
 |exc y p=>exact absurd hd (by cases k<;>exact id)
 | tup xs =>
   have ht:=hd.tup
   by_cases hl:xs.length≠4/\xs.length≠5
   ·rw [AA h n hl]
    cases xs with
    |nil=>rfl
    | cons x ds =>
      simp at hl
      cases x with
      |str s=>show _=Res.ok (D.bl (dj w p s ds)) M;rw [Ac ⟨by omega,by omega⟩]
      |_=>rfl
   ·have hl:xs.length=4\/xs.length=5:=by omega
    cases xs with
    |nil=>simp at hl
    | cons x ds =>
      have hx:=ht.2 x List.mem_cons_self
      have hds:∀d∈ds,Th k L d:=fun d hd=>ht.2 d (List.mem_cons_of_mem _ hd)
      have hl:ds.length=3\/ds.length=4:=by simp at hl;omega
      by_cases hn:(dM.any fun y=>bu y x)=false
      ·rw [yD h n hx hk hl hn]
       cases x with
       | str s =>
         show _=Res.ok (D.bl (dj w p s ds)) M
         have q:∀z:Str,D.str z∈dM->¬ s=z:=fun z hz e=>by
          subst e
          rw [List.any_eq_false] at hn
          exact hn _ hz (by simp [bu])
         rw [Ad (q _ (by simp)) (q _ (by simp)) (q _ (by simp)) (q _ (by simp))]
       |_=>rfl
      ·have hn:(dM.any fun y=>bu y x)=true:=(Bool.not_eq_false _).mp hn
       obtain ⟨z,hz,e⟩:=List.any_eq_true.mp hn
       have hx:∃s:Str,x=.str s/\D.str s∈dM:=by
        simp only [dM,List.mem_cons,List.not_mem_nil,or_false] at hz
        cases x<;>rcases hz with rfl|rfl|rfl|rfl<;>first|(simp [bu] at e;subst e;exact ⟨_,rfl,by simp⟩)|simp [bu] at e
       obtain ⟨s,rfl,hs⟩:=hx
       show _=Res.ok (D.bl (dj w p s ds)) M
       simp only [dM,List.mem_cons,List.not_mem_nil,or_false,D.str.injEq] at hs
       match ds,hds,hl with
       | [a, b, c], hds, _ =>
         simp only [List.mem_cons,List.not_mem_nil,or_false,forall_eq_or_imp,forall_eq] at hds
         rcases hs with rfl|rfl|rfl|rfl
         ·rw [qr];exact yC h n hL hds.1 hds.2.1 hds.2.2
         ·rw [qp];exact lD h n EF (bH (by decide +kernel) M) (.inl ⟨rfl,rfl⟩)
         ·rw [qo];exact yE h n hL hds.1 hds.2.1 hds.2.2
         ·rw [qm];exact Ay h n hL hds.1 hds.2.1 hds.2.2
       | [a, b, e, c], hds, _ =>
         simp only [List.mem_cons,List.not_mem_nil,or_false,forall_eq_or_imp,forall_eq] at hds
         rcases hs with rfl|rfl|rfl|rfl
         ·rw [qr];exact lD h n ED (bH (by decide +kernel) M) (.inr ⟨rfl,rfl⟩)
         ·rw [qp];exact yF h n hL hds.1 hds.2.1 hds.2.2.1 hds.2.2.2
         ·rw [qo];exact lD h n EE (bH (by decide +kernel) M) (.inr ⟨rfl,rfl⟩)
         ·rw [qm];exact lD h n Hs (bH (by decide +kernel) M) (.inr ⟨rfl,rfl⟩)
       |[],_,hl=>simp at hl
       |[_],_,hl=>simp at hl
       |[_,_],_,hl=>simp at hl
       |_::_::_::_::_::_,_,hl=>simp at hl
 |_=>exact Az h n rfl
theorem zI (n:Nat)(hd:Th k L d)(hk:k<=60)(hL:L+1<=100):aw P (n+5) 71 [d] M=.ok (.bl (fH d)) M:=by
 refine aE (aL h.is_machine rfl ?_)
 show au (eC _ [some d] M) _
 unfold eC
 by_cases hn:eZ 3 d=false
 ·rw [vw hn]
  cases d with
  |fn j=>exact absurd hd (by cases k<;>exact id)
  |exc y p=>exact absurd hd (by cases k<;>exact id)
  | tup xs =>
    have:¬ ((xs.length:Int)=3):=by simp [eZ] at hn;omega
    exact bW (aS (by simp [cx,this])) rfl ⟨rfl,rfl⟩
  |_=>exact bW rfl rfl ⟨rfl,rfl⟩
 ·match d,hd,hn with
  | .tup [a, b, c], hd, _ =>
    have ht:=hd.tup.2
    simp only [List.mem_cons,List.not_mem_nil,or_false,forall_eq_or_imp,forall_eq] at ht
    have b1:=kQ h (n+2) (M:=M) ht.1 2 4
    have b2:=kQ h (n+2) (M:=M) ht.2.1 1 2
    show au _ (gm fun x M'=>x=.bl (bF 2 4 a&&(bF 1 2 b&&(gZ c&&(nR c).all (iG (gk a) (gk b)))))/\M'=M)
    cases c1:bF 2 4 a with
    | false =>
      rw [c1] at b1
      exact bW (aS (by simp [cx,cb,b1])) rfl ⟨rfl,rfl⟩
    | true =>
      rw [c1] at b1
      refine aP (aS (by simp [cx,cb,b1])) ?_
      cases c2:bF 1 2 b with
      | false =>
        rw [c2] at b2
        exact bW (aS (by simp [cb,b2])) rfl ⟨rfl,rfl⟩
      | true =>
        rw [c2] at b2
        obtain ⟨ea,_,_⟩:=oP c1 (by decide)
        obtain ⟨eb,_,_⟩:=oP c2 (by decide)
        by_cases hcc:∃ds,c=.tup ds
        ·obtain ⟨ds,rfl⟩:=hcc
         have hc:=ht.2.2.tup
         cases lb:gZ (.tup ds) with
         | false =>
           refine bW (aS ?_) rfl ⟨rfl,rfl⟩
           simp [gZ] at lb
           simp [cb,b2,cx]
           omega
         | true =>
           refine aP (aS ?_) ?_
           ·simp [gZ] at lb
            simp [cb,b2,cx]
            omega
           ·simp only [aQ,cF]
            refine rP (iG (gk a) (gk b)) (ds:=ds) (by simp [cb];exact ⟨rfl,rfl⟩) (aM (by omega)) (fun d hd=>aS (by
             have q:=zJ h n (w:=gk a) (p:=gk b) (M:=M) (hc.2 d hd) hk hL
             rw [<- ea,<- eb] at q
             simp [cb,q])) ?_
            exact ⟨by simp [nR],rfl⟩
        ·have e1:gZ c=false:=by cases c<;>first|rfl|exact absurd ⟨_,rfl⟩ hcc
         have e2:=vE ht.2.2 (t:=.tuple) (.inr ⟨hcc,rfl⟩)
         exact bW (aS (by simp [cb,b2,e2])) rfl ⟨by simp [e1],rfl⟩
  |.tup [],_,hn=>exact absurd rfl hn
  |.tup [_],_,hn=>exact absurd rfl hn
  |.tup [_,_],_,hn=>exact absurd rfl hn
  |.tup (_::_::_::_::r),_,hn=>exact absurd (by simp [eZ]) hn
  |.non,_,hn=>exact absurd rfl hn
  |.bl _,_,hn=>exact absurd rfl hn
  |.int _,_,hn=>exact absurd rfl hn
  |.str _,_,hn=>exact absurd rfl hn
  |.lst _,_,hn=>exact absurd rfl hn
  |.frz _,_,hn=>exact absurd rfl hn
  |.cell _,_,hn=>exact absurd rfl hn
  |.fn _,_,hn=>exact absurd rfl hn
  |.exc _ _,_,hn=>exact absurd rfl hn
end
end LD
namespace LD
open PySem
structure HasT0 (P:Nat->Option Df):Prop where
 but:P 64=some ⟨2,4,fv⟩
 any:P 65=some ⟨1,1,fw⟩
structure HasT (P:Nat->Option Df):Prop extends HasT0 P where
 signed:P 66=some ⟨2,3,gE⟩
 bent:P 72=some ⟨3,9,lW⟩
instance coeHasT {P:Nat->Option Df}:Coe (HasT P) (HasT0 P):=⟨HasT.toHasT0⟩
section
variable {Z:Env}{M:Mem}{a b lo hi:GE}{k:D->Mem->Prop}{kw:Walk->Mem->Prop}
@[simp] theorem FH:au (qR a Z M) kw↔au (a Z M) fun x M=>∃z,x=.str z/\kw (fun _=>some (signs z)) M:=by
 simp only [qR,bR];refine iff_of_eq ?_;congr 1;funext x M;cases x<;>simp
theorem Il {hl hh:Bool}:au (oB hl hh a lo hi Z M) k↔au (a Z M) fun x M=>au (lo Z M) fun l M=>au (hi Z M) fun h M=>cL hl l=true/\cL hh h=true/\∃z i j,x=.str z/\z.cps.size<=sz/\a9 z.cps.size 0 l=some i/\a9 z.cps.size z.cps.size h=some j/\k (.str (jD z i j)) M:=by
 simp only [oB,bR]
 refine iff_of_eq ?_
 congr 1;funext x M;congr 1;funext l M;congr 1;funext h M
 cases cL hl l<;>cases cL hh h<;>simp
 cases x<;>simp
 rename_i z
 by_cases hz:z.cps.size<=sz
 ·simp [hz]
  cases a9 z.cps.size 0 l<;>cases a9 z.cps.size z.cps.size h<;>simp
 ·simp [hz]
end
def iJ (L:Nat)(z:Str):Prop:=z.cps.size<=L/\z.cps.all (· < 0x110000)=true
theorem iJ.th {n L:Nat}{z:Str}(h:iJ L z):Th n L (.str z):=by cases n<;>exact h
theorem AX {L:Nat}{z:Str}{i j:Nat}(h:iJ L z):iJ (j-i) (jD z i j)/\(jD z i j).cps.size<=z.cps.size-i:=by
 refine ⟨⟨?_,?_⟩,?_⟩
 ·simp [jD,cut];omega
 ·have h2:=h.2
  rw [<- Array.all_toList,List.all_eq_true] at h2
  simp only [jD]
  rw [List.all_toArray,List.all_eq_true]
  intro x hx
  exact h2 x (List.mem_of_mem_drop (List.mem_of_mem_take hx))
 ·simp [jD,cut];omega
theorem add_str {m:Bool}{x y:Str}{M:Mem}{k:D->Mem->Prop}(h:x.cps.size+y.cps.size<=sz):au (fR m .add (.str x) (.str y) M) k↔k (.str ⟨x.cps++y.cps⟩) M:=by simp [fR,h]
abbrev Kz:Str:=" !\"#$&'()*+,-./0123456789:;<=>?@ABCDEFGHIJKLMNOPQRSTUVWXYZ[\\]^_`"
abbrev Ky:Str:="abcdefghijklmnopqrstuvwxyz{|}~\t\n"
def allSigns:Str:=⟨Kz.cps++Ky.cps⟩
theorem Fs {M:Mem}{k:D->Mem->Prop}:au (fR false .add (.str Kz) (.str Ky) M) k↔k (.str allSigns) M:=add_str (tqh (by decide +kernel) (aM (n:=200) (by decide)))
theorem jM:(0<(signs allSigns).length/\(signs allSigns).length<=200)/\allSigns.cps.size<=200/\((signs allSigns).all fun d=>match d with|.str z=>!kB z ""&&z.cps.size==1&&z.cps.all (· < 0x110000)|_=>false)=true:=by decide +kernel
theorem sign_is {d:D}(h:d∈signs allSigns):∃z:Str,d=.str z/\kB z ""=false/\iJ 1 z:=by
 have q:=List.all_eq_true.mp jM.2.2 d h
 cases d with
 | str z =>
   simp only [Bool.and_eq_true,Bool.not_eq_true',beq_iff_eq] at q
   exact ⟨z,rfl,q.1.1,by rw [q.1.2];exact tqg 1,q.2⟩
 |_=>cases q
section
variable {P:Nat->Option Df}(hp_:HasP0 P)(ht_:HasT0 P){M:Mem}
include hp_ ht_
theorem FN (n:Nat){p B:Nat}(hp:aU M p B)(hB:B<=900000):au (aw P (n+4) 65 [.cell p] M) fun d M'=>∃z:Str,d=.str z/\iJ 1 z/\aU M' p (B+1)/\bw p M M':=by
 refine aL ht_.any rfl ?_
 show au (fw _ [some (.cell p)] M) _
 simp only [fw,aQ,cF,dP,bp,bx,bc,cR,List.getElem?_cons_zero,Option.getD_some,Option.some.injEq,exists_eq_left']
 refine aL ht_.but rfl ?_
 show au (fv _ [some (.cell p),some (.str ""),none,none] M) _
 simp only [fv,aQ,qi,gz,eL,cF,cR,fK,bc,List.getElem?_cons_zero,List.getElem?_cons_succ,Option.getD_some,Option.some.injEq,exists_eq_left',List.set_cons_zero,List.set_cons_succ]
 refine Fs.mpr ?_
 simp only [iA,FH,bc,List.getElem?_cons_zero,List.getElem?_cons_succ,Option.getD_some,Option.some.injEq,exists_eq_left',D.str.injEq]
 refine n5 (fun _=>true) (fun d=>d) (ds:=signs allSigns) (aM (by have:=jM.1.2;omega)) rfl (fun d hd=>?_) ?_
 ·obtain ⟨z,rfl,hz,_⟩:=sign_is hd
  refine ⟨_,rfl,aS ?_,fun _=>rfl⟩
  simp
  show some (!kB z "")=_
  rw [hz];rfl
 have ef:(List.filter (fun _=>true) (signs allSigns)).map (fun d=>d)=signs allSigns:=by simp
 rw [ef]
 refine cO.mpr ⟨aM (by have:=jM.1.2;omega),?_⟩
 simp only [eL,aQ,cF,eY,dP,bp,bx,dW,bc,List.getElem?_cons_zero,List.getElem?_cons_succ,Option.getD_some,Option.some.injEq,exists_eq_left',List.set_cons_zero,List.set_cons_succ,EI]
 refine tk hp_ n hp (by omega) jM.1.1 (by have:=jM.1.2;omega) fun v M' hv q kk=>?_
 obtain ⟨z,e,_,hz⟩:=sign_is (List.getElem_mem hv)
 refine ⟨.str z,?_,z,rfl,hz,q,kk⟩
 show (cb (signs allSigns).length (v:Int)).bind (fun j=>(signs allSigns)[j]?)=_
 rw [fo hv]
 simp [hv,e]
end
section
variable {P:Nat->Option Df}(hp_:HasP P)(ht_:HasT P){M:Mem}
include hp_ ht_
omit hp_ ht_ in
theorem A1 {A B:Nat}{x y:Str}(hx:iJ A x)(hy:iJ B y):iJ (x.cps.size+y.cps.size) ⟨x.cps++y.cps⟩:=by
 refine ⟨by simp,?_⟩
 have h1:=hx.2
 have h2:=hy.2
 simp only [Array.all_append,h1,h2,Bool.and_self]
theorem zD (n:Nat){p B L:Nat}{z:Str}(hz:iJ L z)(hL:L<=100)(hp:aU M p B)(hB:B<=800000):au (aw P (n+5) 66 [.cell p,.str z] M) fun d M'=>∃z':Str,d=.str z'/\iJ (L+1) z'/\aU M' p (B+3)/\bw p M M':=by
 refine aL ht_.signed rfl ?_
 show au (gE _ [some (.cell p),some (.str z),none] M) _
 have zl:=hz.1
 have zsz:z.cps.size<=sz:=aM (by omega)
 simp only [gE,aQ,qi,gz,eL,cF,dP,bp,bx,cR,fK,bc,dW,Il,List.getElem?_cons_zero,List.getElem?_cons_succ,Option.getD_some,Option.some.injEq,exists_eq_left',List.set_cons_zero,List.set_cons_succ]
 have el:∀{k:D->Mem->Prop},k (.int z.cps.size) M->au (gp .len [.str z] M) k:=fun hk=>by
  show au (if z.cps.size<=sz then Res.ok (D.int z.cps.size) M else .bad) _
  rw [if_pos zsz];exact hk
 refine el ?_
 rw [gF]
 rw [show ((z.cps.size:Int)+1)=((z.cps.size+1:Nat):Int) by omega]
 refine tk hp_ (n+2) hp (by omega) (by omega) (by omega) fun at_ M1 hat q1 k1=>?_
 refine ⟨rfl,rfl,z,0,at_,rfl,zsz,rfl,?_,?_⟩
 ·show some (if (at_:Int)<0 then _ else min (at_:Int).toNat z.cps.size)=_
  rw [if_neg (by omega)]
  congr 1
  simp;omega
 refine a7 (FN hp_ ht_ (M:=M1) (B:=B+1) (p:=p) n q1 (by omega)) fun d M2 ⟨y,ed,hy,q2,k2⟩=>?_
 subst ed
 have c1:=AX (i:=0) (j:=at_) hz
 have hs1:=A1 c1.1 hy
 have s1:=c1.1.1
 have s2:=hy.1
 have w1:(jD z 0 at_).cps.size+y.cps.size<=sz:=aM (by omega)
 refine (add_str w1).mpr ?_
 refine tk hp_ (n+2) (many:=2) q2 (by omega) (by decide) (by decide) fun v M3 hv q3 k3=>?_
 rw [gF]
 rw [show ((at_:Int)+(v:Int))=((at_+v:Nat):Int) by omega]
 refine ⟨rfl,rfl,z,min (at_+v) z.cps.size,z.cps.size,rfl,zsz,?_,rfl,?_⟩
 ·show some (if ((at_+v:Nat):Int)<0 then _ else min ((at_+v:Nat):Int).toNat z.cps.size)=_
  rw [if_neg (by omega)]
  congr 1
 have c2:=AX (i:=min (at_+v) z.cps.size) (j:=z.cps.size) hz
 have hs2:=A1 hs1 c2.1
 have s3:=c2.2
 have s4:=hs1.1
 simp only at s4
 have w2:((jD z 0 at_).cps++y.cps).size+(jD z (min (at_+v) z.cps.size) z.cps.size).cps.size<=sz:=aM (by simp only [Array.size_append] at s4 ⊢;omega)
 refine (add_str w2).mpr ?_
 refine ⟨_,rfl,⟨?_,hs2.2⟩,q3,(k1.trans k2).trans k3⟩
 have:=hs2.1
 simp only [Array.size_append] at this ⊢
 omega
end
def fA:List D:=[.non,.bl true,.bl false,.str "",.str "turn",.str "join",.str "move",.str "put",.str "Turn",.tup [],.lst [],.int (10^20),.int (-1),.int 0,.int 1,.int 4,.tup [.int 0],.lst [.int 0],.str "0",.int 7]
theorem lg {x:D}(h:x∈fA):Th 1 4 x:=by
 have st:∀z:Str,(z.cps.size<=4&&z.cps.all (· < 0x110000))=true->Th 1 4 (.str z):=fun z hz=>by
  simp only [Bool.and_eq_true,decide_eq_true_eq] at hz
  exact hz
 simp only [fA,List.mem_cons,List.not_mem_nil,or_false] at h
 rcases h with rfl|rfl|rfl|rfl|rfl|rfl|rfl|rfl|rfl|rfl|rfl|rfl|rfl|rfl|rfl|rfl|rfl|rfl|rfl|rfl
 all_goals first
  |trivial
  |exact st _ (by decide +kernel)
  |exact ⟨by decide,fun d hd=>absurd hd List.not_mem_nil⟩
  |exact ⟨by decide,fun d hd=>by rw [List.mem_singleton.mp hd];trivial⟩
theorem wR {lo hi:D}{hl hh:Bool}{xs:List D}{M:Mem}{k:D->Mem->Prop}(h1:cL hl lo=true)(h2:cL hh hi=true)(hk:∀i j,k (.tup (cut xs i j)) M):au (eG false (.tup xs) lo hi M) k:=by
 have q:∀{n d:Nat}{b:Bool}{x:D},cL b x=true->∃i,a9 n d x=some i:=fun {n d b x} h=>by
  cases b<;>cases x<;>first|exact ⟨_,rfl⟩|cases h
 obtain ⟨i,e1⟩:=q (n:=xs.length) (d:=0) h1
 obtain ⟨j,e2⟩:=q (n:=xs.length) (d:=xs.length) h2
 show au (match a9 xs.length 0 lo,a9 xs.length xs.length hi with|some l,some h=>Res.ok (D.tup (cut xs l h)) M|_,_=>.bad) k
 rw [e1,e2]
 exact hk i j
theorem ks {xs:List D}{i j:Nat}:(cut xs i j).length<=xs.length/\(cut xs i j).length<=j/\∀d∈cut xs i j,d∈xs:=by
 refine ⟨?_,?_,fun d hd=>List.mem_of_mem_drop (List.mem_of_mem_take hd)⟩
 ·unfold cut;rw [List.length_take,List.length_drop];omega
 ·unfold cut;rw [List.length_take];omega
theorem Jl {xs:List D}{M:Mem}{k:D->Mem->Prop}(hk:∀ys:List D,ys.length<=1->(∀d∈ys,d∈xs)->k (.tup ys) M):au (eG false (.tup xs) .non (.int 1) M) k:=by
 show au (Res.ok (D.tup (cut xs 0 (min 1 xs.length))) M) k
 exact hk _ (tqh ks.2.1 (by omega)) ks.2.2
theorem zO {xs:List D}{a:Nat}{M:Mem}{k:D->Mem->Prop}(ha:a<xs.length)(hk:k (.tup (xs.take a)) M):au (eG false (.tup xs) .non (nD a) M) k:=by
 show au (Res.ok (D.tup (cut xs 0 (if (a:Int)<0 then _ else min (a:Int).toNat xs.length))) M) k
 rw [if_neg (by omega)]
 have:cut xs 0 (min (a:Int).toNat xs.length)=xs.take a:=by
  unfold cut
  rw [show min (a:Int).toNat xs.length-0=a by simp;omega,List.drop_zero]
 rw [this];exact hk
theorem uN {xs:List D}{a:Nat}{M:Mem}{k:D->Mem->Prop}(ha:a<xs.length)(hk:k (.tup (xs.drop (a+1))) M):au (eG false (.tup xs) (.int ((a:Int)+1)) .non M) k:=by
 show au (Res.ok (D.tup (cut xs (if (a:Int)+1<0 then _ else min ((a:Int)+1).toNat xs.length) xs.length)) M) k
 rw [if_neg (by omega)]
 have:cut xs (min ((a:Int)+1).toNat xs.length) xs.length=xs.drop (a+1):=by
  unfold cut
  rw [show min ((a:Int)+1).toNat xs.length=a+1 by omega,List.take_of_length_le (by simp)]
 rw [this];exact hk
theorem Th.tup_of {k L:Nat}{xs:List D}(hl:xs.length<=L)(h:∀d∈xs,Th k L d):Th (k+1) L (.tup xs):=⟨hl,h⟩
theorem Th.lst_of {k L:Nat}{xs:List D}(hl:xs.length<=L)(h:∀d∈xs,Th k L d):Th (k+1) L (.lst xs):=⟨hl,h⟩
def pV (c:Call):GS:=(aj (bo (gP (aJ (cy .str (ah 1))) (aJ (aW .lt (ah 3) (gI 3)))) (aj (bh (aA 66 c (ag (ah 0) (ag (ah 1) av)))) ax) ax) (aj (bh (aO (ah 7) (ah 4))) ax))
section
variable {P:Nat->Option Df}(hp_:HasP P)(ht_:HasT P)(hw_:vY P){M:Mem}
include hp_ ht_ hw_
theorem A6 (n:Nat){k L p B kind pick:Nat}{d:D}{x2 x5 x6 x8:Option D}(hd:Th k L d)(hk:k<=50)(h6:6<=L)(hL:L<=50)(hp:aU M p B)(hB:B<=800000)(hpk:pick<20) :
 au (pV (aw P (n+5)) [some (.cell p),some d,x2,some (nD kind),some (nD pick),x5,x6,some (.lst fA),x8] M) (gm fun d' M'=>Th (k+1) (L+1) d'/\aU M' p (B+3)/\bw p M M'):=by
 have fin:au (aj (bh (aO (ah 7) (ah 4))) ax [some (.cell p),some d,x2,some (nD kind),some (nD pick),x5,x6,some (.lst fA),x8] M) (gm fun d' M'=>Th (k+1) (L+1) d'/\aU M' p (B+3)/\bw p M M'):=by
  have hl:pick<fA.length:=hpk
  exact d8 (v:=fA[pick]) (aE (by simp [-xn,oA hl])) ⟨(lg (List.getElem_mem hl)).mono (by omega) (by omega),hp.mono (by omega),.refl⟩
 unfold pV
 cases d with
 |fn j=>exact absurd hd (by cases k<;>exact id)
 |exc y p=>exact absurd hd (by cases k<;>exact id)
 | str z =>
   have hz:iJ L z:=by cases k<;>exact hd
   by_cases c:(kind:Int)<3
   ·simp only [aQ,kY,C4,fG,vK,bc,ft,cR,List.getElem?_cons_zero,List.getElem?_cons_succ,Option.getD_some,Option.some.injEq,exists_eq_left',cF,dP,bp,bx]
    refine ⟨true,rfl,true,rfl,?_⟩
    rw [if_pos rfl]
    refine ⟨_,rfl,_,rfl,?_⟩
    rw [decide_eq_true c,if_pos rfl]
    exact a7 (zD hp_ ht_ n hz (by omega) hp hB) fun d' M' ⟨z',e,h1,h2,h3⟩=>⟨by rw [e];exact h1.th.mono (tqg _) (tqg _),h2,h3⟩
   ·refine aP (aS ?_) fin
    simp [cx]
    omega
 |_=>exact aP rfl fin
omit hp_ ht_ hw_ in
theorem Aq {k:Fl->Mem->Prop}{rest:GS}{M:Mem}{x0 x1 x2 x3 x4 x5 x6 x7 x8:Option D}(hk:au (rest [x0,x1,x2,x3,x4,x5,x6,some (.lst fA),x8] M) k) :
 au (aj (aV (.one 7) (bD false (ag gN (ag qQ (ag s8 (ag (gS "") (ag (gS "turn") (ag (gS "join") (ag (gS "move") (ag (gS "put") (ag (gS "Turn") (ag (bZ av) (ag (bD false av) (ag (aH false .pow (gI 10) (gI 20)) (ag (eW (gI 1)) (ag (gI 0) av)))))))))))))))) (aj (aV (.one 7) (aH false .add (ah 7) (bD false (ag (gI 1) (ag (gI 4) (ag (bZ (ag (gI 0) av)) (ag (bD false (ag (gI 0) av)) (ag (gS "0") (ag (gI 7) av))))))))) rest) [x0,x1,x2,x3,x4,x5,x6,x7,x8] M) k:=by
 simp only [aQ,gz]
 have e:((bD false (ag gN (ag qQ (ag s8 (ag (gS "") (ag (gS "turn") (ag (gS "join") (ag (gS "move") (ag (gS "put") (ag (gS "Turn") (ag (bZ av) (ag (bD false av) (ag (aH false .pow (gI 10) (gI 20)) (ag (eW (gI 1)) (ag (gI 0) av))))))))))))))):GE) [x0,x1,x2,x3,x4,x5,x6,x7,x8] M=.ok (.lst (fA.take 14)) M:=by rfl
 rw [e]
 show au (aj _ rest [x0,x1,x2,x3,x4,x5,x6,some (.lst (fA.take 14)),x8] M) k
 simp only [aQ,gz]
 have e2:((aH false .add (ah 7) (bD false (ag (gI 1) (ag (gI 4) (ag (bZ (ag (gI 0) av)) (ag (bD false (ag (gI 0) av)) (ag (gS "0") (ag (gI 7) av)))))))):GE) [x0,x1,x2,x3,x4,x5,x6,some (.lst (fA.take 14)),x8] M=.ok (.lst fA) M:=by rfl
 rw [e2]
 exact hk
def oQ (c:Call):GS:=aj (bo (aJ (cy .tuple (ah 1))) (aj (aV (.one 8) (bD false (ag (bt (.list false) (ag (ah 1) av)) (ag (aH false .add (ah 1) (dG false false true (ah 1) gN (gI 1))) (ag (dG false false true (ah 1) gN (eW (gI 1))) (ag (rZ false (ah 1)) (ag (aH false .add (ah 1) (bZ (ag (ah 5) av))) (ag (dG false true false (ah 1) (gI 1) gN) (ag (bZ (ag (ah 1) av)) av))))))))) (aj (bh (aO (aH false .add (ah 8) (bD false (ag (aO (ah 7) (ah 4)) av))) (ah 3))) ax)) ax) (aj (bo (aJ (aA 67 c (ag (ah 1) av))) (aj (bh (aO (bD false (ag (aH false .add (ah 1) (gI 1)) (ag (aH false .sub (ah 1) (gI 1)) (ag (aH false .sub (gI 0) (ah 1)) (ag (ah 5) (ag (ah 5) (ag (aW .eq (ah 1) (gI 1)) (ag (aH false .sub (gI 3) (ah 1)) (ag (aO (ah 7) (ah 4)) av))))))))) (ah 3))) ax) ax) (pV c))
theorem CQ (n:Nat){k L p B kind pick:Nat}{num:Int}{d:D}{x2 x6 x8:Option D}(hd:Th k L d)(hk:k<=50)(h6:6<=L)(hL:L<=50)(hp:aU M p B)(hB:B<=800000)(hkd:kind<8)(hpk:pick<20) :
 au (oQ (aw P (n+5)) [some (.cell p),some d,x2,some (nD kind),some (nD pick),some (.int num),x6,some (.lst fA),x8] M) (gm fun d' M'=>Th (k+1) (L+1) d'/\aU M' p (B+3)/\bw p M M'):=by
 have hl:pick<fA.length:=hpk
 have ho:Th (k+1) (L+1) fA[pick]:=(lg (List.getElem_mem hl)).mono (by omega) (by omega)
 have pick8:∀{xs:List D},xs.length=8->(∀x∈xs,Th (k+1) (L+1) x)->∃x,cY (.lst xs) (nD kind) M=some x/\Th (k+1) (L+1) x:=fun {xs} h8 h=>⟨_,oA (by omega),h _ (List.getElem_mem _)⟩
 unfold oQ
 have tail:=A6 hp_ ht_ hw_ n (x2:=x2) (x5:=some (.int num)) (x6:=x6) (x8:=x8) (kind:=kind) hd hk h6 hL hp hB hpk
 cases d with
 |fn j=>exact absurd hd (by cases k<;>exact id)
 |exc y p=>exact absurd hd (by cases k<;>exact id)
 | tup xs =>
   refine fq (aS (by simp [cx])) ?_
   simp only [aQ,gz,cF,mX,bp,bx,bc,dW,fK,lI,jj,yN,JX,cR,eY,List.getElem?_cons_zero,List.getElem?_cons_succ,Option.getD_some,Option.some.injEq,exists_eq_left',List.set_cons_zero,List.set_cons_succ]
   have hx:=hd.tup
   have hxl:=hx.1
   have hx1:∀d∈xs,Th k (L+1) d:=fun d hd=>(hx.2 d hd).mono (tqg _) (by omega)
   have up:∀{ys:List D},ys.length<=L+1->(∀d∈ys,d∈xs\/Th k (L+1) d)->Th (k+1) (L+1) (.tup ys):=fun {ys} hl h=>.tup_of hl fun d hd=>by
    rcases h d hd with z|z
    ·exact hx1 d z
    ·exact z
   refine pP.mpr (cO.mpr ⟨aM (by omega),rfl,rfl,Jl fun ys y1 y2=>?_⟩)
   refine jr.mpr ⟨aM (by simp;omega),1,rfl,rfl,rfl,wR (hl:=false) (hh:=true) rfl rfl fun i2 j2=>D8.mpr ⟨aM (by simp),jr.mpr ⟨aM (by simp;omega),rfl,rfl,wR (hl:=true) (hh:=false) rfl rfl fun i3 j3=>⟨aM (by simp),cO.mpr ⟨aM (by simp),?_⟩⟩⟩⟩⟩
   obtain ⟨x,e1,e2⟩:=pick8 (xs:=[.lst xs,.tup (xs++ys),.tup (cut xs i2 j2),.tup xs.reverse,.tup (xs++[.int num]),.tup (cut xs i3 j3),.tup [.tup xs]]++[fA[pick]]) rfl (fun x hx'=>by
    simp only [List.cons_append,List.nil_append,List.mem_cons,List.not_mem_nil,or_false] at hx'
    rcases hx' with rfl|rfl|rfl|rfl|rfl|rfl|rfl|rfl
    ·exact .lst_of (by omega) hx1
    ·exact up (by simp;omega) fun d hd=>(List.mem_append.mp hd).elim .inl fun z=>.inl (y2 d z)
    ·exact up (tqh ks.1 (by omega)) fun d hd=>.inl (ks.2.2 d hd)
    ·exact up (by simp;omega) fun d hd=>.inl (List.mem_reverse.mp hd)
    ·exact up (by simp;omega) fun d hd=>by
      rcases List.mem_append.mp hd with z|z
      ·exact .inl z
      ·rw [List.mem_singleton.mp z];exact .inr (by cases k<;>trivial)
    ·exact up (tqh ks.1 (by omega)) fun d hd=>.inl (ks.2.2 d hd)
    ·exact .tup_of (by simp) fun d hd'=>by rw [List.mem_singleton.mp hd'];exact hd.mono (tqg _) (by omega)
    ·exact ho)
   refine d8 (v:=x) (aE ?_) ⟨e2,hp.mono (by omega),.refl⟩
   simp only [eY,fK,bc,mX,bp,bx]
   exact ⟨_,rfl,_,rfl,_,rfl,_,oA hl,cO.mpr ⟨aM (by simp),IS.mpr (cO.mpr ⟨aM (by simp),_,rfl,x,e1,rfl,rfl⟩)⟩⟩
 | int i =>
   have qw:=nG hw_ (n+4) (M:=M) hd
   refine aP (aS (by simp [cx])) (fq (aS (by simp [qw,qa])) ?_)
   simp only [aQ,cF,mX,bp,bx,bc,fK,cR,eY,ft,List.getElem?_cons_zero,List.getElem?_cons_succ,Option.getD_some,Option.some.injEq,exists_eq_left',gF,qe]
   refine ⟨_,rfl,_,oA hl,cO.mpr ⟨aM (by simp),?_⟩⟩
   obtain ⟨x,e1,e2⟩:=pick8 (xs:=[.int (i+1),.int (i-1),.int (0-i),.int num,.int num,.bl (i==1),.int (3-i),fA[pick]]) rfl (fun x hx=>by
    simp only [List.mem_cons,List.not_mem_nil,or_false] at hx
    rcases hx with rfl|rfl|rfl|rfl|rfl|rfl|rfl|rfl
    all_goals first|exact ho|trivial)
   exact ⟨x,e1,e2,hp.mono (by omega),.refl⟩
 | _ =>
   have qw:=nG hw_ (n+4) (M:=M) hd
   exact aP (aS (by simp [cx])) (aP (aS (by simp [qw,qa])) tail)
omit hp_ ht_ hw_ in
theorem Cc {k L:Nat}{xs:List D}(h:Th k L (.tup xs))(hk:k<=60):bN .ne (.tup xs) (.tup []) M=some (!xs.isEmpty):=by
 refine oN (h.mono (n':=64) (by omega) (tqg L)).pure rfl ?_
 cases xs<;>rfl
theorem tD (n deep:Nat){k L p B:Nat}{d:D}(hd:Th k L d)(hk:k<=50)(h6:6<=L)(hL:L<=50)(hp:aU M p B)(hB:B<=700000)
 (ih:0<deep->∀{k' B':Nat}{d':D}{M':Mem},Th k' L d'->k'<=50->aU M' p B'->B'<=B+4->au (aw P (n+deep+5) 72 [.cell p,d',.int ((deep:Int)-1)] M') fun e M''=>Th (k'+1) (L+1) e/\aU M'' p (B'+6*deep)/\bw p M' M'') :
 au (aw P (n+deep+6) 72 [.cell p,d,nD deep] M) fun d' M'=>Th (k+1) (L+1) d'/\aU M' p (B+6*(deep+1))/\bw p M M':=by
 refine aL ht_.bent rfl ?_
 show au (aj _ (aj _ (aj _ (aj (bo _ _ ax) (aj _ (aj _ (oQ (aw P (n+deep+5)))))))) [some (.cell p),some d,some (nD deep),none,none,none,none,none,none] M) _
 simp only [aQ,gz,eL,dP,bp,bx,cR,bc,fK,List.getElem?_cons_zero,List.getElem?_cons_succ,Option.getD_some,Option.some.injEq,exists_eq_left',List.set_cons_zero,List.set_cons_succ]
 refine tk hp_ (n+deep+3) (many:=8) hp (by omega) (by decide) (by decide) fun kind M1 hkd q1 k1=>?_
 refine tk hp_ (n+deep+3) (many:=20) q1 (by omega) (by decide) (by decide) fun pick M2 hpk q2 k2=>?_
 refine tk hp_ (n+deep+3) (many:=9) q2 (by omega) (by decide) (by decide) fun num M3 hnm q3 k3=>?_
 rw [qe]
 have K3:=(k1.trans k2).trans k3
 have mid:au (aj _ (aj _ (oQ (aw P (n+deep+5)))) [some (.cell p),some d,some (nD deep),some (nD kind),some (nD pick),some (.int ((num:Int)-2)),none,none,none] M3) (gm fun d' M'=>Th (k+1) (L+1) d'/\aU M' p (B+6*(deep+1))/\bw p M M'):=
  Aq (a7 (CQ hp_ ht_ hw_ (n+deep) hd hk h6 hL q3 (by omega) hkd hpk) fun fl M' hf=>by
   cases fl with
   |next Z=>exact ⟨hf.1,hf.2.1.mono (by omega),K3.trans hf.2.2⟩
   |ret e=>exact ⟨hf.1,hf.2.1.mono (by omega),K3.trans hf.2.2⟩
   |exc x Z=>exact hf.elim)
 refine aQ.mp ?_
 cases d with
 |fn j=>exact absurd hd (by cases k<;>exact id)
 |exc y p=>exact absurd hd (by cases k<;>exact id)
 | tup xs =>
   have ne:=Cc (M:=M3) hd (by omega)
   by_cases hc:xs≠[]/\0<deep/\4<pick
   ·obtain ⟨c1,c2,c3⟩:=hc
    have lx:0<xs.length:=List.length_pos_iff.mpr c1
    have ei:xs.isEmpty=false:=by cases xs with|nil=>exact absurd rfl c1|cons _ _=>rfl
    rw [ei] at ne
    refine fq (aS (by simp [cx,ne];omega)) ?_
    have hx:=hd.tup
    have hxl:=hx.1
    cases k with
    |zero=>exact hd.elim
    | succ k' =>
      have hx':∀d∈xs,Th k' L d:=hd.2
      simp only [aQ,gz,cF,eL,jj,eY,lI,dP,bp,bx,cR,bc,fK,dW,List.getElem?_cons_zero,List.getElem?_cons_succ,Option.getD_some,Option.some.injEq,exists_eq_left',List.set_cons_zero,List.set_cons_succ,rW,gF,qe]
      refine tk hp_ (n+deep+3) q3 (by omega) lx (by omega) fun at_ M4 hat q4 k4=>?_
      refine ⟨rfl,rfl,zO hat ?_⟩
      refine ⟨xs[at_],?_,?_⟩
      ·show (cb xs.length (at_:Int)).bind (fun j=>xs[j]?)=_
       rw [fo hat];simp [hat]
      refine a7 (ih c2 (hx' _ (List.getElem_mem hat)) (by omega) q4 (by omega)) fun e M5 ⟨he,q5,k5⟩=>?_
      refine ⟨aM (by simp),jr.mpr ⟨aM (by simp;omega),rfl,rfl,uN hat ?_⟩⟩
      refine jr.mpr ⟨aM (by simp;omega),.tup_of (by simp;omega) fun d hd=>?_,q5.mono (by omega),(K3.trans k4).trans k5⟩
      rcases List.mem_append.mp hd with z|z
      ·rcases List.mem_append.mp z with z|z
       ·exact (hx' d (List.mem_of_mem_take z)).mono (by omega) (by omega)
       ·rw [List.mem_singleton.mp z];exact he
      ·exact (hx' d (List.mem_of_mem_drop z)).mono (by omega) (by omega)
   ·refine aP (aS ?_) mid
    simp [cx,ne]
    by_cases e0:xs=[]
    ·simp [e0]
    ·right
     refine ⟨e0,?_⟩
     have hc':¬ (0<deep/\4<pick):=fun z=>hc ⟨e0,z⟩
     omega
 |_=>exact aP (aS (by simp [cx])) mid
theorem wO:∀(deep n:Nat) {k L p B:Nat}{d:D}{M:Mem},deep<=9->Th k L d->k<=50->6<=L->L<=50->aU M p B->B+10*deep<=700000->
 au (aw P (n+deep+6) 72 [.cell p,d,nD deep] M) fun d' M'=>Th (k+1) (L+1) d'/\aU M' p (B+6*(deep+1))/\bw p M M'
 |0,n,k,L,p,B,d,M,h9,hd,hk,h6,hL,hp,hB=>tD hp_ ht_ hw_ n 0 hd hk h6 hL hp (by omega) (fun z=>absurd z (by decide))
 |deep+1,n,k,L,p,B,d,M,h9,hd,hk,h6,hL,hp,hB=>tD hp_ ht_ hw_ n (deep+1) hd hk h6 hL hp (by omega) (fun _ {k' B' d' M'} h1 h2 h3 h4=>by
  rw [show (((deep+1:Nat):Int)-1)=(deep:Int) by omega]
  exact wO deep n (by omega) h1 h2 h6 hL h3 (by omega))
end
end LD
namespace LD
open PySem
section
variable {P:Nat->Option Df}{M:Mem}{k L:Nat}{d:D}
theorem pN (h:y6 P)(h13:P 13=some ⟨1,1,dw⟩)(n:Nat)(hd:Th k L d)(hL:L<=100)(hb:fH d=true):aw P (n+8) 13 [d] M=.ok .non M:=by
 refine aE (aL h13 rfl ?_)
 simp [dw,pC h n hd hL,hb]
theorem sT (h:y6 P)(h13:P 13=some ⟨1,1,dw⟩)(n:Nat)(hd:Th k L d)(hL:L<=100)(hb:fH d=false):aw P (n+8) 13 [d] M=.err (.exc 3 none) M:=by
 refine eO (fC h13 rfl ?_)
 simp [dw,pC h n hd hL,hb]
 decide
end
section
variable {P:Nat->Option Df}(h:uj P){M:Mem}
include h
theorem zE (n:Nat){z:Str}(hz:aN 64 (.str z)=true):aw P (n+1) 40 [.str z,.str z] M=.ok (.bl true) M:=by
 refine aE (aL h.same rfl ?_)
 have e:bN .eq (.str z) (.str z) M=some true:=ku hz hz (by simp [view,bu])
 show au (dm (aw P n) [some (.str z),some (.str z)] M) _
 unfold dm
 refine aP rfl (aP rfl (aP rfl (bW rfl (v:=.bl true) ?_ ⟨rfl,rfl⟩)))
 show ((dv M (bN .eq (.str z) (.str z) M)).bind fun b M=>Res.ok (D.bl b) M)=_
 rw [e];rfl
end
end LD
namespace LD
open PySem
theorem Fp {f:Str}{c j:Nat}{i:Int}{Z:Env}{M:Mem}(h:Z[j]?.getD none=some (.exc c (some i)))(e:gO c=f):nW f (ah j) Z M=.ok (.int i) M:=by
 unfold nW ah
 rw [h]
 show (if gO c=f then Res.ok (D.int i) M else .bad)=_
 rw [if_pos e]
theorem Mn {x:D}{a:GE}{Z:Env}{M:Mem}{y:D}(e:a Z M=.ok y M):bD false (ag (gC x) (ag a av)) Z M=.ok (.lst [x,y]) M:=by
 exact je (aI rfl (aI e rfl)) (tqq rfl)
section
variable {P:Nat->Option Df}(h:uj P){M:Mem}
include h
theorem xI (n:Nat){ds:List D}(hz:ds.length<=sz)(hs:∀d∈ds,aw P n 40 [d,d] M=.ok (.bl true) M):aw P (n+1) 40 [.lst ds,.lst ds] M=.ok (.bl true) M:=by
 refine aE (aL h.same rfl ?_)
 show au (dm (aw P n) [some (.lst ds),some (.lst ds)] M) _
 unfold dm
 exact aP rfl (aP rfl (aP rfl (aP rfl (aP rfl (BM h n rfl rfl rfl rfl rfl rfl hz hs)))))
theorem zF (n:Nat)(i:Int):aw P (n+1) 40 [.int i,.int i] M=.ok (.bl true) M:=by
 refine aE (aL h.same rfl ?_)
 show au (dm (aw P n) [some (.int i),some (.int i)] M) _
 unfold dm
 exact aP rfl (aP rfl (bW rfl (v:=.bl (i==i)) rfl ⟨by simp,rfl⟩))
end
end LD
namespace LD
open PySem
@[simp] theorem sL {Z:Env}{M:Mem}{a:GE}{kf:Fl->Mem->Prop}{c:Nat}:au (jA c a Z M) kf↔au (a Z M) fun x M=>∃i,x=.int i/\i.natAbs<2^64/\kf (.exc (.exc c (some i)) Z) M:=by
 unfold jA
 cases a Z M with
 | ok x M1 =>
   cases x with
   |int i=>by_cases h:i.natAbs<2^64<;>simp [h]
   |_=>simp
 |err=>exact Iff.rfl
 |bad=>exact Iff.rfl
abbrev qU (m:aZ):D->Bool:=bF 0 ((m.deeds.length:Int)-1)
section
variable {P:Nat->Option Df}(h:HasM0 P){M:Mem}{k L:Nat}{d:D}
include h
theorem uM (n:Nat){m:aZ}(hd:Th k L d):aw P (n+2) 16 [m.d,d] M=.ok (.bl (qU m d)) M:=by
 refine aE (aL h.is_deed_number rfl ?_)
 simp [eX,aZ.d,cb,kr h.q _ hd]
theorem EC (n:Nat){m:aZ}{ds:List D}(hd:∀d∈ds,Th k L d)(hg:∀d∈ds,qU m d=true):aw P (n+3) 17 [m.d,.lst ds] M=.ok .non M:=by
 refine aE (aL h.need_numbers rfl ?_)
 show au (cQ (aw P (n+2)) [some m.d,some (.lst ds),none,none] M) _
 unfold cQ
 refine aP rfl ?_
 simp only [aQ,l9,zi,bc]
 refine ⟨_,rfl,rfl,?_⟩
 refine fP (ds:=eJ 0 ds) (fun i Z M'=>M'=M/\∃a b,Z=[some m.d,some (.lst ds),a,b]) (fun _ _ _ e=>rfl) ⟨rfl,none,none,rfl⟩ ?_ ?_
 ·rintro i e Z M' he ⟨rfl,a,b,rfl⟩
  rw [iU] at he
  obtain ⟨x,hx,rfl⟩:=Option.map_eq_some_iff.mp he
  have hm:=List.mem_of_getElem? hx
  refine ⟨_,rfl,aP (aS ?_) ⟨_,rfl,rfl,_,_,rfl⟩⟩
  simp [uM h n (hd x hm),hg x hm]
 ·rintro Z M' ⟨rfl,a,b,rfl⟩
  exact ⟨rfl,rfl⟩
theorem vj (n:Nat){m:aZ}{ds:List D}{i:Nat}{x:D}(hd:∀d∈ds,Th k L d)(hx:ds[i]?=some x)(hb:qU m x=false)(hg:∀j y,j<i->ds[j]?=some y->qU m y=true)(hi:i<1000000):aw P (n+3) 17 [m.d,.lst ds] M=.err (.exc 0 (some (i:Int))) M:=by
 refine eO (fC h.need_numbers rfl ?_)
 show au (cQ (aw P (n+2)) [some m.d,some (.lst ds),none,none] M) _
 unfold cQ
 refine aP rfl ?_
 simp only [aQ,l9,zi,bc]
 refine ⟨_,rfl,rfl,?_⟩
 refine jv (ds:=eJ 0 ds) (fun j fl M'=>M'=M/\((j<=i/\∃a b,fl=.next [some m.d,some (.lst ds),a,b])\/(i<j/\∃Z,fl=.exc (.exc 0 (some (i:Int))) Z))) (fun _ _ _ e=>rfl) ⟨rfl,.inl ⟨Nat.zero_le _,none,none,rfl⟩⟩ ?_ ?_
 ·rintro j e fl M' he ⟨rfl,hj⟩
  rw [iU] at he
  obtain ⟨y,hy,rfl⟩:=Option.map_eq_some_iff.mp he
  rcases hj with ⟨hj,a,b,rfl⟩|⟨hj,Z,rfl⟩
  ·show au (aj _ ax [some m.d,some (.lst ds),some (.int ((0+j:Nat):Int)),some y] M') _
   rw [Nat.zero_add]
   have e:=uM h n (m:=m) (M:=M') (hd y (List.mem_of_getElem? hy))
   by_cases c:j=i
   ·subst c
    rw [hx] at hy;cases hy
    rw [hb] at e
    refine fq (aS (by simp [e])) ?_
    simp only [aQ,sL,bc]
    exact ⟨_,rfl,_,rfl,by omega,rfl,.inr ⟨Nat.lt_succ_self _,_,rfl⟩⟩
   ·rw [hg j y (by omega) hy] at e
    exact aP (aS (by simp [e])) ⟨rfl,.inl ⟨by omega,_,_,rfl⟩⟩
  ·exact ⟨rfl,.inr ⟨by omega,_,rfl⟩⟩
 ·rintro fl M' ⟨rfl,hj⟩
  have hlt:=(List.getElem?_eq_some_iff.mp hx).1
  have:(eJ 0 ds).length=ds.length:=lq ds 0
  rcases hj with ⟨hj,_⟩|⟨_,Z,rfl⟩
  ·omega
  ·exact ⟨rfl,rfl⟩
theorem vi (n:Nat){m:aZ}(hd:cx .list d=some false):aw P (n+3) 17 [m.d,d] M=.err (.exc 0 (some 0)) M:=by
 refine eO (fC h.need_numbers rfl ?_)
 show au (cQ (aw P (n+2)) [some m.d,some d,none,none] M) _
 unfold cQ
 refine fq (aS (by simp [hd])) ?_
 simp only [aQ,sL,cR]
 exact ⟨0,rfl,by decide,rfl,rfl⟩
theorem BP (n:Nat){r:D}(hd:Th k L d)(hL:L<=100)(hb:fH d=false):aw P (n+9) 18 [d,r] M=.err (.exc 3 none) M:=by
 refine eO (fC h.need_row rfl ?_)
 show au (dX (aw P (n+8)) [some d,some r] M) _
 unfold dX
 simp only [aQ,gy,fb,bp,bx,bc]
 refine ⟨_,rfl,?_⟩
 rw [sT h.q h.need_machine n hd hL hb]
 exact ⟨rfl,rfl⟩
theorem BO (n:Nat){m:aZ}{r:D}{x:D}(hm:br m)(e:aw P (n+8) 17 [m.d,r] M=.err x M):aw P (n+9) 18 [m.d,r] M=.err x M:=by
 refine eO (fC h.need_row rfl ?_)
 show au (dX (aw P (n+8)) [some m.d,some r] M) _
 unfold dX
 simp only [aQ,gy,fb,bp,bx,bc]
 refine ⟨_,rfl,?_⟩
 rw [pN h.q h.need_machine n (mi hm) (by decide) (lC hm)]
 show au (aj _ _ [some m.d,some r] M) _
 simp only [aQ,gy,fb,bp,bx,bc]
 refine ⟨_,rfl,_,rfl,?_⟩
 rw [e]
 exact ⟨rfl,rfl⟩
theorem BQ (n:Nat){m:aZ}{ds:List D}(hm:br m)(e:aw P (n+8) 17 [m.d,.lst ds] M=.ok .non M)(hl:40<ds.length):aw P (n+9) 18 [m.d,.lst ds] M=.err (.exc 4 none) M:=by
 refine eO (fC h.need_row rfl ?_)
 show au (dX (aw P (n+8)) [some m.d,some (.lst ds)] M) _
 unfold dX
 simp only [aQ,gy,fb,bp,bx,bc]
 refine ⟨_,rfl,?_⟩
 rw [pN h.q h.need_machine n (mi hm) (by decide) (lC hm)]
 show au (aj _ _ [some m.d,some (.lst ds)] M) _
 simp only [aQ,gy,fb,bp,bx,bc]
 refine ⟨_,rfl,_,rfl,?_⟩
 rw [e]
 refine fq (aS ?_) ?_
 ·simp only [fG,ft,dW,bp,bx,bc,cR]
  refine ⟨_,rfl,_,rfl,_,rfl,?_,rfl⟩
  exact decide_eq_true (by omega)
 ·exact ⟨rfl,rfl⟩
end
end LD
namespace LD
open PySem
def wC (m:aZ)(x:D):Bool:=cW x||bF 0 ((m.words:Int)-1) x
def gR (m:aZ)(d:D):Bool:=eZ (c8 m).length d&&(nR d).all (wC m)
def pS:D->Bool
 |.tup [.tup (x::_),w]=>cW w||bu x w
 |_=>false
theorem all_gen {w:GW}{ge:GE}{Z:Env}{M:Mem}{ds:List D}{tg:dD}{own:Nat}(f:D->Bool)(hw:au (w Z M) fun wk M'=>M'=M/\wk M=some ds)(hz:ds.length<=sz)(he:∀d∈ds,∃ρ1,c7 tg d (List.replicate own none++Z)=some ρ1/\ge ρ1 M=.ok (.bl (f d)) M) :
 bt .all (ag (bX false own tg w (cg ge)) av) Z M=.ok (.bl (ds.all f)) M:=by
 refine aE ?_
 simp only [dW,bp,iA,bx]
 refine a7 hw fun wk M' ⟨e1,e2⟩=>?_
 subst e1
 refine jR (fun d=>.bl (f d)) hz e2 he ?_
 simp only [cO,List.length_map,xD]
 refine ⟨hz,_,lT f ds,?_,trivial⟩
 congr 1
 rw [List.all_map];rfl
theorem qP {x:D}{r:List D}{M:Mem}:cY (.tup (x::r)) (.int 0) M=some x:=by
 show (cb (x::r).length ((0:Nat):Int)).bind (fun j=>(x::r)[j]?)=_
 rw [fo (by simp)]
 rfl
theorem Es {c:Call}{m:aZ}{x:D}{r:Env}{M:Mem}(e:c 1 [nD m.words,x] M=.ok (.bl (bF 0 ((m.words:Int)-1) x)) M) :
 xr (aW .isN (ah 0) gN) (aA 1 c (ag (aO (ah 1) (gI 0)) (ag (ah 0) av))) (some x::some m.d::r) M=.ok (.bl (wC m x)) M:=by
 refine aE ?_
 simp only [Im,ft,cR,bc]
 refine ⟨x,rfl,cW x,rfl,cW x,rfl,?_⟩
 unfold wC
 cases cW x with
 |true=>exact ⟨rfl,trivial⟩
 | false =>
   simp only [Bool.false_eq_true,if_false,dP,bp,bx,eY,bc,cR]
   refine ⟨m.d,rfl,nD m.words,rfl,x,rfl,?_⟩
   rw [e]
   exact ⟨rfl,rfl⟩
section
variable {P:Nat->Option Df}(h:HasM0 P){M:Mem}{k L:Nat}{d:D}
include h
theorem zL (h15:P 15=some ⟨1,6,cH⟩)(h79:P 79=some ⟨2,2,eP⟩)(n:Nat){m:aZ}(hm:br m)(hd:Th k L d)(hL:L<=100):aw P (n+10) 79 [m.d,d] M=.ok (.bl (gR m d)) M:=by
 refine aE (aL h79 rfl ?_)
 show au (eP (aw P (n+9)) [some m.d,some d] M) _
 have e15:=wQ h h15 n (M:=M) hm
 have e4:=l5 h.q (n+8) (w:=(c8 m).length) (M:=M) hd
 have et:(cn (aJ (aA 4 (aw P (n+9)) (ag (bt .len (ag (aA 15 (aw P (n+9)) (ag (ah 0) av)) av)) (ag (ah 1) av)))):GT) [some m.d,some d] M=.ok (!eZ (c8 m).length d) M:=by
  refine aS ?_
  simp only [om,fG,dP,bp,bx,dW,bc]
  refine ⟨m.d,rfl,?_⟩
  rw [e15]
  refine ⟨d,rfl,?_⟩
  rw [List.length_map]
  show au (aw P (n+9) 4 [nD (c8 m).length,d] M) _
  rw [e4]
  exact ⟨_,rfl,rfl,rfl⟩
 unfold eP gR
 cases hc:eZ (c8 m).length d with
 | false =>
   rw [hc] at et
   exact bW et rfl ⟨rfl,rfl⟩
 | true =>
   rw [hc] at et
   refine aP et ?_
   cases d with
   | tup ds =>
     have ht:=hd.tup
     refine d8 (all_gen (ds:=ds) (own:=1) (tg:=.one 0) (wC m) ?_ (aM (by omega)) fun x hx=>⟨_,rfl,Es (pB h.q (n+7) (ht.2 x hx))⟩) ⟨rfl,rfl⟩
     exact ⟨rfl,rfl⟩
   |_=>cases hc
theorem EB (h80:P 80=some ⟨2,2,cZ⟩)(n:Nat){w:D}(hd:Th k L d)(hL:L<=100)(hb:fH d=false):aw P (n+11) 80 [d,w] M=.err (.exc 3 none) M:=by
 refine eO (fC h80 rfl ?_)
 show au (cZ (aw P (n+10)) [some d,some w] M) _
 unfold cZ
 simp only [aQ,gy,fb,bp,bx,bc]
 refine ⟨_,rfl,?_⟩
 rw [sT h.q h.need_machine (n+2) hd hL hb]
 exact ⟨rfl,rfl⟩
theorem xg {m:aZ}(h15:P 15=some ⟨1,6,cH⟩)(h79:P 79=some ⟨2,2,eP⟩)(n:Nat)(hm:br m)(hd:Th k L d)(hL:L<=100){kf:Fl->Mem->Prop}{A rest:GS}(hk:au (aj (bo (cn (aJ (aA 79 (aw P (n+10)) (ag (ah 0) (ag (ah 1) av))))) A ax) rest [some m.d,some d] M) kf) :
 au (aj (jB (dZ 13 (aw P (n+10)) (ag (ah 0) av))) (aj (bo (cn (aJ (aA 79 (aw P (n+10)) (ag (ah 0) (ag (ah 1) av))))) A ax) rest) [some m.d,some d] M) kf:=by
 simp only [aQ,gy,fb,bp,bx,bc] at hk ⊢
 refine ⟨_,rfl,?_⟩
 rw [pN h.q h.need_machine (n+2) (mi hm) (by decide) (lC hm)]
 exact aQ.mpr hk
theorem Dm {m:aZ}(h15:P 15=some ⟨1,6,cH⟩)(h79:P 79=some ⟨2,2,eP⟩)(n:Nat)(hm:br m)(hd:Th k L d)(hL:L<=100):(cn (aJ (aA 79 (aw P (n+10)) (ag (ah 0) (ag (ah 1) av)))):GT) [some m.d,some d] M=.ok (!gR m d) M:=by
 refine aS ?_
 simp only [om,fG,dP,bp,bx,bc]
 refine ⟨_,rfl,_,rfl,?_⟩
 rw [zL h h15 h79 n hm hd hL]
 exact ⟨_,rfl,rfl,rfl⟩
theorem Dl {m:aZ}(h15:P 15=some ⟨1,6,cH⟩)(h79:P 79=some ⟨2,2,eP⟩)(h80:P 80=some ⟨2,2,cZ⟩)(n:Nat)(hm:br m)(hd:Th k L d)(hL:L<=100)(hw:gR m d=true):aw P (n+11) 80 [m.d,d] M=.ok .non M:=by
 refine aE (aL h80 rfl ?_)
 show au (cZ (aw P (n+10)) [some m.d,some d] M) _
 unfold cZ
 have e:=Dm h h15 h79 n (M:=M) hm hd hL
 rw [hw] at e
 exact xg h h15 h79 n hm hd hL (aP e ⟨rfl,rfl⟩)
theorem Au {m:aZ}(h15:P 15=some ⟨1,6,cH⟩)(h79:P 79=some ⟨2,2,eP⟩)(h80:P 80=some ⟨2,2,cZ⟩)(n:Nat)(hm:br m)(hd:Th k L d)(hL:L<=100)(hw:gR m d=false):aw P (n+11) 80 [m.d,d] M=.err (.exc 6 none) M:=by
 refine eO (fC h80 rfl ?_)
 show au (cZ (aw P (n+10)) [some m.d,some d] M) _
 unfold cZ
 have e:=Dm h h15 h79 n (M:=M) hm hd hL
 rw [hw] at e
 refine xg h h15 h79 n hm hd hL (fq e ?_)
 exact ⟨rfl,rfl⟩
omit h in
theorem vL (h82:P 82=some ⟨3,3,c6⟩)(n:Nat){r w x:D}(e:aw P n 18 [d,r] M=.err x M):aw P (n+1) 82 [d,r,w] M=.err x M:=by
 refine eO (fC h82 rfl ?_)
 show au (c6 (aw P n) [some d,some r,some w] M) _
 unfold c6
 simp only [aQ,gy,fb,bp,bx,bc]
 refine ⟨_,rfl,_,rfl,?_⟩
 rw [e]
 exact ⟨rfl,rfl⟩
omit h in
theorem EZ (h82:P 82=some ⟨3,3,c6⟩)(n:Nat){r w x:D}(e:aw P n 18 [d,r] M=.ok .non M)(e2:aw P n 80 [d,w] M=.err x M):aw P (n+1) 82 [d,r,w] M=.err x M:=by
 refine eO (fC h82 rfl ?_)
 show au (c6 (aw P n) [some d,some r,some w] M) _
 unfold c6
 simp only [aQ,gy,fb,bp,bx,bc]
 refine ⟨_,rfl,_,rfl,?_⟩
 rw [e]
 show au (aj _ _ [some d,some r,some w] M) _
 simp only [aQ,gy,fb,bp,bx,bc]
 refine ⟨_,rfl,_,rfl,?_⟩
 rw [e2]
 exact ⟨rfl,rfl⟩
omit h in
theorem J0 (h82:P 82=some ⟨3,3,c6⟩)(n:Nat){r w v b:D}{M1:Mem}(e:aw P n 18 [d,r] M=.ok .non M)(e2:aw P n 80 [d,w] M=.ok .non M)(e3:aw P n 27 [d,r] M=.ok b M1)(e4:aw P n 81 [b,w] M1=.ok v M1):aw P (n+1) 82 [d,r,w] M=.ok v M1:=by
 refine aS (aL h82 rfl ?_)
 show au (c6 (aw P n) [some d,some r,some w] M) _
 unfold c6
 simp only [aQ,gy,fb,bp,bx,bc]
 refine ⟨_,rfl,_,rfl,?_⟩
 rw [e]
 show au (aj _ _ [some d,some r,some w] M) _
 simp only [aQ,gy,fb,bp,bx,bc]
 refine ⟨_,rfl,_,rfl,?_⟩
 rw [e2]
 show au (aj _ _ [some d,some r,some w] M) _
 simp only [aQ,cF,dP,bp,bx,bc]
 refine ⟨_,rfl,_,rfl,?_⟩
 rw [e3]
 refine ⟨_,rfl,?_⟩
 rw [e4]
 exact ⟨rfl,rfl⟩
end
def sr (zs:List D):Prop:=∀z∈zs,∃x r w,z=.tup [.tup (nD x::r),w]/\(w=.non\/∃v:Nat,w=nD v)
theorem vH {x:Nat}{w:D}{M:Mem}(hw:w=.non\/∃v:Nat,w=nD v):bN .eq (nD x) w M=some (bu (nD x) w):=by
 rcases hw with rfl|⟨v,rfl⟩
 ·exact ku rfl rfl rfl
 ·exact ku rfl rfl rfl
section
variable {P:Nat->Option Df}{M:Mem}
theorem zM (h81:P 81=some ⟨2,2,iV⟩)(n:Nat){es ws:List D}(hz:(dJ es ws).length<=sz)(hp:sr (dJ es ws)):aw P (n+1) 81 [.tup es,.tup ws] M=.ok (.bl ((dJ es ws).all pS)) M:=by
 refine aE (aL h81 rfl ?_)
 show au (iV (aw P n) [some (.tup es),some (.tup ws)] M) _
 unfold iV
 refine d8 (all_gen (ds:=dJ es ws) (own:=2) (tg:=.tup [0,1]) pS ⟨rfl,rfl⟩ hz fun z hz=>?_) ⟨rfl,rfl⟩
 obtain ⟨x,r,w,rfl,hw⟩:=hp z hz
 refine ⟨_,rfl,aE ?_⟩
 simp only [Im,ft,cR,bc,eY]
 refine ⟨w,rfl,cW w,rfl,cW w,rfl,?_⟩
 show if cW w=true then _ else _
 cases hn:cW w with
 | true =>
   refine ⟨?_,trivial⟩
   show _=D.bl (cW w||bu (nD x) w)
   rw [hn];rfl
 | false =>
   refine ⟨_,rfl,nD x,qP,w,rfl,_,vH hw,?_,trivial⟩
   show _=D.bl (cW w||bu (nD x) w)
   rw [hn];rfl
theorem xN (h84:P 84=some ⟨2,2,gM⟩)(n:Nat){es ws:List D}(hz:(dJ es ws).length<=sz)(hp:sr (dJ es ws)):aw P (n+1) 84 [.tup es,.tup ws] M=.ok (.bl ((dJ es ws).all pS)) M:=by
 refine aE (aL h84 rfl ?_)
 show au (gM (aw P n) [some (.tup es),some (.tup ws)] M) _
 unfold gM
 simp only [aQ,cF,ft,iA,FG,bc]
 refine ⟨_,rfl,_,rfl,rfl,?_⟩
 refine n5 (ds:=dJ es ws) (fun z=>!pS z) (fun _=>.int 1) hz rfl (fun z hz=>?_) ?_
 ·obtain ⟨x,r,w,rfl,hw⟩:=hp z hz
  refine ⟨_,rfl,aS ?_,fun _=>rfl⟩
  simp only [C4,fG,ft,cR,bc,eY]
  refine ⟨w,rfl,!cW w,rfl,!cW w,rfl,?_⟩
  show if (!cW w)=true then _ else _
  cases hn:cW w with
  | true =>
    refine ⟨?_,trivial⟩
    show _=!(cW w||bu (nD x) w)
    rw [hn];rfl
  | false =>
    refine ⟨_,rfl,nD x,qP,w,rfl,_,(show bN .ne (nD x) w M=some (!bu (nD x) w) by show (bN .eq (nD x) w M).map (!·)=_;rw [vH hw];rfl),_,rfl,?_,trivial⟩
    show _=!(cW w||bu (nD x) w)
    rw [hn];rfl
 ·refine cO.mpr ⟨tqh (by rw [List.length_map];exact List.length_filter_le _ _) hz,?_⟩
  simp only [mX,bx]
  refine cO.mpr ⟨Nat.zero_le _,_,eq_empty ?_,?_,rfl⟩
  ·rw [List.all_eq_true]
   intro x hx
   obtain ⟨_,_,rfl⟩:=List.mem_map.mp hx
   rfl
  ·rw [mW pS]
end
end LD
namespace LD
open PySem
def sm (c:Call)(d r w:D)(M:Mem):Res D:=if cW r=true then c 80 [d,w] M else c 82 [d,r,w] M
theorem A9 {c:Call}{d r w:D}{r4:Env}{M:Mem}:oC (aJ (aW .isN (ah 1) gN)) (dZ 80 c (ag (ah 0) (ag (ah 2) av))) (dZ 82 c (ag (ah 0) (ag (ah 1) (ag (ah 2) av)))) (some d::some r::some w::r4) M=sm c d r w M:=by
 have e:(aJ (aW .isN (ah 1) gN):GT) (some d::some r::some w::r4) M=.ok (cW r) M:=rfl
 unfold oC
 rw [e]
 rfl
def Jm:D->D
 |.exc 3 none=>.str "machine"
 |.exc 0 (some i)=>.lst [.str "row",.int i]
 |.exc 4 none=>.str "long"
 |.exc 6 none=>.str "work"
 |_=>.non
theorem qf {Z:Env}{M:Mem}{j:Nat}{z y:Str}{b:Bool}(h:Z[j]?.getD none=some (.str z))(hz:aN 64 (.str z)=true)(hy:aN 64 (.str y)=true)(e:bu (.str z) (.str y)=b):(aJ (aW .eq (ah j) (gC (.str y))):GT) Z M=.ok b M:=by
 refine aS ?_
 simp only [fG,ft,bc,cR]
 exact ⟨_,h,_,ku hz hy e,b,rfl,rfl,trivial⟩
section
variable {P:Nat->Option Df}(h86:P 86=some ⟨3,6,dz⟩){M M':Mem}{d r w:D}
include h86
theorem uz (n:Nat){v:D}(e:sm (aw P n) d r w M=.ok v M'):aw P (n+1) 86 [d,r,w] M=.ok v M':=by
 refine aS (aL h86 rfl ?_)
 show au (dz (aw P n) [some d,some r,some w,none,none,none] M) _
 unfold dz
 refine dO (fx rfl) ?_
 show au (aj _ _ [some d,some r,some w,some (.str "odd"),none,none] M) _
 simp only [aQ,zT,wV]
 rw [A9,e]
 exact ⟨rfl,rfl⟩
theorem kA (n:Nat){x:D}(hx:x=.exc 3 none\/x=.exc 4 none\/x=.exc 6 none\/∃i,x=.exc 0 (some i))(e:sm (aw P n) d r w M=.err x M'):aw P (n+1) 86 [d,r,w] M=.ok (Jm x) M':=by
 refine aS (aL h86 rfl ?_)
 show au (dz (aw P n) [some d,some r,some w,none,none,none] M) _
 unfold dz
 refine dO (fx rfl) ?_
 show au (aj _ _ [some d,some r,some w,some (.str "odd"),none,none] M) _
 simp only [aQ,zT,wV]
 rw [A9,e]
 show au (aj _ (aj _ ax) [some d,some r,some w,some (.str "odd"),some x,none] M') (CF 4 _)
 rcases hx with rfl|rfl|rfl|⟨i,rfl⟩
 ·exact dO (fx rfl) (fq rfl (dO (fx rfl) (aP (qf rfl (by decide +kernel) (by decide +kernel) (by decide +kernel)) ⟨rfl,rfl⟩)))
 ·exact dO (fx rfl) (fq rfl (dO (fx rfl) (aP (qf rfl (by decide +kernel) (by decide +kernel) (by decide +kernel)) ⟨rfl,rfl⟩)))
 ·exact dO (fx rfl) (fq rfl (dO (fx rfl) (aP (qf rfl (by decide +kernel) (by decide +kernel) (by decide +kernel)) ⟨rfl,rfl⟩)))
 ·exact dO (fx rfl) (fq rfl (dO (fx rfl) (fq (qf rfl (by decide +kernel) (by decide +kernel) (by decide +kernel)) (dO (fx (je (aI (ba rfl) (aI (Fp rfl rfl) rfl)) (tqq rfl))) ⟨rfl,rfl⟩))))
end
end LD
namespace LD
open PySem
section
variable {Z:Env}{M:Mem}{kf:Fl->Mem->Prop}{rest:GS}{g a:GE}{s:GA}
theorem pU {p B own:Nat}{w:GW}{tg:dD}{ds:List D}(Q:D->Prop)(hw:au (w Z M) fun wk M'=>M'=M/\∀M',bw p M M'->wk M'=some ds)(hz:ds.length<=100)(hp:aU M p B)
 (hs:∀d∈ds,∀M' B',bw p M M'->aU M' p B'->B'<=B+100->∃ρ1,c7 tg d (List.replicate own none++Z)=some ρ1/\au (g ρ1 M') fun x M''=>Q x/\aU M'' p (B'+1)/\bw p M' M'') :
 au (bX true own tg w (cg g) Z M) fun d M'=>∃q ws,d=.cell q/\M'[q]?=some ws/\ws.length=ds.length/\(∀x∈ws,Q x)/\M.length<=q/\aU M' p (B+100)/\bw p M M':=by
 rw [iA]
 refine a7 hw ?_
 rintro wk M0 ⟨rfl,hk⟩
 refine comp_map (ds:=ds) (fun i acc M'=>aU M' p (B+i)/\bw p M0 M'/\∀x∈acc,Q x) (aM (by omega)) (fun _ _ _ h=>hk _ h.2.1) ⟨hp,.refl,fun _ h=>nomatch h⟩ ?_ ?_
 ·rintro i d acc M' hd hl ⟨q1,k1,a1⟩
  have hi:=(List.getElem?_eq_some_iff.mp hd).1
  obtain ⟨ρ1,e,o⟩:=hs d (List.mem_of_getElem? hd) M' (B+i) k1 q1 (by omega)
  refine ⟨ρ1,e,a7 o fun x M2 ⟨c1,c2,c3⟩=>⟨c2,k1.trans c3,fun y hy=>?_⟩⟩
  rcases List.mem_append.mp hy with hy|hy
  ·exact a1 y hy
  ·rw [List.mem_singleton.mp hy];exact c1
 ·rintro acc M' hl ⟨q1,k1,a1⟩
  have lt:=q1.lt
  exact ow.mpr ⟨aM (by omega),M'.length,acc,rfl,List.getElem?_concat_length,hl,a1,k1.len,(q1.mono (by omega)).app,k1.trans .app⟩
end
def yX (m:aZ)(x:D):Prop:=x=.non\/∃v:Nat,x=nD v/\v<m.words
def gG (m:aZ)(ws:List D):Prop:=ws.length=(c8 m).length/\∀x∈ws,yX m x
theorem vT {m:aZ}(hm:br m):0<(c8 m).length:=List.length_pos_of_mem (CS hm (s:=List.replicate m.places 0) ⟨by simp,fun x hx=>by have:=hm.w2;rw [(List.mem_replicate.mp hx).2];omega⟩)
theorem nz {m:aZ}{i:Int}:wC m (.int i)=decide (0<=i/\i<=(m.words:Int)-1):=by
 show (false||(decide (0<=i)&&decide (i<=(m.words:Int)-1)))=_
 rw [Bool.false_or,Bool.decide_and]
theorem gG.work {m:aZ}{ws:List D}(h:gG m ws):gR m (.tup ws)=true:=by
 unfold gR
 rw [Bool.and_eq_true]
 refine ⟨beq_iff_eq.mpr h.1,List.all_eq_true.mpr fun x hx=>?_⟩
 rcases h.2 x hx with rfl|⟨v,rfl,hv⟩
 ·rfl
 ·rw [nz];exact decide_eq_true (by omega)
theorem gG.th {m:aZ}{ws:List D}(hm:br m)(h:gG m ws):Th 2 20 (.tup ws):=by
 have:=g9 hm
 refine .tup_of (by rw [h.1];omega) fun x hx=>?_
 rcases h.2 x hx with rfl|⟨v,rfl,_⟩<;>trivial
def Ca (w:Nat):List D:=[nD w,.int (-1),.bl true,.bl false,.str "0",.tup [.int 0],.lst [],.int (10^20),.int (2*(w:Int))]
theorem B9 {m:aZ}{x:D}(hm:br m)(hx:x∈Ca m.words):wC m x=false/\Th 2 21 x:=by
 have w2:=hm.w2
 have w4:=hm.w4
 simp only [Ca,List.mem_cons,List.not_mem_nil,or_false] at hx
 rcases hx with rfl|rfl|rfl|rfl|rfl|rfl|rfl|rfl|rfl
 ·exact ⟨nz.trans (decide_eq_false (by omega)),trivial⟩
 ·exact ⟨nz.trans (decide_eq_false (by omega)),trivial⟩
 ·exact ⟨rfl,trivial⟩
 ·exact ⟨rfl,trivial⟩
 ·exact ⟨rfl,(lg (x:=.str "0") (by simp [fA])).mono (by decide) (by decide)⟩
 ·exact ⟨rfl,(lg (x:=.tup [.int 0]) (by simp [fA])).mono (by decide) (by decide)⟩
 ·exact ⟨rfl,(lg (x:=.lst []) (by simp [fA])).mono (by decide) (by decide)⟩
 ·exact ⟨nz.trans (decide_eq_false (by omega)),trivial⟩
 ·exact ⟨nz.trans (decide_eq_false (by omega)),trivial⟩
theorem mD {m:aZ}{Z:Env}{M:Mem}{j:Nat}(h:Z[j]?.getD none=some m.d):aO (ah j) (gI 0) Z M=.ok (nD m.words) M:=by
 refine aE ?_
 simp only [eY,bc,cR]
 exact ⟨_,h,_,qP,rfl,trivial⟩
theorem Bq {m:aZ}{Z:Env}{M:Mem}{j:Nat}(h:Z[j]?.getD none=some m.d):aH false .mul (gI 2) (aO (ah j) (gI 0)) Z M=.ok (.int (2*(m.words:Int))) M:=by
 refine aE ?_
 rw [fK]
 simp only [cR]
 rw [mD h,kc,qH]
 exact ⟨.inl ⟨by decide,by decide⟩,rfl,rfl⟩
theorem EA {m:aZ}{x0 x2 x3 x4 x5:Option D}{M:Mem}:bD false (ag (aO (ah 1) (gI 0)) (ag (eW (gI 1)) (ag qQ (ag s8 (ag (gS "0") (ag (bZ (ag (gI 0) av)) (ag (bD false av) (ag (aH false .pow (gI 10) (gI 20)) (ag (aH false .mul (gI 2) (aO (ah 1) (gI 0))) av))))))))) [x0,some m.d,x2,x3,x4,x5] M=.ok (.lst (Ca m.words)) M:=
 je (aI (mD rfl) (aI rfl (aI rfl (aI rfl (aI rfl (aI rfl (aI rfl (aI rfl (aI (Bq rfl) rfl))))))))) (tqq rfl)
theorem BI {xs:List D}{M:Mem}{k:D->Mem->Prop}(hk:k (.tup (xs.take (xs.length-1))) M):au (eG false (.tup xs) .non (.int (-1)) M) k:=by
 show au (Res.ok (D.tup (cut xs 0 (if (-1:Int)<0 then ((-1:Int)+(xs.length:Int)).toNat else min (-1:Int).toNat xs.length))) M) k
 rw [if_pos (by decide)]
 have:cut xs 0 ((-1:Int)+(xs.length:Int)).toNat=xs.take (xs.length-1):=by
  unfold cut
  rw [show ((-1:Int)+(xs.length:Int)).toNat-0=xs.length-1 by omega,List.drop_zero]
 rw [this];exact hk
theorem DZ {xs:List D}{M:Mem}{k:D->Mem->Prop}(hx:0<xs.length)(hk:k (.tup (xs.take 1)) M):au (eG false (.tup xs) .non (.int 1) M) k:=by
 show au (Res.ok (D.tup (cut xs 0 (min 1 xs.length))) M) k
 have:cut xs 0 (min 1 xs.length)=xs.take 1:=by
  unfold cut
  rw [show min 1 xs.length-0=1 by omega,List.drop_zero]
 rw [this];exact hk
theorem sJ {m:aZ}{ys:List D}(h:ys.length≠(c8 m).length):gR m (.tup ys)=false:=by
 unfold gR
 rw [show eZ (c8 m).length (.tup ys)=false from beq_eq_false_iff_ne.mpr h,Bool.false_and]
section
variable {P:Nat->Option Df}{M:Mem}
theorem zH (hp_:HasP0 P)(h85:P 85=some ⟨3,6,eR⟩)(n:Nat){p B:Nat}{m:aZ}{ws:List D}(hm:br m)(hw:gG m ws)(hp:aU M p B)(hB:B<=700000) :
 au (aw P (n+3) 85 [.cell p,m.d,.tup ws] M) fun d M'=>Th 3 21 d/\gR m d=false/\aU M' p (B+3)/\bw p M M':=by
 refine aL h85 rfl ?_
 show au (eR (aw P (n+2)) [some (.cell p),some m.d,some (.tup ws),none,none,none] M) _
 unfold eR
 have wl:=hw.1
 have l1:=vT hm
 have l2:=g9 hm
 have hx:∀x∈ws,Th 2 21 x:=fun x hx=>by rcases hw.2 x hx with rfl|⟨v,rfl,_⟩<;>trivial
 refine fN hp_ n (many:=8) rfl rfl hp (by omega) (by omega) (by omega) fun kind M1 hkd q1 k1=>?_
 refine fN hp_ n (many:=ws.length) rfl rfl q1 (by omega) (by omega) (by omega) fun at_ M2 hat q2 k2=>?_
 refine cS (vF hp_ n (many:=9) rfl rfl q2 (by omega) (by omega) (by omega) EA rfl) fun odd M3 ⟨ho,q3,k3⟩=>?_
 have K:=(k1.trans k2).trans k3
 obtain ⟨b1,b2⟩:=B9 hm ho
 show au (aj _ _ [some (.cell p),some m.d,some (.tup ws),some (nD kind),some (nD at_),some odd] M3) _
 refine dR (ua (c:=5) rfl) (fun c=>?_) fun c=>?_
 ·simp only [aQ,cF,jj,lI,bp,bx,cR,bc,fK,List.getElem?_cons_zero,List.getElem?_cons_succ,Option.getD_some,Option.some.injEq,exists_eq_left',gF]
  refine ⟨rfl,rfl,zO hat ⟨aM (by simp),jr.mpr ⟨aM (by simp;omega),rfl,rfl,uN hat (jr.mpr ⟨aM (by simp;omega),?_⟩)⟩⟩⟩
  refine ⟨.tup_of (by simp;omega) fun d hd=>?_,?_,q3,K⟩
  ·rcases List.mem_append.mp hd with z|z
   ·rcases List.mem_append.mp z with z|z
    ·exact hx d (List.mem_of_mem_take z)
    ·rw [List.mem_singleton.mp z];exact b2
   ·exact hx d (List.mem_of_mem_drop z)
  ·unfold gR
   rw [Bool.and_eq_false_iff]
   exact .inr (List.all_eq_false.mpr ⟨odd,by simp [nR],by rw [b1];decide⟩)
 ·have c:=of_decide_eq_false c
  obtain ⟨j,rfl⟩:∃j,kind=j+5:=⟨kind-5,by omega⟩
  simp only [aQ,cF,eY,mX,bp,bx,lI,yN,cR,bc,fK,dW,List.getElem?_cons_zero,List.getElem?_cons_succ,Option.getD_some,Option.some.injEq,exists_eq_left',qe]
  refine ⟨1,rfl,rfl,rfl,BI ⟨rfl,rfl,DZ (by omega) (jr.mpr ⟨aM (by simp;omega),pP.mpr (cO.mpr ⟨aM (by omega),cO.mpr ⟨aM (by simp),?_⟩⟩)⟩)⟩⟩
  rw [show (((j+5:Nat):Int)-5)=(j:Int) by omega]
  refine ⟨_,oA (v:=j) (by show j<3;omega),?_⟩
  match j,hkd with
  |0,_=>exact ⟨.tup_of (by simp;omega) fun d hd=>hx d (List.mem_of_mem_take hd),sJ (by simp;omega),q3,K⟩
  |1,_=>exact ⟨.tup_of (by simp;omega) fun d hd=>(List.mem_append.mp hd).elim (hx d) fun z=>hx d (List.mem_of_mem_take z),sJ (by simp;omega),q3,K⟩
  |2,_=>exact ⟨.lst_of (by omega) hx,rfl,q3,K⟩
  |j+3,h=>omega
end
end LD
namespace LD
open PySem
theorem s9 {m:aZ}{s:List Nat}(hm:br m)(hs:hX m s):∃x r,a8 s=.tup (nD x::r)/\x<m.words:=by
 cases s with
 | nil =>
   have h1:=hs.1
   have h2:=hm.p1
   rw [<- h1] at h2
   exact absurd h2 (by decide)
 |cons x t=>exact ⟨x,t.map nD,rfl,hs.2 x List.mem_cons_self⟩
def Bj (c:Call):GS:=(aj (bo (aJ (aW .gt (ah 3) (gI 0))) (aj (aV (.one 6) (bX true 1 (.one 0) (eI (ah 6)) (cg (ll (aJ (aW .eq (aA 31 c (ag (ah 1) (ag (aH false .add (gI 2) (ah 4)) av))) (gI 0))) gN (ah 0))))) ax) ax) (aj (bh (bt .tuple (ag (ah 6) av))) ax))
def Bk (c:Call):GS:=(aj (aV (.one 7) (aA 31 c (ag (ah 0) (ag (bt .len (ag (ah 6) av)) av)))) (aj (bo (aJ (aW .eq (ah 2) (gI 1))) (aj (fZ (ah 6) (ah 7) (aA 31 c (ag (ah 0) (ag (aO (ah 1) (gI 0)) av)))) ax) ax) (Bj c)))
structure DG (m:aZ) (p B q:Nat) (M0 M:Mem):Prop where
 pen:aU M p B
 keep:bw p M0 M
 new:M0.length<=q
 at':∃ws,M[q]?=some ws/\gG m ws
def js (m:aZ)(p B:Nat)(M0:Mem):D->Mem->Prop:=fun d M'=>∃ws,d=.tup ws/\gG m ws/\aU M' p B/\bw p M0 M'
section
variable {P:Nat->Option Df}{M M0:Mem}{m:aZ}{p B q:Nat}
theorem wD {x0 x1 x2 x3 x4 x5 x7:Option D}(h:DG m p B q M0 M):au (aj (bh (bt .tuple (ag (ah 6) av))) ax [x0,x1,x2,x3,x4,x5,some (.cell q),x7] M) (gm (js m p B M0)):=by
 obtain ⟨ws,e,hw⟩:=h.at'
 refine d8 (v:=.tup ws) (aE ?_) ⟨ws,rfl,hw,h.pen,h.keep⟩
 simp only [dW,bp,bx,bc]
 exact ⟨_,rfl,qb.mpr ⟨ws,e,rfl,rfl⟩⟩
theorem js.mono {B':Nat}{M:Mem}{fl:Fl}(hB:B<=B')(h:gm (js m p B M0) fl M):gm (js m p B' M0) fl M:=by
 cases fl with
 |next Z=>obtain ⟨ws,e,_⟩:=h;cases e
 |ret d=>obtain ⟨ws,e,hw,q,k⟩:=h;exact ⟨ws,e,hw,q.mono hB,k⟩
 |exc x Z=>exact h
variable (hp_:HasP0 P)
include hp_
theorem CZ (n:Nat){x2 x4 x5 x7:Option D}{free:Nat}(hm:br m)(hp0:p<M0.length)(hf:free<4)(h:DG m p B q M0 M)(hB:B<=900000):au (Bj (aw P (n+2)) [some (.cell p),some m.d,x2,some (nD free),x4,x5,some (.cell q),x7] M) (gm (js m p (B+100) M0)):=by
 have l2:=g9 hm
 unfold Bj
 refine dR (JS (c:=0) rfl) (fun _=>?_) fun _=>a7 (wD h) fun fl M'=>js.mono (by omega)
 obtain ⟨ws,e,hw⟩:=h.at'
 have hne:q≠p:=by have:=h.new;omega
 refine cS (pU (ds:=ws) (yX m) ⟨rfl,fun M' k=>k.get e hne⟩ (by rw [hw.1];omega) h.pen fun d hd M' B' k' p' hB'=>⟨_,rfl,?_⟩) ?_
 ·simp only [Ds,fG,ft,cR,bc]
  refine a7 (iz hp_ n (many:=2+free) rfl (by show Res.ok (D.int ((2:Int)+(free:Int))) M'=_;rw [show ((2:Int)+(free:Int))=((2+free:Nat):Int) by omega]) p' (by omega) (by omega) (by omega)) ?_
  rintro _ M2 ⟨v,rfl,hv,q2,k2⟩
  refine ⟨(v:Int)==0,rfl,(v:Int)==0,rfl,?_⟩
  cases (v:Int)==0 with
  |true=>exact ⟨.inl rfl,q2,k2⟩
  |false=>exact ⟨d,rfl,hw.2 d hd,q2,k2⟩
 ·rintro _ M5 ⟨q',ws',rfl,e',hl,hQ,hn,q5,k5⟩
  exact wD ⟨q5,h.keep.trans k5,tqh h.keep.len hn,ws',e',hl.trans hw.1,hQ⟩
theorem C1 (n:Nat){x4 x5 x7:Option D}{kind free:Nat}(hm:br m)(hp0:p<M0.length)(hf:free<4)(h:DG m p B q M0 M)(hB:B<=800000):au (Bk (aw P (n+2)) [some (.cell p),some m.d,some (nD kind),some (nD free),x4,x5,some (.cell q),x7] M) (gm (js m p (B+102) M0)):=by
 have l1:=vT hm
 have l2:=g9 hm
 have w2:=hm.w2
 have w4:=hm.w4
 unfold Bk
 obtain ⟨ws,e,hw⟩:=h.at'
 have hne:q≠p:=by have:=h.new;omega
 have hlt:p<q:=by have:=h.new;omega
 refine fN hp_ n (many:=ws.length) rfl (aE ?_) h.pen (by omega) (by rw [hw.1];omega) (by rw [hw.1];omega) fun at_ M1 hat q1 k1=>?_
 ·simp only [dW,bp,bx,bc]
  exact ⟨_,rfl,vA.mpr ⟨ws,e,rfl,rfl⟩⟩
 have e1:=k1.get e hne
 refine dR (lH (c:=1) rfl) (fun _=>?_) fun _=>a7 (CZ hp_ n hm hp0 hf ⟨q1,h.keep.trans k1,h.new,ws,e1,hw⟩ (by omega)) fun fl M'=>js.mono (by omega)
 simp only [aQ,l8]
 refine a7 (iz hp_ n (many:=m.words) rfl (mD rfl) q1 (by omega) (by omega) (by omega)) ?_
 rintro _ M2 ⟨v,rfl,hv,q2,k2⟩
 simp only [bc]
 have e2:=k2.get e1 hne
 refine ⟨_,rfl,_,rfl,q,at_,ws,at_,rfl,rfl,e2,fo hat,?_⟩
 refine a7 (CZ hp_ n hm hp0 hf ⟨q2.setq hlt,((h.keep.trans k1).trans k2).setq h.new,h.new,ws.set at_ (nD v),?_,?_,fun x hx=>?_⟩ (by omega)) fun fl M'=>js.mono (by omega)
 ·rw [List.getElem?_set_self (List.getElem?_eq_some_iff.mp e2).1]
 ·rw [List.length_set];exact hw.1
 ·rcases List.mem_or_eq_of_mem_set hx with hx|rfl
  ·exact hw.2 x hx
  ·exact .inr ⟨v,rfl,hv⟩
end
section
variable {P:Nat->Option Df}{M:Mem}
theorem zz (hp_:HasP P)(hb:y7 P)(h35:P 35=some ⟨3,6,ik⟩)(h44:P 44=some ⟨2,5,fD⟩)(h83:P 83=some ⟨2,8,ff⟩)(n:Nat){p B:Nat}{m:aZ}(hm:br m)(hp:aU M p B)(hB:B<=600000) :
 au (aw P (n+4) 83 [.cell p,m.d] M) (js m p (B+400) M):=by
 have l2:=g9 hm
 have w2:=hm.w2
 have w4:=hm.w4
 refine aL h83 rfl ?_
 show au (ff (aw P (n+3)) [some (.cell p),some m.d,none,none,none,none,none,none] M) _
 unfold ff
 refine fN hp_ (n+1) (many:=5) rfl rfl hp (by omega) (by omega) (by omega) fun kind M1 hkd q1 k1=>?_
 refine fN hp_ (n+1) (many:=4) rfl rfl q1 (by omega) (by omega) (by omega) fun free M2 hfr q2 k2=>?_
 refine dO (fx (ng rfl (sI hb (n+2) hm))) ?_
 refine cS (k:=fun d M'=>∃r,d=.tup ((ends m r).map a8)/\(∀i∈r,i<m.deeds.length)/\aU M' p (B+60)/\bw p M2 M') ?_ ?_
 ·simp only [dP,bp,bx,cR]
  show au (aw P (n+3) 35 [.cell p,m.d,nD 6] M2) _
  refine a7 (wN hp_ h35 n hm q2 (by omega) (mo:=6) (by omega)) ?_
  rintro _ M3 ⟨r,rfl,hr,_,q3,k3⟩
  refine a7 (uK hb h44 (n+1) hm hr.2) ?_
  rintro _ M4 ⟨rfl,S⟩
  exact ⟨r,rfl,hr.2,S.pen (q3.mono (by omega)),k3.trans S.keep⟩
 rintro _ M4 ⟨r,rfl,hr,q4,k4⟩
 have K4:=(k1.trans k2).trans k4
 refine cS (pU (ds:=(ends m r).map a8) (yX m) ⟨rfl,fun _ _=>rfl⟩ (by simp [ends];omega) q4 fun d hd M' B' k' p' hB'=>⟨_,rfl,?_⟩) ?_
 ·obtain ⟨s,hs,rfl⟩:=List.mem_map.mp hd
  obtain ⟨b,hb',rfl⟩:=List.mem_map.mp hs
  obtain ⟨x,t,e,hx⟩:=s9 hm (ml hm hr (oR b hb'))
  rw [e]
  simp only [eY,bc,cR]
  exact ⟨_,rfl,_,qP,.inr ⟨x,rfl,hx⟩,p'.mono (by omega),.refl⟩
 rintro _ M5 ⟨q,ws,rfl,e5,hl,hQ,hn,q5,k5⟩
 have F5:DG m p (B+260) q M M5:=⟨q5.mono (by omega),K4.trans k5,tqh K4.len hn,ws,e5,by rw [hl];simp [ends],hQ⟩
 have hp0:=hp.lt
 refine dR (lH (c:=0) rfl) (fun _=>?_) fun _=>a7 (C1 hp_ (n+1) hm hp0 hfr F5 (by omega)) fun fl M'=>js.mono (by omega)
 refine cS (pU (ds:=(c8 m).map a8) (yX m) ⟨rfl,fun _ _=>rfl⟩ (by simp;omega) q5 fun d hd M' B' k' p' hB'=>⟨_,rfl,?_⟩) ?_
 ·refine a7 (iz hp_ (n+1) (many:=m.words) rfl (mD rfl) p' (by omega) (by omega) (by omega)) ?_
  rintro _ M2 ⟨v,rfl,hv,q2,k2⟩
  exact ⟨.inr ⟨v,rfl,hv⟩,q2,k2⟩
 rintro _ M6 ⟨q',ws',rfl,e6,hl',hQ',hn',q6,k6⟩
 show au (Bk (aw P (n+1+2)) [some (.cell p),some m.d,some (nD kind),some (nD free),some (.lst ((c8 m).map a8)),some (.tup ((ends m r).map a8)),some (.cell q'),none] M6) (gm (js m p (B+400) M))
 exact a7 (C1 hp_ (n+1) hm hp0 hfr ⟨q6,F5.keep.trans k6,tqh F5.keep.len hn',ws',e6,by rw [hl'];simp,hQ'⟩ (by omega)) fun fl M'=>js.mono (by omega)
end
end LD
namespace LD
open PySem
structure y8 (P:Nat->Option Df):Prop where
 m:HasM P
 p:HasP P
 t:HasT P
 w:vY P
 b:y7 P
 s:uj P
 h15:P 15=some ⟨1,6,cH⟩
 h27:P 27=some ⟨2,2,gL⟩
 h46:P 46=some ⟨2,2,hV⟩
 h35:P 35=some ⟨3,6,ik⟩
 h44:P 44=some ⟨2,5,fD⟩
 h79:P 79=some ⟨2,2,eP⟩
 h80:P 80=some ⟨2,2,cZ⟩
 h81:P 81=some ⟨2,2,iV⟩
 h82:P 82=some ⟨3,3,c6⟩
 h83:P 83=some ⟨2,8,ff⟩
 h84:P 84=some ⟨2,2,gM⟩
 h85:P 85=some ⟨3,6,eR⟩
 h86:P 86=some ⟨3,6,dz⟩
 h87:P 87=some ⟨4,12,fU⟩
 h88:P 88=some ⟨1,9,mr⟩
theorem oU {c:Call}{d r w:D}{M:Mem}(h:cW r=false):sm c d r w M=c 82 [d,r,w] M:=by
 unfold sm
 rw [h]
 rfl
section
variable {P:Nat->Option Df}(h:y8 P){M:Mem}
include h
theorem uA (n:Nat){k L:Nat}{d r w:D}(hd:Th k L d)(hL:L<=100)(hb:fH d=false):aw P (n+13) 86 [d,r,w] M=.ok (.str "machine") M:=by
 refine kA h.h86 (n+12) (x:=.exc 3 none) (.inl rfl) ?_
 unfold sm
 by_cases c:cW r=true
 ·rw [if_pos c];exact EB h.m h.h80 (n+1) hd hL hb
 ·rw [if_neg c];exact vL h.h82 (n+11) (BP h.m (n+2) hd hL hb)
theorem Bt (n:Nat){m:aZ}{r w:D}{i:Int}(hm:br m)(hr:cW r=false)(e:aw P (n+10) 17 [m.d,r] M=.err (.exc 0 (some i)) M):aw P (n+13) 86 [m.d,r,w] M=.ok (.lst [.str "row",.int i]) M:=
 kA h.h86 (n+12) (x:=.exc 0 (some i)) (.inr (.inr (.inr ⟨i,rfl⟩))) ((oU hr).trans (vL h.h82 (n+11) (BO h.m (n+2) hm e)))
theorem zr (n:Nat){m:aZ}{ds:List D}{w:D}(hm:br m)(e:aw P (n+10) 17 [m.d,.lst ds] M=.ok .non M)(hl:40<ds.length):aw P (n+13) 86 [m.d,.lst ds,w] M=.ok (.str "long") M:=
 kA h.h86 (n+12) (x:=.exc 4 none) (.inr (.inl rfl)) ((oU rfl).trans (vL h.h82 (n+11) (BQ h.m (n+2) hm e hl)))
theorem xH (n:Nat){k L:Nat}{m:aZ}{d:D}(hm:br m)(hd:Th k L d)(hL:L<=100)(hw:gR m d=false):aw P (n+13) 86 [m.d,.non,d] M=.ok (.str "work") M:=
 kA h.h86 (n+12) (x:=.exc 6 none) (.inr (.inr (.inl rfl))) (Au h.m h.h15 h.h79 h.h80 (n+1) hm hd hL hw)
theorem zp (n:Nat){k L:Nat}{m:aZ}{r:List Nat}{d:D}(hm:br m)(hr:gr m r)(hd:Th k L d)(hL:L<=100)(hw:gR m d=false):aw P (n+13) 86 [m.d,jY r,d] M=.ok (.str "work") M:=
 kA h.h86 (n+12) (x:=.exc 6 none) (.inr (.inr (.inl rfl))) ((oU rfl).trans (EZ h.h82 (n+11) (zG h.m (n+2) hm hr) (Au h.m h.h15 h.h79 h.h80 n hm hd hL hw)))
theorem zq (n:Nat){m:aZ}{ws:List D}(hm:br m)(hw:gG m ws):aw P (n+13) 86 [m.d,.non,.tup ws] M=.ok .non M:=
 uz h.h86 (n+12) (Dl h.m h.h15 h.h79 h.h80 (n+1) hm (hw.th hm) (by decide) hw.work)
omit h in
theorem wz:∀{es ws:List D}{z:D},z∈dJ es ws->∃a b,z=.tup [a,b]/\a∈es/\b∈ws
 |[],_,_,h=>by simp [dJ] at h
 |_::_,[],_,h=>by simp [dJ] at h
 | a :: r, b :: t, z, h => by
   rcases List.mem_cons.mp h with rfl|h
   ·exact ⟨a,b,rfl,List.mem_cons_self,List.mem_cons_self⟩
   ·obtain ⟨x,y,e,hx,hy⟩:=wz h
    exact ⟨x,y,e,List.mem_cons_of_mem _ hx,List.mem_cons_of_mem _ hy⟩
omit h in
theorem wA:∀{es ws:List D},(dJ es ws).length<=es.length
 |[],_=>tqg _
 |_::_,[]=>Nat.zero_le _
 |_::r,_::t=>Nat.succ_le_succ (wA (es:=r) (ws:=t))
omit h in
theorem u9 {m:aZ}{r:List Nat}{ws:List D}(hm:br m)(hr:gr m r)(hw:gG m ws):sr (dJ ((ends m r).map a8) ws):=fun z hz=>by
 obtain ⟨a,b,rfl,ha,hb⟩:=wz hz
 obtain ⟨s,hs,rfl⟩:=List.mem_map.mp ha
 obtain ⟨t,ht,rfl⟩:=List.mem_map.mp hs
 obtain ⟨x,u,e,_⟩:=s9 hm (ml hm hr.2 (oR t ht))
 rw [e]
 refine ⟨x,u,b,rfl,?_⟩
 rcases hw.2 b hb with rfl|⟨v,rfl,_⟩
 ·exact .inl rfl
 ·exact .inr ⟨v,rfl⟩
omit h in
theorem pairs_len {m:aZ}{r:List Nat}{ws:List D}(hm:br m):(dJ ((ends m r).map a8) ws).length<=sz:=by
 have:=g9 hm
 have:=wA (es:=(ends m r).map a8) (ws:=ws)
 refine aM (tqh this ?_)
 simp [ends];omega
theorem zt (n:Nat){m:aZ}{r:List Nat}{ws:List D}(hm:br m)(hr:gr m r)(hw:gG m ws):aw P (n+13) 86 [m.d,jY r,.tup ws] M=.ok (.bl ((dJ ((ends m r).map a8) ws).all pS)) (M++(c8 m).map fun s=>(gi m r s).map a8):=by
 refine uz h.h86 (n+12) ((oU rfl).trans (J0 h.h82 (n+11) (zG h.m (n+2) hm hr) (Dl h.m h.h15 h.h79 h.h80 n hm (hw.th hm) (by decide) hw.work) (FL h.m h.h15 h.h27 h.h46 n hm hr) ?_))
 rw [A7]
 exact zM h.h81 (n+10) (pairs_len hm) (u9 hm hr hw)
end
section
variable {Z:Env}{M:Mem}{kf:Fl->Mem->Prop}{rest gb:GS}{a:GE}{s:GA}
theorem ne_self {z:Str}(hz:aN 64 (.str z)=true):bN .ne (.str z) (.str z) M=some false:=oN (v:=true) (x:=.str z) (y:=.str z) hz hz (by simp [view,bu])
theorem oo {c:Call}{f:Nat}{xs:List D}{z:Str}(hz:aN 64 (.str z)=true)(es:s Z M=.ok xs M)(ec:c f xs M=.ok (.str z) M):(aJ (aW .ne (aA f c s) (gC (.str z))):GT) Z M=.ok false M:=by
 refine aS ?_
 simp only [fG,ft,cR]
 rw [dI es,ec,kc]
 exact ⟨_,ne_self hz,false,rfl,rfl,rfl⟩
theorem pR {tg:dD}{ds:List D}(I:Env->Prop)(e:a Z M=.ok (.lst ds) M)(h0:I Z)(hs:∀d∈ds,∀Z,I Z->∃ρ1,c7 tg d Z=some ρ1/\au (gb ρ1 M) fun fl M'=>∃ρ',fl=.next ρ'/\I ρ'/\M'=M)(hk:∀Z,I Z->au (rest Z M) kf):au (aj (iw tg (eI a) gb) rest Z M) kf:=by
 simp only [aQ,l9,Jc]
 rw [e,kc]
 refine ⟨rfl,fP (ds:=ds) (fun i Z M'=>I Z/\M'=M) (fun _ _ _ _=>rfl) ⟨h0,rfl⟩ ?_ ?_⟩
 ·rintro i d Z M' hd ⟨hI,rfl⟩
  obtain ⟨ρ1,e1,o⟩:=hs d (List.mem_of_getElem? hd) Z hI
  exact ⟨ρ1,e1,a7 o fun fl M2 ⟨ρ',e2,e3,e4⟩=>⟨ρ',e2,e3,e4⟩⟩
 ·rintro Z M' ⟨hI,rfl⟩
  exact hk Z hI
theorem iQ {b:GE}{x y:D}(e1:a Z M=.ok x M)(e2:b Z M=.ok y M):bZ (ag a (ag b av)) Z M=.ok (.tup [x,y]) M:=by
 unfold bZ
 rw [aI e1 (aI e2 rfl)]
 exact (if_pos (aM (n:=2) (by decide)):(if 2<=sz then Res.ok (D.tup [x,y]) M else .bad)=_)
theorem Je {j l:Nat}{xs:List D}{v:Nat}(h1:Z[j]?.getD none=some (.lst xs))(h2:Z[l]?.getD none=some (nD v))(hz:xs.length<=100):dG false false true (ah j) gN (ah l) Z M=.ok (.lst (xs.take v)) M:=by
 refine aE ?_
 simp only [lI,bc,cR]
 exact ⟨_,h1,_,h2,rfl,rfl,D1.mpr ⟨aM (by simp;omega),rfl,rfl⟩⟩
theorem EO {j l:Nat}{xs:List D}{v:Nat}(h1:Z[j]?.getD none=some (.lst xs))(h2:Z[l]?.getD none=some (nD v))(hz:xs.length<=100):dG false true false (ah j) (ah l) gN Z M=.ok (.lst (xs.drop v)) M:=by
 refine aE ?_
 simp only [lI,bc,cR]
 exact ⟨_,h1,_,h2,rfl,rfl,BK.mpr ⟨aM (by simp;omega),rfl,rfl⟩⟩
end
def yc:List D:=[.int 6,.int (-1),.bl true,.non,.str "0",.lst [.int 0],.int (10^20)]
theorem vh {m:aZ}{x:D}(hm:br m)(hx:x∈yc):qU m x=false/\Th 2 21 x:=by
 have d6:=hm.d6
 have q:∀i:Int,¬ (0<=i/\i<=(m.deeds.length:Int)-1)->qU m (.int i)=false:=fun i hi=>by
  show (decide (0<=i)&&decide (i<=(m.deeds.length:Int)-1))=false
  rw [<- Bool.decide_and]
  exact decide_eq_false hi
 simp only [yc,List.mem_cons,List.not_mem_nil,or_false] at hx
 rcases hx with rfl|rfl|rfl|rfl|rfl|rfl|rfl
 ·exact ⟨q _ (by omega),trivial⟩
 ·exact ⟨q _ (by omega),trivial⟩
 ·exact ⟨rfl,trivial⟩
 ·exact ⟨rfl,trivial⟩
 ·exact ⟨rfl,(lg (x:=.str "0") (by simp [fA])).mono (by decide) (by decide)⟩
 ·exact ⟨rfl,(lg (x:=.lst [.int 0]) (by simp [fA])).mono (by decide) (by decide)⟩
 ·exact ⟨q _ (by omega),trivial⟩
theorem pJ {m:aZ}{i:Nat}(hi:i<m.deeds.length):qU m (nD i)=true:=by
 show (decide ((0:Int)<=(i:Int))&&decide ((i:Int)<=(m.deeds.length:Int)-1))=true
 rw [decide_eq_true (by omega),decide_eq_true (by omega)];rfl
def n6 (r:List Nat)(a:Nat)(x:D):List D:=(r.map nD).take a++[x]++(r.map nD).drop a++[.int (-1)]
def zeros (n:Nat):List D:=List.replicate n (.int 0)
section
variable {P:Nat->Option Df}(h:y8 P){M:Mem}{m:aZ}
include h
theorem MV (n:Nat){r:List Nat}{a:Nat}{x:D}(hm:br m)(hr:gr m r)(ha:a<=r.length)(hx:qU m x=false)(ht:Th 2 21 x):aw P (n+3) 17 [m.d,.lst (n6 r a x)] M=.err (.exc 0 (some (a:Int))) M:=by
 have hl:=hr.1
 have lt:((r.map nD).take a).length=a:=by simp;omega
 refine vj h.m n (k:=2) (L:=21) (x:=x) (fun d hd=>?_) ?_ hx (fun j y hj hy=>?_) (by omega)
 ·have i2:∀d∈r.map nD,Th 2 21 d:=fun d hd=>by obtain ⟨i,_,rfl⟩:=List.mem_map.mp hd;trivial
  rcases List.mem_append.mp hd with hd|hd
  ·rcases List.mem_append.mp hd with hd|hd
   ·rcases List.mem_append.mp hd with hd|hd
    ·exact i2 d (List.mem_of_mem_take hd)
    ·rw [List.mem_singleton.mp hd];exact ht
   ·exact i2 d (List.mem_of_mem_drop hd)
  ·rw [List.mem_singleton.mp hd];trivial
 ·unfold n6
  rw [List.append_assoc,List.append_assoc,List.getElem?_append_right (by omega),lt,Nat.sub_self]
  rfl
 ·unfold n6 at hy
  rw [List.append_assoc,List.append_assoc,List.getElem?_append_left (by omega)] at hy
  obtain ⟨i,hi,rfl⟩:=List.mem_map.mp (List.mem_of_mem_take (List.mem_of_getElem? hy))
  exact pJ (hr.2 i hi)
theorem MU (n:Nat)(hm:br m):aw P (n+3) 17 [m.d,.lst (zeros 40++[.int (-1)])] M=.err (.exc 0 (some 40)) M:=by
 have d1:=hm.d1
 refine vj h.m n (k:=2) (L:=21) (i:=40) (x:=.int (-1)) (fun d hd=>?_) ?_ (vh hm (x:=.int (-1)) (by simp [yc])).1 (fun j y hj hy=>?_) (by omega)
 ·rcases List.mem_append.mp hd with hd|hd
  ·rw [(List.mem_replicate.mp hd).2];trivial
  ·rw [List.mem_singleton.mp hd];trivial
 ·rfl
 ·rw [List.getElem?_append_left (by simp [zeros];omega)] at hy
  rw [(List.mem_replicate.mp (List.mem_of_getElem? hy)).2]
  exact pJ (i:=0) (by omega)
theorem Ie (n:Nat)(hm:br m):aw P (n+3) 17 [m.d,.lst (zeros 41)] M=.ok .non M:=by
 have d1:=hm.d1
 refine EC h.m n (k:=2) (L:=21) (fun d hd=>?_) fun d hd=>?_
 ·rw [(List.mem_replicate.mp hd).2];trivial
 ·rw [(List.mem_replicate.mp hd).2];exact pJ (i:=0) (by omega)
end
end LD
namespace LD
open PySem
section
variable {P:Nat->Option Df}(h:y8 P){M:Mem}{m:aZ}
include h
theorem FV (n:Nat)(b:Bool):aw P (n+1) 40 [.bl b,.bl b] M=.ok (.bl true) M:=by
 refine aE (aL h.s.same rfl ?_)
 show au (dm (aw P n) [some (.bl b),some (.bl b)] M) _
 unfold dm
 refine aP rfl (fq rfl (d8 (v:=.bl true) ?_ ⟨rfl,rfl⟩))
 cases b<;>rfl
theorem BL (n:Nat)(i:Int):aw P (n+2) 40 [.lst [.str "row",.int i],.lst [.str "row",.int i]] M=.ok (.bl true) M:=by
 refine xI h.s (n+1) (aM (n:=2) (by decide)) fun d hd=>?_
 rcases List.mem_cons.mp hd with rfl|hd
 ·exact zE h.s n (by decide +kernel)
 ·rw [List.mem_singleton.mp hd];exact zF h.s n i
def MY (P:Nat->Option Df)(m:aZ)(M:Mem)(d:D):Prop:=∃x i,d=.tup [x,.int i]/\cW x=false/\aw P 35 17 [m.d,x] M=.err (.exc 0 (some i)) M
def qX (r:List Nat)(a:Nat)(x:D):List D:=[.tup [.lst (n6 r a x),nD a],.tup [.lst (zeros 40++[.int (-1)]),.int 40],.tup [.tup (r.map nD),.int 0],.tup [.str "",.int 0]]
theorem Fj {r:List Nat}{a:Nat}{x:D}(hm:br m)(hr:gr m r)(ha:a<=r.length)(hx:qU m x=false)(ht:Th 2 21 x):∀d∈qX r a x,MY P m M d:=fun d hd=>by
 simp only [qX,List.mem_cons,List.not_mem_nil,or_false] at hd
 rcases hd with rfl|rfl|rfl|rfl
 ·exact ⟨_,_,rfl,rfl,MV h 32 hm hr ha hx ht⟩
 ·exact ⟨_,_,rfl,rfl,MU h 32 hm⟩
 ·exact ⟨_,_,rfl,rfl,vi h.m 32 rfl⟩
 ·exact ⟨_,_,rfl,rfl,vi h.m 32 rfl⟩
omit h in
theorem Fm {r:List Nat}{a:Nat}{x:D}{Z:Env}(hr:r.length<=40)(e2:Z[2]?.getD none=some (.lst (r.map nD)))(e8:Z[8]?.getD none=some (nD a))(e9:Z[9]?.getD none=some x):bD false (ag (bZ (ag (aH false .add (aH false .add (aH false .add (dG false false true (ah 2) gN (ah 8)) (bD false (ag (ah 9) av))) (dG false true false (ah 2) (ah 8) gN)) (bD false (ag (eW (gI 1)) av))) (ag (ah 8) av))) (ag (bZ (ag (aH false .add (aH false .mul (bD false (ag (gI 0) av)) (gI 40)) (bD false (ag (eW (gI 1)) av))) (ag (gI 40) av))) (ag (bZ (ag (bt .tuple (ag (ah 2) av)) (ag (gI 0) av))) (ag (bZ (ag (gS "") (ag (gI 0) av))) av)))) Z M=.ok (.lst (qX r a x)) M:=by
 have hl:(r.map nD).length<=40:=by simpa using hr
 have hb:(n6 r a x).length<=50:=by unfold n6;simp;omega
 have l1:((r.map nD).take a++[x]++(r.map nD).drop a).length<=50:=by unfold n6 at hb;simp at hb ⊢;omega
 have l2:((r.map nD).take a++[x]).length<=50:=by simp;omega
 refine je (aI (iQ (vW (vW (vW (Je e2 e8 (by omega)) (je (aI (ba e9) rfl) (tqq rfl)) (by omega)) (EO e2 e8 (by omega)) (by omega)) (je (aI rfl rfl) (tqq rfl)) (by unfold n6 at hb;omega)) (ba e8)) (aI (iQ rfl rfl) (aI (iQ ?_ rfl) (aI (iQ rfl rfl) rfl)))) (tqq rfl)
 unfold bt
 rw [aI (ba e2) rfl]
 rfl
theorem xJ {p B:Nat}{r:List Nat}{ws:List D}(hm:br m)(hr:gr m r)(hw:gG m ws)(hp:aU M p B)(hB:B<=600000) :
 au (aw P 39 87 [.cell p,m.d,jY r,.tup ws] M) fun d M'=>d=.bl true/\aU M' p (B+100):=by
 have hr1:=hr.1
 have pw:aN 64 (.str "work")=true:=by decide +kernel
 have pm:aN 64 (.str "machine")=true:=by decide +kernel
 have pl:aN 64 (.str "long")=true:=by decide +kernel
 refine aL h.h87 rfl ?_
 show au (fU (aw P 38) [some (.cell p),some m.d,some (jY r),some (.tup ws),none,none,none,none,none,none,none,none] M) _
 unfold fU
 refine cS (k:=fun d M'=>Th 3 21 d/\gR m d=false/\aU M' p (B+3)/\bw p M M') ?_ fun bad M1 ⟨t1,w1,q1,k1⟩=>?_
 ·rw [dI (aI (ba rfl) (aI (ba rfl) (aI (ba rfl) rfl)))]
  exact zH h.p h.h85 35 hm hw hp (by omega)
 refine cS (k:=fun d M'=>Th 7 7 d/\aU M' p (B+39)/\bw p M1 M') ?_ fun odd M2 ⟨t2,q2,k2⟩=>?_
 ·rw [dI (aI (ba rfl) (aI (ba rfl) (aI rfl rfl)))]
  exact a7 (wO h.p h.t h.w 5 27 (by decide) (mi hm) (by decide) (by decide) (by decide) q1 (by omega)) fun d M' ⟨a,b,c⟩=>⟨a,b.mono (by omega),c⟩
 refine aP (JC (oo pw (aI (ba rfl) (aI rfl (aI (ba rfl) rfl))) (xH h 25 hm t1 (by decide) w1)) (oo pw (aI (ba rfl) (aI (ba rfl) (aI (ba rfl) rfl))) (zp h 25 hm hr t1 (by decide) w1))) ?_
 refine pR (fun Z=>∃x6 x7,Z=[some (.cell p),some m.d,some (jY r),some (.tup ws),some bad,some odd,x6,x7,none,none,none,none]) (ds:=[.tup [.non,bad],.tup [.lst [.int (-1)],bad],.tup [.non,.tup ws],.tup [.lst [],.tup ws]]) (je (aI (iQ rfl (ba rfl)) (aI (iQ rfl (ba rfl)) (aI (iQ rfl (ba rfl)) (aI (iQ rfl (ba rfl)) rfl)))) (by simp)) ⟨none,none,rfl⟩ ?_ ?_
 ·rintro d hd Z ⟨x6,x7,rfl⟩
  obtain ⟨a,b,rfl⟩:∃a b,d=.tup [a,b]:=by
   simp only [List.mem_cons,List.not_mem_nil,or_false] at hd
   rcases hd with rfl|rfl|rfl|rfl<;>exact ⟨_,_,rfl⟩
  refine ⟨_,rfl,aP (IQ (b:=!fH odd) (qD (lZ ?_)) fun e=>oo pm (aI (ba rfl) (aI (ba rfl) (aI (ba rfl) rfl))) (uA h 25 t2 (by decide) (by simpa using e))) ⟨_,rfl,⟨_,_,rfl⟩,rfl⟩⟩
  exact ng rfl (zI h.w 33 t2 (by decide) (by decide))
 rintro Z ⟨x6,x7,rfl⟩
 refine fN h.p 36 (many:=r.length+1) rfl ?_ q2 (by omega) (by omega) (by omega) fun at_ M3 hat q3 k3=>?_
 ·show Res.ok (D.int (((r.map nD).length:Int)+1)) M2=_
  rw [List.length_map];rfl
 refine cS (vF h.p 36 (many:=7) (xs:=yc) rfl rfl q3 (by omega) (by omega) (by omega) rfl rfl) fun st M4 ⟨ho,q4,k4⟩=>?_
 obtain ⟨b1,b2⟩:=vh hm ho
 refine pR (fun Z=>∃x6 x7 x10 x11,Z=[some (.cell p),some m.d,some (jY r),some (.tup ws),some bad,some odd,x6,x7,some (nD at_),some st,x10,x11]) (ds:=[bad,.tup ws]) (je (aI (ba rfl) (aI (ba rfl) rfl)) (by simp)) ⟨_,_,_,_,rfl⟩ ?_ ?_
 ·rintro w _ Z ⟨x6,x7,x10,x11,rfl⟩
  refine ⟨_,rfl,dO (fx (Fm (by omega) rfl rfl rfl)) ?_⟩
  refine pR (fun Z=>∃x6 x11,Z=[some (.cell p),some m.d,some (jY r),some (.tup ws),some bad,some odd,x6,some w,some (nD at_),some st,some (.lst (qX r at_ st)),x11]) (ds:=qX r at_ st) (ba rfl) ⟨_,_,rfl⟩ ?_ ?_
  ·rintro d hd Z ⟨x6,x11,rfl⟩
   obtain ⟨x,i,rfl,hx,e⟩:=Fj h (M:=M4) hm hr (by omega) b1 b2 d hd
   refine ⟨_,rfl,aP (qD (b:=true) (lZ ?_)) ⟨_,rfl,⟨_,_,rfl⟩,rfl⟩⟩
   exact (dI (aI (Kj rfl rfl rfl (Bt h 25 hm hx e)) (aI (Mn (ba rfl)) rfl))).trans (BL h 36 i)
  ·rintro Z ⟨x6,x11,rfl⟩
   exact aP (oo pl (aI (ba rfl) (aI (x:=.lst (zeros 41)) rfl (aI (ba rfl) rfl))) (zr h 25 hm (Ie h 32 hm) (by decide))) ⟨_,rfl,⟨_,_,_,_,rfl⟩,rfl⟩
 ·rintro Z ⟨x6,x7,x10,x11,rfl⟩
  exact d8 rfl ⟨rfl,q4.mono (by omega)⟩
omit h in
theorem EH {j:Nat}{xs:List D}{Z:Env}(e:Z[j]?.getD none=some (.lst xs))(hl:xs.length<=100):bt (.list false) (ag (ah j) av) Z M=.ok (.lst xs) M:=by
 unfold bt
 rw [aI (ba e) rfl]
 exact (if_pos (aM (by omega)):(if xs.length<=sz then Res.ok (D.lst xs) M else .bad)=_)
omit h in
theorem EG {k:Nat}{Z:Env}(hk:k<4)(e:Z[4]?.getD none=some (nD k)):∃mo:Nat,aO (bD false (ag (gI 6) (ag (gI 40) (ag (gI 12) (ag (gI 3) av))))) (ah 4) Z M=.ok (nD mo) M/\mo<=40:=by
 have q:∀{x:D},cY (.lst [.int 6,.int 40,.int 12,.int 3]) (nD k) M=some x->aO (bD false (ag (gI 6) (ag (gI 40) (ag (gI 12) (ag (gI 3) av))))) (ah 4) Z M=.ok x M:=fun {x} hx=>by
  unfold aO
  rw [je (aI rfl (aI rfl (aI rfl (aI rfl rfl)))) (tqq rfl)]
  show (ah 4 Z M).bind _=_
  rw [ba e]
  show dv M (cY (.lst [.int 6,.int 40,.int 12,.int 3]) (nD k) M)=_
  rw [hx];rfl
 have:k=0\/k=1\/k=2\/k=3:=by omega
 rcases this with rfl|rfl|rfl|rfl
 ·exact ⟨6,q rfl,by decide⟩
 ·exact ⟨40,q rfl,by decide⟩
 ·exact ⟨12,q rfl,by decide⟩
 ·exact ⟨3,q rfl,by decide⟩
theorem JN (ns:List Int)(hn:ns.length<=63):∃M,aw P 40 88 [.frz (ns.map D.int)] []=.ok (.bl true) M:=by
 have goal:au (aw P 40 88 [.frz (ns.map D.int)] []) fun d _=>d=.bl true:=by
  refine aL h.h88 rfl ?_
  show au (mr (aw P 39) [some (.frz (ns.map D.int)),none,none,none,none,none,none,none,none] []) _
  unfold mr
  refine cS (k:=fun d M'=>d=.cell 1/\aU M' 1 0) ?_ ?_
  ·rw [dI (aI (ba rfl) rfl)]
   exact DR h.p 38 hn
  rintro _ M1 ⟨rfl,q1⟩
  simp only [aQ,l9,kz,cR]
  refine ⟨6,rfl,by decide,?_⟩
  refine fP (ds:=(List.range 6).map fun (k:Nat)=>D.int (k:Int)) (fun i Z M'=>aU M' 1 (i*3000)/\∃x2 x3 x4 x5 x6 x7 x8,Z=[some (.frz (ns.map D.int)),some (.cell 1),x2,x3,x4,x5,x6,x7,x8]) (fun _ _ _ _=>rfl) ⟨q1,none,none,none,none,none,none,none,rfl⟩ ?_ ?_
  ·rintro i dd Z M' hd ⟨q2,x2,x3,x4,x5,x6,x7,x8,rfl⟩
   have hi:i<6:=by
    have:=(List.getElem?_eq_some_iff.mp hd).1
    simpa using this
   refine ⟨_,rfl,?_⟩
   refine cS (k:=fun d M''=>∃m:aZ,d=m.d/\br m/\aU M'' 1 (i*3000+300)) ?_ ?_
   ·simp only [dP,bp,bx,cR]
    show au (aw P 39 30 [.cell 1] M') _
    refine a7 (DY h.p 38 q2) ?_
    rintro _ M3 ⟨rfl,q3,_⟩
    show au (aw P 39 34 [.cell 1,nD 4,nD 2,nD 6] M3) _
    exact a7 (xM h.p 34 q3 (by omega) (by decide) (by decide) (by decide) (by decide) (by decide) (by decide)) fun d M4 ⟨m,e,hm,_,_,_,q4,_⟩=>⟨m,e,hm,q4⟩
   rintro _ M3 ⟨m,rfl,hm,q3⟩
   show au (aj _ _ [some (.frz (ns.map D.int)),some (.cell 1),some dd,some m.d,x4,x5,x6,x7,x8] M3) _
   simp only [aQ,l9,kz,cR]
   refine ⟨4,rfl,by decide,?_⟩
   refine fP (ds:=(List.range 4).map fun (k:Nat)=>D.int (k:Int)) (fun k Z M'=>aU M' 1 (i*3000+300+k*500)/\∃x4 x5 x6 x7 x8,Z=[some (.frz (ns.map D.int)),some (.cell 1),some dd,some m.d,x4,x5,x6,x7,x8]/\(0<k->∃ws r,x5=some (.tup ws)/\gG m ws/\x6=some (jY r)/\gr m r)) (fun _ _ _ _=>rfl) ⟨q3,_,_,_,_,_,rfl,fun z=>absurd z (tqn _)⟩ ?_ ?_
   ·rintro k dk Z M4 hk ⟨q4,x4,x5,x6,x7,x8,rfl,_⟩
    have hk4:k<4:=by
     have:=(List.getElem?_eq_some_iff.mp hk).1
     simpa using this
    obtain rfl:dk=nD k:=by
     rw [List.getElem?_map,List.getElem?_range hk4] at hk
     exact (Option.some.inj hk).symm
    refine ⟨_,rfl,?_⟩
    refine cS (k:=js m 1 (i*3000+300+k*500+400) M4) ?_ ?_
    ·rw [dI (aI (ba rfl) (aI (ba rfl) rfl))]
     exact zz h.p h.b h.h35 h.h44 h.h83 35 hm q4 (by omega)
    rintro _ M5 ⟨ws,rfl,hw,q5,_⟩
    refine cS (k:=fun d M'=>∃r,d=jY r/\gr m r/\aU M' 1 (i*3000+300+k*500+450)) ?_ ?_
    ·obtain ⟨mo,e,hmo⟩:=EG (M:=M5) (Z:=[some (.frz (ns.map D.int)),some (.cell 1),some dd,some m.d,some (nD k),some (.tup ws),x6,x7,x8]) hk4 rfl
     refine (congrArg (au · _) (dI (aI (ba rfl) (aI (ba rfl) (aI e rfl))))).mpr ?_
     exact a7 (wN h.p h.h35 36 hm q5 (by omega) hmo) fun d M' ⟨r,e,hr,_,q,_⟩=>⟨r,e,hr,q⟩
    rintro _ M6 ⟨r,rfl,hr,q6⟩
    have hr1:=hr.1
    refine dO (fx (EH rfl (by simp;omega))) ?_
    refine cS (k:=fun d M'=>d=.bl ((dJ ((ends m r).map a8) ws).all pS)/\aU M' 1 (i*3000+300+k*500+450)) ?_ ?_
    ·rw [dI (aI (ba rfl) (aI (ba rfl) (aI (ba rfl) rfl)))]
     show au (aw P 39 86 [m.d,jY r,.tup ws] M6) _
     rw [zt h 26 hm hr hw]
     exact ⟨rfl,q6.app⟩
    rintro _ M7 ⟨rfl,q7⟩
    refine xl (R:=fun M'=>aU M' 1 (i*3000+300+k*500+450)) ?_ fun M8 q8=>?_
    ·simp only [Bv,om,fG,dP,bp,bx]
     show au (aw P 39 44 [m.d,.lst (r.map nD)] M7) _
     refine a7 (uK h.b h.h44 37 hm hr.2) ?_
     rintro _ M8 ⟨rfl,S⟩
     show au (aw P 39 84 [.tup ((ends m r).map a8),.tup ws] M8) _
     rw [xN h.h84 38 (pairs_len hm) (u9 hm hr hw),kc]
     show au (aw P 39 40 [.bl _,.bl _] M8) _
     rw [FV h 38,kc]
     refine ⟨true,rfl,?_⟩
     show au (aW .ne (ah 7) (ah 6) _ M8) _
     simp only [ft,bc]
     exact ⟨_,rfl,_,rfl,_,A4,_,rfl,by simp,S.pen q7⟩
    ·refine aP (aS ?_) ⟨_,rfl,q8.mono (by omega),_,_,_,_,_,rfl,fun _=>⟨ws,r,rfl,hw,rfl,hr⟩⟩
     simp only [fG,ft,cR]
     rw [dI (aI (ba rfl) (aI rfl (aI (ba rfl) rfl)))]
     show au (aw P 39 86 [m.d,.non,.tup ws] M8) _
     rw [zq h 26 hm hw]
     exact ⟨_,rfl,_,rfl,rfl,rfl⟩
   ·rintro Z M4 ⟨q4,x4,x5,x6,x7,x8,rfl,hx⟩
    obtain ⟨ws,r,rfl,hw,rfl,hr⟩:=hx (by simp)
    simp only [List.length_map,List.length_range] at q4
    refine xl (R:=fun M'=>aU M' 1 ((i+1)*3000)) ?_ fun M8 q8=>⟨_,rfl,q8,_,_,_,_,_,_,_,rfl⟩
    simp only [om,fG]
    rw [dI (aI (ba rfl) (aI (ba rfl) (aI (ba rfl) (aI (ba rfl) rfl))))]
    refine a7 (xJ h hm hr hw q4 (by omega)) ?_
    rintro _ M9 ⟨rfl,q9⟩
    exact ⟨true,rfl,rfl,q9.mono (by omega)⟩
  ·rintro Z M' ⟨q2,x2,x3,x4,x5,x6,x7,x8,rfl⟩
   exact (rfl:D.bl true=.bl true)
 obtain ⟨d,M,e,rfl⟩:=qz.mp goal
 exact ⟨M,e⟩
end
end LD
namespace K20
open PySem PySem.Spec PyProof.Rows L2 LD
def top (i:Nat):Stmt:=PySem.Challenge.pw_leastdeeds_k20_works_done.main.body.getD i (.Pass ⟨0,0,0,0⟩)
abbrev jV:Stmt:=top 7
abbrev mH:Stmt:=top 15
abbrev lP:Stmt:=top 16
abbrev mM:Stmt:=top 17
abbrev jx:Stmt:=top 18
abbrev jE:Stmt:=top 19
abbrev fj:Stmt:=top 20
abbrev mI:Stmt:=top 21
abbrev mK:Stmt:=top 22
abbrev mJ:Stmt:=top 23
abbrev nF:Stmt:=top 24
abbrev mL:Stmt:=top 26
abbrev iE:Stmt:=top 27
abbrev iZ:Stmt:=top 28
abbrev iF:Stmt:=top 29
abbrev iu:Stmt:=top 30
abbrev iY:Stmt:=top 31
abbrev lO:Stmt:=top 32
abbrev nA:Stmt:=top 34
abbrev nE:Stmt:=top 35
abbrev pA:Stmt:=top 36
abbrev nB:Stmt:=top 37
abbrev rk:Stmt:=top 39
abbrev i4:Stmt:=top 40
abbrev j8:Stmt:=top 41
abbrev kF:Stmt:=top 42
abbrev j7:Stmt:=top 44
abbrev kC:Stmt:=top 45
abbrev j9:Stmt:=top 46
abbrev kD:Stmt:=top 47
abbrev jy:Stmt:=top 49
abbrev kK:Stmt:=top 50
abbrev kO:Stmt:=top 51
abbrev kJ:Stmt:=top 52
abbrev fY:Stmt:=top 53
abbrev iN:Stmt:=top 54
abbrev jz:Stmt:=top 55
abbrev iM:Stmt:=top 56
abbrev i5:Stmt:=top 57
abbrev gJ:Stmt:=top 58
abbrev ja:Stmt:=top 59
abbrev i8:Stmt:=top 60
abbrev jF:Stmt:=top 61
abbrev jX:Stmt:=top 62
abbrev fM:Stmt:=top 63
abbrev kL:Stmt:=top 64
abbrev jW:Stmt:=top 65
abbrev gU:Stmt:=top 66
abbrev gV:Stmt:=top 67
abbrev fk:Stmt:=top 68
abbrev kN:Stmt:=top 69
abbrev eQ:Stmt:=top 70
abbrev i9:Stmt:=top 71
abbrev i7:Stmt:=top 72
abbrev kI:Stmt:=top 73
abbrev i6:Stmt:=top 74
abbrev uI:Stmt:=top 75
abbrev By:Stmt:=inC (top 2)
abbrev Hr:List Str:=["thing","low","high"]
theorem KS:Hr.Nodup:=by decide +kernel
abbrev sS:List Str:=["words","thing"]
theorem HG:sS.Nodup:=by decide +kernel
abbrev KO:List Str:=["places","thing"]
theorem nd2:KO.Nodup:=by decide +kernel
abbrev vk:List Str:=["thing"]
theorem Dp:vk.Nodup:=by decide +kernel
abbrev KN:List Str:=["long","thing"]
theorem nd4:KN.Nodup:=by decide +kernel
abbrev ns5:List Str:=["word","words","thing"]
theorem nd5:ns5.Nodup:=by decide +kernel
abbrev ns6:List Str:=["table","words","thing"]
theorem nd6:ns6.Nodup:=by decide +kernel
abbrev KJ:List Str:=["words","places","parts","at","table","price"]
theorem KR:KJ.Nodup:=by decide +kernel
abbrev KI:List Str:=["words","places","parts","at","other","table","price"]
theorem KQ:KI.Nodup:=by decide +kernel
abbrev KH:List Str:=["words","places","parts","at","other","price"]
theorem KP:KH.Nodup:=by decide +kernel
abbrev Hq:List Str:=["words","places","parts","at","word","price"]
theorem HF:Hq.Nodup:=by decide +kernel
abbrev Ho:List Str:=["words","places","thing","sort","is_sort"]
theorem Ck:Ho.Nodup:=by decide +kernel
abbrev yp:List Str:=["thing","words","places","deeds"]
theorem HE:yp.Nodup:=by decide +kernel
abbrev LU:List Str:=["deed","thing","words","places","deeds"]
theorem Mm:LU.Nodup:=by decide +kernel
abbrev yo:List Str:=["machine","words","places","deeds","starts","place"]
theorem vv:yo.Nodup:=by decide +kernel
abbrev LR:List Str:=["start","word","machine","words","places","deeds","starts","place"]
theorem HC:LR.Nodup:=by decide +kernel
abbrev vm:List Str:=["machine","thing"]
theorem HB:vm.Nodup:=by decide +kernel
abbrev Hn:List Str:=["machine","row","place","thing"]
theorem HA:Hn.Nodup:=by decide +kernel
abbrev rO:List Str:=["machine","row"]
theorem Cj:rO.Nodup:=by decide +kernel
abbrev Hm:List Str:=["deed","standing","sort","at","table","price"]
theorem Hz:Hm.Nodup:=by decide +kernel
abbrev Hl:List Str:=["deed","standing","sort","at","other","table","price"]
theorem Hy:Hl.Nodup:=by decide +kernel
abbrev Hk:List Str:=["deed","standing","sort","at","other","price"]
theorem Hx:Hk.Nodup:=by decide +kernel
abbrev Hj:List Str:=["deed","standing","sort","at","word","price"]
theorem Hw:Hj.Nodup:=by decide +kernel
abbrev Hi:List Str:=["deed","standing","new_word","at"]
theorem Ci:Hi.Nodup:=by decide +kernel
abbrev Hh:List Str:=["machine","row","beginning","standings","number"]
theorem Cg:Hh.Nodup:=by decide +kernel
abbrev LQ:List Str:=["start","machine","row"]
theorem Ml:LQ.Nodup:=by decide +kernel
abbrev LP:List Str:=["word","machine","thing"]
theorem Mk:LP.Nodup:=by decide +kernel
abbrev Hg:List Str:=["machine","work"]
theorem Mj:Hg.Nodup:=by decide +kernel
abbrev yn:List Str:=["ends","work"]
theorem Mi:yn.Nodup:=by decide +kernel
abbrev LO:List Str:=["end","word","ends","work"]
theorem Mh:LO.Nodup:=by decide +kernel
abbrev Hf:List Str:=["machine","row","work"]
theorem Mg:Hf.Nodup:=by decide +kernel
abbrev He:List Str:=["cell","at","primes","one","two","three"]
theorem rR:He.Nodup:=by decide +kernel
abbrev Hd:List Str:=["script","cells","k","cell"]
theorem Cf:Hd.Nodup:=by decide +kernel
abbrev Cb:List Str:=["pen"]
theorem Hv:Cb.Nodup:=by decide +kernel
abbrev Hc:List Str:=["pen","many","at","cell","found"]
theorem rQ:Hc.Nodup:=by decide +kernel
abbrev ym:List Str:=["pen","others","all_signs","some"]
theorem yt:ym.Nodup:=by decide +kernel
abbrev LN:List Str:=["sign","pen","others","all_signs","some"]
theorem Mf:LN.Nodup:=by decide +kernel
abbrev Hb:List Str:=["pen","text","at"]
theorem Hu:Hb.Nodup:=by decide +kernel
abbrev yk:List Str:=["found","due"]
theorem Me:yk.Nodup:=by decide +kernel
abbrev LM:List Str:=["one","other","found","due"]
theorem Md:LM.Nodup:=by decide +kernel
abbrev nO:List Str:=["pen","words","kind","word","other","found"]
theorem vt:nO.Nodup:=by decide +kernel
abbrev LL:List Str:=["k","pen","words","kind","word","other","found"]
theorem Ce:LL.Nodup:=by decide +kernel
abbrev yj:List Str:=["pen","words","places","kind","price","at","other"]
theorem vq:yj.Nodup:=by decide +kernel
abbrev LK:List Str:=["k","pen","words","places","kind","price","at","other"]
theorem Mc:LK.Nodup:=by decide +kernel
abbrev Ha:List Str:=["pen","words","places","most","deeds","k","again","deed"]
theorem nQ:Ha.Nodup:=by decide +kernel
abbrev yi:List Str:=["pen","machine","most","kind","many","found"]
theorem vp:yi.Nodup:=by decide +kernel
abbrev LJ:List Str:=["k","pen","machine","most","kind","many","found"]
theorem Mb:LJ.Nodup:=by decide +kernel
abbrev G9:List Str:=["deed","end","here","own"]
theorem Cd:G9.Nodup:=by decide +kernel
abbrev rN:List Str:=["machine"]
theorem Ma:rN.Nodup:=by decide +kernel
abbrev LH:List Str:=["k","machine"]
theorem L9:LH.Nodup:=by decide +kernel
abbrev LG:List Str:=["word","machine"]
theorem L8:LG.Nodup:=by decide +kernel
abbrev G8:List Str:=["machine","row","found","end","number"]
theorem vo:G8.Nodup:=by decide +kernel
abbrev yh:List Str:=["thing","many","low","high"]
theorem L7:yh.Nodup:=by decide +kernel
abbrev LF:List Str:=["one","thing","many","low","high"]
theorem L6:LF.Nodup:=by decide +kernel
abbrev yg:List Str:=["thing","words","places"]
theorem L5:yg.Nodup:=by decide +kernel
abbrev LC:List Str:=["one","thing","words","places"]
theorem LZ:LC.Nodup:=by decide +kernel
abbrev LA:List Str:=["deed","thing"]
theorem LY:LA.Nodup:=by decide +kernel
abbrev G7:List Str:=["pen","thing","deep","kind","pick","number","at","odd","some"]
theorem nP:G7.Nodup:=by decide +kernel
abbrev nN:List Str:=["pen","machine","kind","free","begins","ends","found","at"]
theorem mS:nN.Nodup:=by decide +kernel
abbrev Lz:List Str:=["word","pen","machine","kind","free","begins","ends","found","at"]
theorem LX:Lz.Nodup:=by decide +kernel
abbrev Ly:List Str:=["end","pen","machine","kind","free","begins","ends","found","at"]
theorem Ht:Ly.Nodup:=by decide +kernel
abbrev yf:List Str:=["here","work"]
theorem LW:yf.Nodup:=by decide +kernel
abbrev Lx:List Str:=["end","word","here","work"]
theorem LV:Lx.Nodup:=by decide +kernel
abbrev G6:List Str:=["pen","machine","work","kind","at","odd"]
theorem yr:G6.Nodup:=by decide +kernel
abbrev G5:List Str:=["machine","row","work","found","e","some"]
theorem pO:G5.Nodup:=by decide +kernel
abbrev G4:List Str:=["pen","machine","row","work","bad","odd","other","own","at","strange","cases","place"]
theorem mR:G4.Nodup:=by decide +kernel
abbrev G3:List Str:=["script","pen","turn","machine","k","work","row","handed","found"]
theorem lR:G3.Nodup:=by decide +kernel
def Pg:Nat->Option Df
 |0=>some ⟨3,3,fT⟩
 |1=>some ⟨2,2,jS⟩
 |2=>some ⟨2,2,jl⟩
 |3=>some ⟨1,1,jT⟩
 |4=>some ⟨2,2,gD⟩
 |5=>some ⟨2,2,jk⟩
 |6=>some ⟨2,2,eB⟩
 |7=>some ⟨3,6,hG⟩
 |8=>some ⟨3,7,hR⟩
 |9=>some ⟨3,6,hJ⟩
 |10=>some ⟨3,6,iP⟩
 |11=>some ⟨3,5,hU⟩
 |12=>some ⟨1,4,fS⟩
 |13=>some ⟨1,1,dw⟩
 |15=>some ⟨1,6,cH⟩
 |16=>some ⟨2,2,eX⟩
 |17=>some ⟨2,4,cQ⟩
 |18=>some ⟨2,2,dX⟩
 |20=>some ⟨2,6,nh⟩
 |21=>some ⟨2,7,nj⟩
 |22=>some ⟨2,6,oS⟩
 |23=>some ⟨2,6,ni⟩
 |24=>some ⟨2,4,qY⟩
 |25=>some ⟨3,5,ij⟩
 |27=>some ⟨2,2,gL⟩
 |28=>some ⟨2,6,iH⟩
 |29=>some ⟨1,4,jI⟩
 |30=>some ⟨1,1,jJ⟩
 |31=>some ⟨2,5,lV⟩
 |32=>some ⟨2,6,jm⟩
 |33=>some ⟨3,7,iB⟩
 |34=>some ⟨4,8,fV⟩
 |35=>some ⟨3,6,ik⟩
 |40=>some ⟨2,2,dm⟩
 |41=>some ⟨2,4,jo⟩
 |42=>some ⟨1,1,iI⟩
 |44=>some ⟨2,5,fD⟩
 |46=>some ⟨2,2,hV⟩
 |64=>some ⟨2,4,fv⟩
 |65=>some ⟨1,1,fw⟩
 |66=>some ⟨2,3,gE⟩
 |67=>some ⟨1,1,jn⟩
 |68=>some ⟨3,3,lr⟩
 |69=>some ⟨4,4,ip⟩
 |70=>some ⟨3,3,bC⟩
 |71=>some ⟨1,1,eC⟩
 |72=>some ⟨3,9,lW⟩
 |79=>some ⟨2,2,eP⟩
 |80=>some ⟨2,2,cZ⟩
 |81=>some ⟨2,2,iV⟩
 |82=>some ⟨3,3,c6⟩
 |83=>some ⟨2,8,ff⟩
 |84=>some ⟨2,2,gM⟩
 |85=>some ⟨3,6,eR⟩
 |86=>some ⟨3,6,dz⟩
 |87=>some ⟨4,12,fU⟩
 |88=>some ⟨1,9,mr⟩
 |_=>none
end K20
set_option maxHeartbeats 4000000
namespace K20
open PySem PySem.Spec PyProof.Rows L2 LD
abbrev Fx (fa:Fa)(mg:Str->Option Value)(i:Nat)(x:Str):Prop:=∀ad,fa i=some ad->mg x=some (.ref ad)
structure Txt (K:PySem.W.Frag) (w:World) (mg:Str->Option Value) (fa:Fa):Prop where
 b0:mg "ValueError"=none
 b1:mg "all"=none
 b2:mg "bool"=none
 b3:mg "enumerate"=none
 b4:mg "int"=none
 b5:mg "isinstance"=none
 b6:mg "len"=none
 b7:mg "list"=none
 b8:mg "range"=none
 b9:mg "str"=none
 b10:mg "tuple"=none
 b11:mg "zip"=none
 c_LEAST_WORDS:∃t,mg "LEAST_WORDS"=some (.int 2 t)
 c_LONGEST_ROW:∃t,mg "LONGEST_ROW"=some (.int 40 t)
 c_MOST_COST:∃t,mg "MOST_COST"=some (.int 3 t)
 c_MOST_DEEDS:∃t,mg "MOST_DEEDS"=some (.int 6 t)
 c_MOST_PLACES:∃t,mg "MOST_PLACES"=some (.int 2 t)
 c_MOST_WORDS:∃t,mg "MOST_WORDS"=some (.int 4 t)
 d_NEW_WORDS:∃ad kvs,mg "NEW_WORDS"=some (.ref ad)/\jK K w.params ad kvs/\gu fa kvs d3
 d_SORTS:∃ad kvs,mg "SORTS"=some (.ref ad)/\jK K w.params ad kvs/\gu fa kvs dS
 xc:n9 fa K
 k_DeedError:∃D,mg "DeedError"=some (.ref D)/\fa 999=some D
 k_NoRow:∃D,mg "NoRow"=some (.ref D)/\fa (fu 0)=some D
 k_NoMachine:∃D,mg "NoMachine"=some (.ref D)/\fa (fu 3)=some D
 k_TooLong:∃D,mg "TooLong"=some (.ref D)/\fa (fu 4)=some D
 k_NoWork:∃D,mg "NoWork"=some (.ref D)/\fa (fu 6)=some D
 kr_NoMachine:∃C,mg "NoMachine"=some (.ref C)/\fa (fu 3)=some C/\PySem.W.excIn K C mq "ValueError.__new__"=true
 kr_TooLong:∃C,mg "TooLong"=some (.ref C)/\fa (fu 4)=some C/\PySem.W.excIn K C mq "ValueError.__new__"=true
 kr_NoWork:∃C,mg "NoWork"=some (.ref C)/\fa (fu 6)=some C/\PySem.W.excIn K C mq "ValueError.__new__"=true
 i_NoRow:∀(P:Program) (base:Heap),mx fa P w K mg base 0 "NoRow"
 xf_place:Dy fa K "place"
 f0:Fx fa mg 0 "is_between"
 f1:Fx fa mg 1 "is_word"
 f2:Fx fa mg 2 "is_place"
 f3:Fx fa mg 3 "is_cost"
 f4:Fx fa mg 4 "is_tuple_of"
 f5:Fx fa mg 5 "is_table"
 f6:Fx fa mg 6 "is_double_table"
 f11:Fx fa mg 11 "is_deed"
 f12:Fx fa mg 12 "is_machine"
 f13:Fx fa mg 13 "need_machine"
 f15:Fx fa mg 15 "beginnings"
 f16:Fx fa mg 16 "is_deed_number"
 f17:Fx fa mg 17 "need_numbers"
 f18:Fx fa mg 18 "need_row"
 f24:Fx fa mg 24 "done"
 f25:Fx fa mg 25 "all_standing"
 f27:Fx fa mg 27 "behaviour"
 f28:Fx fa mg 28 "_law_spread"
 f29:Fx fa mg 29 "_law_open"
 f30:Fx fa mg 30 "_law_anew"
 f31:Fx fa mg 31 "_law_take"
 f32:Fx fa mg 32 "_law_tab"
 f33:Fx fa mg 33 "_law_deed"
 f34:Fx fa mg 34 "_law_machine"
 f35:Fx fa mg 35 "_law_row"
 f40:Fx fa mg 40 "_law_same"
 f41:Fx fa mg 41 "_law_after"
 f42:Fx fa mg 42 "_law_begins"
 f44:Fx fa mg 44 "_law_ends"
 f46:Fx fa mg 46 "ends_of"
 f64:Fx fa mg 64 "_law_sign_but"
 f65:Fx fa mg 65 "_law_any_sign"
 f66:Fx fa mg 66 "_law_signed"
 f67:Fx fa mg 67 "_law_is_whole"
 f68:Fx fa mg 68 "_law_is_in"
 f69:Fx fa mg 69 "_law_numbers"
 f70:Fx fa mg 70 "_law_is_deed"
 f71:Fx fa mg 71 "_law_is_machine"
 f72:Fx fa mg 72 "_law_bent"
 f79:Fx fa mg 79 "is_work"
 f80:Fx fa mg 80 "need_work"
 f81:Fx fa mg 81 "ends_do"
 f82:Fx fa mg 82 "does_work"
 f83:Fx fa mg 83 "_law_wanted"
 f84:Fx fa mg 84 "_law_does"
 f85:Fx fa mg 85 "_law_no_work"
 f86:Fx fa mg 86 "_law_told"
 f87:Fx fa mg 87 "_law_refused"
theorem boot_bool:bootBuiltins "bool"=some (.type (tyName .bool)):=by decide +kernel
theorem boot_int:bootBuiltins "int"=some (.type (tyName .int)):=by decide +kernel
theorem boot_list:bootBuiltins "list"=some (.type (tyName .list)):=by decide +kernel
theorem boot_str:bootBuiltins "str"=some (.type (tyName .str)):=by decide +kernel
theorem boot_tuple:bootBuiltins "tuple"=some (.type (tyName .tuple)):=by decide +kernel
section
variable {fa:Fa}{P:Program}{w:World}{K:PySem.W.Frag}{mg:Str->Option Value}{base:Heap}
def cv (fa:Fa)(P:Program)(w:World)(K:PySem.W.Frag)(mg:Str->Option Value)(base:Heap)(ns:List Str)(x:Str)(st:Stmt)(b:Call->GS):Prop:=∀{f:Addr} (c:Call) (n:Nat) (cdv:Value) (A:Around) (outer:List PySem.Env) (s:Shared) (H:Hp) (E:XK),(∀f,iD fa P w K mg base n f (c f))->cU (n+4) (A.deeper (envOfC x (aT st) s.heap.objs.size f cdv))->iC fa (gQ (iX P w) P w K mg base ns x (aT st) f cdv A outer s H E) (dH st) (b c)
theorem cK {A:Around}{n:Nat}(h:cU (n+4) A):A.units+100<cLine:=by have:=h.un;omega
theorem cu {ns ps:List Str}{sc:Scope}(nd:ns.Nodup)(a:sc.kind=.function:=by exact rfl)(b:sc.isCoroutine=false:=by exact rfl)(c:sc.isGenerator=false:=by exact rfl)(d:ns.take ps.length=ps:=by exact rfl)(e:∀x∈ps,sc.names.lookup x=some .local\/sc.names.lookup x=some .cell:=by decide +kernel)(f:∀y∈sc.names,y.2≠.free:=by decide +kernel):iq ns ps sc:=⟨a,b,c,nd,d,e,f⟩
theorem vb (T:Txt K w mg fa):cv fa P w K mg base Hr "is_between" jV fT:=fun _ _ _ _ _ _ _ _ C hr=>have hu:=cK hr;unbox (ai (aY (eU (eE (bK (bU aa T.b5 T.b2 boot_bool)) (dY (bV (bK (bU aa T.b5 T.b4 boot_int)))))) (ai (aF cj) aq) aq) (ai (aF (zc hu aa aa aa)) aq))
theorem Ag (T:Txt K w mg fa):cv fa P w K mg base sS "is_word" mH jS:=fun _ _ _ _ _ _ _ _ C hr=>unbox (ai (aF (ay C hr T.f0 (ae aa (ae ak (ae (aC aa ak) ao))))) aq)
theorem xX (T:Txt K w mg fa):cv fa P w K mg base KO "is_place" lP jl:=fun _ _ _ _ _ _ _ _ C hr=>unbox (ai (aF (ay C hr T.f0 (ae aa (ae ak (ae (aC aa ak) ao))))) aq)
theorem Al (T:Txt K w mg fa):cv fa P w K mg base vk "is_cost" mM jT:=fun _ _ _ _ _ _ _ _ C hr=>unbox (ai (aF (ay C hr T.f0 (ae aa (ae ak (ae (iK T.c_MOST_COST) ao))))) aq)
theorem tO (T:Txt K w mg fa):cv fa P w K mg base KN "is_tuple_of" jx gD:=fun _ _ _ _ _ _ _ _ C hr=>have hu:=cK hr;unbox (ai (aF (ez (bU aa T.b5 T.b10 boot_tuple) (fg (eh hu (cz T.b6 (ae aa ao)) aa)))) aq)
theorem xW (T:Txt K w mg fa):cv fa P w K mg base sS "is_table" jE jk:=fun _ _ _ _ _ _ _ _ C hr=>unbox (ai (aF (ez (ay C hr T.f4 (ae aa (ae aa ao))) (fg (ny T.b1 (ae (dQ (bS (own:=["word"]) (bn:=sS) (sc:=aT jE) (N:=sS) rfl rfl rfl (by decide +kernel)) (dg aa) (fun cl C0 fp s0 H0=>az nd5) (fun cl C0 fp s0 H0=>ay C hr T.f1 (ae aa (ae aa ao)))) ao))))) aq)
theorem oV (T:Txt K w mg fa):cv fa P w K mg base sS "is_double_table" fj eB:=fun _ _ _ _ _ _ _ _ C hr=>unbox (ai (aF (ez (ay C hr T.f4 (ae aa (ae aa ao))) (fg (ny T.b1 (ae (dQ (bS (own:=["table"]) (bn:=sS) (sc:=aT fj) (N:=sS) rfl rfl rfl (by decide +kernel)) (dg aa) (fun cl C0 fp s0 H0=>az nd6) (fun cl C0 fp s0 H0=>ay C hr T.f5 (ae aa (ae aa ao)))) ao))))) aq)
theorem Ah (T:Txt K w mg fa):cv fa P w K mg base KJ "is_turn" mI hG:=fun _ _ _ _ _ _ _ _ C hr=>have hu:=cK hr;unbox (ai (aY (bg hu (cz T.b6 (ae aa ao)) ak) (ai (aF cj) aq) aq) (ai (aR aa (du KR (.cons rfl (.inl rfl) (.inl rfl) (.cons rfl (.inl rfl) (.inl rfl) (.cons rfl (.inl rfl) (.inl rfl) (.nil)))))) (ai (aF (ez (ay C hr T.f2 (ae aa (ae aa ao))) (ez (ay C hr T.f5 (ae aa (ae aa ao))) (fg (ay C hr T.f3 (ae aa ao)))))) aq)))
theorem Aj (T:Txt K w mg fa):cv fa P w K mg base KI "is_join" mK hR:=fun _ _ _ _ _ _ _ _ C hr=>have hu:=cK hr;unbox (ai (aY (bg hu (cz T.b6 (ae aa ao)) ak) (ai (aF cj) aq) aq) (ai (aR aa (du KQ (.cons rfl (.inl rfl) (.inl rfl) (.cons rfl (.inl rfl) (.inl rfl) (.cons rfl (.inl rfl) (.inl rfl) (.cons rfl (.inl rfl) (.inl rfl) (.nil))))))) (ai (aY (eU (eE (bV (bK (ay C hr T.f2 (ae aa (ae aa ao))))) (dY (bV (bK (ay C hr T.f2 (ae aa (ae aa ao)))))))) (ai (aF cj) aq) aq) (ai (aF (ez (ay C hr T.f6 (ae aa (ae aa ao))) (fg (ay C hr T.f3 (ae aa ao))))) aq))))
theorem Ai (T:Txt K w mg fa):cv fa P w K mg base KH "is_move" mJ hJ:=fun _ _ _ _ _ _ _ _ C hr=>have hu:=cK hr;unbox (ai (aY (bg hu (cz T.b6 (ae aa ao)) ak) (ai (aF cj) aq) aq) (ai (aR aa (du KP (.cons rfl (.inl rfl) (.inl rfl) (.cons rfl (.inl rfl) (.inl rfl) (.cons rfl (.inl rfl) (.inl rfl) (.nil)))))) (ai (aF (ez (ay C hr T.f2 (ae aa (ae aa ao))) (ez (ay C hr T.f2 (ae aa (ae aa ao))) (fg (ay C hr T.f3 (ae aa ao)))))) aq)))
theorem B3 (T:Txt K w mg fa):cv fa P w K mg base Hq "is_put" nF iP:=fun _ _ _ _ _ _ _ _ C hr=>have hu:=cK hr;unbox (ai (aY (bg hu (cz T.b6 (ae aa ao)) ak) (ai (aF cj) aq) aq) (ai (aR aa (du HF (.cons rfl (.inl rfl) (.inl rfl) (.cons rfl (.inl rfl) (.inl rfl) (.cons rfl (.inl rfl) (.inl rfl) (.nil)))))) (ai (aF (ez (ay C hr T.f2 (ae aa (ae aa ao))) (ez (ay C hr T.f1 (ae aa (ae aa ao))) (fg (ay C hr T.f3 (ae aa ao)))))) aq)))
theorem Ak (T:Txt K w mg fa):cv fa P w K mg base Ho "is_deed" mL hU:=fun _ _ _ _ _ _ _ _ C hr=>unbox (ai (aY (eU (eE (bV (bK (bU aa T.b5 T.b10 boot_tuple))) (dY (bV (bK aa))))) (ai (aF cj) aq) aq) (ai (aR (aG aa ak) (az Ck)) (ai (aY (eU (eE (bV (bK (bU aa T.b5 T.b9 boot_str))) (dY (Bf T.d_SORTS aa)))) (ai (aF cj) aq) aq) (ai (aR (ur T.d_SORTS aa) (az Ck)) (ai (aF (uu C hr (ae aa (ae aa (ae (dE aa (cN ak) cV) ao))))) aq)))))
theorem va (T:Txt K w mg fa):cv fa P w K mg base yp "is_machine" iE fS:=fun _ _ _ _ _ _ _ _ C hr=>have hu:=cK hr;unbox (ai (aY (bV (bK (ay C hr T.f4 (ae ak (ae aa ao))))) (ai (aF cj) aq) aq) (ai (aR aa (du HE (.cons rfl (.inr rfl) (.inl rfl) (.cons rfl (.inr rfl) (.inl rfl) (.cons rfl (.inl rfl) (.inl rfl) (.nil)))))) (ai (aY (eU (eE (bV (bK (ay C hr T.f0 (ae aa (ae (iK T.c_LEAST_WORDS) (ae (iK T.c_MOST_WORDS) ao)))))) (dY (bV (bK (ay C hr T.f0 (ae aa (ae ak (ae (iK T.c_MOST_PLACES) ao))))))))) (ai (aF cj) aq) aq) (ai (aY (eU (eE (bV (bK (bU aa T.b5 T.b10 boot_tuple))) (dY (bV (zd hu ak (cz T.b6 (ae aa ao)) (iK T.c_MOST_DEEDS)))))) (ai (aF cj) aq) aq) (ai (aF (ny T.b1 (ae (dQ (bS (own:=["deed"]) (bn:=yp) (sc:=aT iE) (N:=yp) rfl rfl rfl (by decide +kernel)) (dg aa) (fun cl C0 fp s0 H0=>az Mm) (fun cl C0 fp s0 H0=>ay C hr T.f11 (ae aa (ae aa (ae aa ao))))) ao))) aq)))))
theorem rD (T:Txt K w mg fa):cv fa P w K mg base vk "need_machine" iZ dw:=fun _ _ _ _ _ _ _ _ C hr=>unbox (ai (aY (bV (bK (ay C hr T.f12 (ae aa ao)))) (ai (pj T.kr_NoMachine (ae bI ao)) aq) aq) aq)
theorem vc (T:Txt K w mg fa):cv fa P w K mg base yo "beginnings" iF cH:=fun _ _ _ _ _ _ _ _ C hr=>unbox (ai (ky (ib C hr T.f13 (ae aa ao))) (ai (aR aa (du vv (.cons rfl (.inr rfl) (.inl rfl) (.cons rfl (.inl rfl) (.inl rfl) (.cons rfl (.inl rfl) (.inl rfl) (.nil)))))) (ai (aR (bQ (ae (cm ao) ao)) (az vv)) (ai (gx PassesOwn.leaving (ee aa T.b8) (az vv) (ai (Bb (bS (own:=["start" ,"word"]) (bn:=yo) (sc:=aT iF) (N:=yo) rfl rfl rfl (by decide +kernel)) (dg aa) (fun cl C0 fp s0 H0=>az HC) (fun cl C0 fp s0 H0=>ee aa T.b8) (fun cl C0 fp s0 H0=>az HC) (fun cl C0 fp s0 H0=>aC aa (cm (ae aa ao))) (fun cl C0 fp s0 H0=>(fun _=>rfl)) vv) aq)) (ai (aF aa) aq)))))
theorem pI (T:Txt K w mg fa):cv fa P w K mg base vm "is_deed_number" iu eX:=fun _ _ _ _ _ _ _ _ C hr=>unbox (ai (aF (ay C hr T.f0 (ae aa (ae ak (ae (aC (cz T.b6 (ae (aG aa ak) ao)) ak) ao))))) aq)
theorem rC (T:Txt K w mg fa):cv fa P w K mg base Hn "need_numbers" iY cQ:=fun _ _ _ _ _ _ _ _ C hr=>unbox (ai (aY (bV (bK (bU aa T.b5 T.b7 boot_list))) (ai (sv (T.i_NoRow P base) (C9 hr) ak) aq) aq) (ai (gx PassesOwn.leaving (uv aa T.b3) (du HA (.cons rfl (.inl rfl) (.inl rfl) (.cons rfl (.inl rfl) (.inl rfl) (.nil)))) (ai (aY (bV (bK (ay C hr T.f16 (ae aa (ae aa ao))))) (ai (sv (T.i_NoRow P base) (C9 hr) aa) aq) aq) aq)) aq))
theorem xV (T:Txt K w mg fa):cv fa P w K mg base rO "need_row" lO dX:=fun _ _ _ _ _ _ _ _ C hr=>have hu:=cK hr;unbox (ai (ky (ib C hr T.f13 (ae aa ao))) (ai (ky (ib C hr T.f17 (ae aa (ae aa ao)))) (ai (aY (bg hu (cz T.b6 (ae aa ao)) (iK T.c_LONGEST_ROW)) (ai (pj T.kr_TooLong (ae (Ja (iK T.c_LONGEST_ROW)) ao)) aq) aq) aq)))
theorem B0 (T:Txt K w mg fa):cv fa P w K mg base Hm "turned" nA nh:=fun _ _ _ _ _ _ _ _ C hr=>unbox (ai (aR aa (du Hz (.cons rfl (.inl rfl) (.inl rfl) (.cons rfl (.inl rfl) (.inl rfl) (.cons rfl (.inl rfl) (.inl rfl) (.cons rfl (.inl rfl) (.inl rfl) (.nil))))))) (ai (aF (aG aa (aG aa aa))) aq))
theorem B2 (T:Txt K w mg fa):cv fa P w K mg base Hl "joined" nE nj:=fun _ _ _ _ _ _ _ _ C hr=>unbox (ai (aR aa (du Hy (.cons rfl (.inl rfl) (.inl rfl) (.cons rfl (.inl rfl) (.inl rfl) (.cons rfl (.inl rfl) (.inl rfl) (.cons rfl (.inl rfl) (.inl rfl) (.cons rfl (.inl rfl) (.inl rfl) (.nil)))))))) (ai (aF (aG (aG aa (aG aa aa)) (aG aa aa))) aq))
theorem Er (T:Txt K w mg fa):cv fa P w K mg base Hk "moved" pA oS:=fun _ _ _ _ _ _ _ _ C hr=>unbox (ai (aR aa (du Hx (.cons rfl (.inl rfl) (.inl rfl) (.cons rfl (.inl rfl) (.inl rfl) (.cons rfl (.inl rfl) (.inl rfl) (.cons rfl (.inl rfl) (.inl rfl) (.nil))))))) (ai (aF (aG aa aa)) aq))
theorem B1 (T:Txt K w mg fa):cv fa P w K mg base Hj "put_in" nB ni:=fun _ _ _ _ _ _ _ _ C hr=>unbox (ai (aR aa (du Hw (.cons rfl (.inl rfl) (.inl rfl) (.cons rfl (.inl rfl) (.inl rfl) (.cons rfl (.inl rfl) (.inl rfl) (.cons rfl (.inl rfl) (.inl rfl) (.nil))))))) (ai (aF aa) aq))
theorem GN (T:Txt K w mg fa):cv fa P w K mg base Hi "done" rk qY:=fun _ _ _ _ _ _ _ _ C hr=>unbox (ai (aR (ur T.d_NEW_WORDS (aG aa ak)) (az Ci)) (ai (aR (aG aa ak) (az Ci)) (ai (aF (aC (aC (dE aa cV (cN aa)) (cm (ae (uu C hr (ae aa (ae aa ao))) ao))) (dE aa (cN (aC aa ak)) cV))) aq)))
theorem rE (T:Txt K w mg fa):cv fa P w K mg base Hh "all_standing" i4 ij:=fun _ _ _ _ _ _ _ _ C hr=>unbox (ai (aR (bQ (ae aa ao)) (az Cg)) (ai (gx PassesOwn.leaving (dg aa) (az Cg) (ai (uq aa (ay C hr T.f24 (ae (aG (aG aa ak) aa) (ae (aG aa (fL ak)) ao)))) aq)) (ai (aF aa) aq)))
theorem Am (T:Txt K w mg fa):cv fa P w K mg base rO "ends_of" j8 hV:=fun _ _ _ _ _ _ _ _ C hr=>unbox (ai (aF (eT T.b10 (ae (dQ (bS (own:=["start"]) (bn:=rO) (sc:=aT j8) (N:=rO) rfl rfl rfl (by decide +kernel)) (dg (ay C hr T.f15 (ae aa ao))) (fun cl C0 fp s0 H0=>az Ml) (fun cl C0 fp s0 H0=>aG (ay C hr T.f25 (ae aa (ae aa (ae aa ao)))) (fL ak))) ao))) aq)
theorem wb (T:Txt K w mg fa):cv fa P w K mg base rO "behaviour" kF gL:=fun _ _ _ _ _ _ _ _ C hr=>unbox (ai (ky (ib C hr T.f18 (ae aa (ae aa ao)))) (ai (aF (ay C hr T.f46 (ae aa (ae aa ao)))) aq))
theorem Af (T:Txt K w mg fa):cv fa P w K mg base vm "is_work" j7 eP:=fun _ _ _ _ _ _ _ _ C hr=>have hu:=cK hr;unbox (ai (aY (bV (bK (ay C hr T.f4 (ae (cz T.b6 (ae (ay C hr T.f15 (ae aa ao)) ao)) (ae aa ao))))) (ai (aF cj) aq) aq) (ai (aF (ny T.b1 (ae (dQ (bS (own:=["word"]) (bn:=vm) (sc:=aT j7) (N:=vm) rfl rfl rfl (by decide +kernel)) (dg aa) (fun cl C0 fp s0 H0=>az Mk) (fun cl C0 fp s0 H0=>CY (eh hu aa fh) (fg (ay C hr T.f1 (ae (aG aa ak) (ae aa ao)))))) ao))) aq))
theorem v9 (T:Txt K w mg fa):cv fa P w K mg base Hg "need_work" kC cZ:=fun _ _ _ _ _ _ _ _ C hr=>unbox (ai (ky (ib C hr T.f13 (ae aa ao))) (ai (aY (bV (bK (ay C hr T.f79 (ae aa (ae aa ao))))) (ai (pj T.kr_NoWork (ae bI ao)) aq) aq) aq))
theorem An (T:Txt K w mg fa):cv fa P w K mg base yn "ends_do" j9 iV:=fun _ _ _ _ _ _ _ _ C hr=>have hu:=cK hr;unbox (ai (aF (ny T.b1 (ae (dQ (bS (own:=["end" ,"word"]) (bn:=yn) (sc:=aT j9) (N:=yn) rfl rfl rfl (by decide +kernel)) (pq aa aa T.b11) (fun cl C0 fp s0 H0=>du Mh (.cons rfl (.inl rfl) (.inr rfl) (.cons rfl (.inl rfl) (.inr rfl) (.nil)))) (fun cl C0 fp s0 H0=>CY (eh hu aa fh) (fg (eh hu (aG aa ak) aa)))) ao))) aq)
theorem wa (T:Txt K w mg fa):cv fa P w K mg base Hf "does_work" kD c6:=fun _ _ _ _ _ _ _ _ C hr=>unbox (ai (ky (ib C hr T.f18 (ae aa (ae aa ao)))) (ai (ky (ib C hr T.f80 (ae aa (ae aa ao)))) (ai (aF (ay C hr T.f81 (ae (ay C hr T.f27 (ae aa (ae aa ao))) (ae aa ao)))) aq)))
theorem tQ (T:Txt K w mg fa):cv fa P w K mg base He "_law_spread" jy iH:=fun _ _ _ _ _ _ _ _ C hr=>have hu:=cK hr;unbox (ai (aY (bg hu aa (aC ak ak)) (ai (aF aa) aq) aq) (ai (aR (bQ (ae ak (ae ak (ae ak (ae ak (ae ak (ae ak (ae ak (ae ak ao))))))))) (az rR)) (ai (aR (aC aa (bQ (ae ak (ae ak (ae ak (ae ak (ae ak ao))))))) (az rR)) (ai (aR (aC (aC (aC (aC (aC (aC aa ak) (aC (aC ak aa) ak)) (aC aa ak)) ak) ak) (aG aa (aC aa ak))) (az rR)) (ai (aR (aC (aC (aC (aC (aC aa (aC aa ak)) (aC aa ak)) ak) ak) (aG aa (aC (aC aa ak) ak))) (az rR)) (ai (aR (aC (aC (aC (aC aa (aC aa ak)) aa) ak) (aG aa (aC (aC aa ak) ak))) (az rR)) (ai (aF (aC (aC (aC (aC aa ak) aa) ak) aa)) aq)))))))
theorem wg (T:Txt K w mg fa):cv fa P w K mg base Hd "_law_open" kK jI:=fun _ _ _ _ _ _ _ _ C hr=>unbox (ai (aR (lY T.b7 (ae (dE aa cV (cN ak)) ao)) (az Cf)) (ai (gx PassesOwn.leaving (uv (dE aa (cN ak) (cN ak)) T.b3) (du Cf (.cons rfl (.inl rfl) (.inl rfl) (.cons rfl (.inl rfl) (.inl rfl) (.nil)))) (ai (gv aa (aC aa ak) (aC (aG aa (aC aa ak)) aa)) aq)) (ai (aF (bQ (ae aa (ae ak (ae ak ao))))) aq)))
theorem wt (T:Txt K w mg fa):cv fa P w K mg base Cb "_law_anew" kO jJ:=fun _ _ _ _ _ _ _ _ C hr=>unbox (ai (gv aa ak ak) (ai (aF aa) aq))
theorem wd (T:Txt K w mg fa):cv fa P w K mg base Hc "_law_take" kJ lV:=fun _ _ _ _ _ _ _ _ C hr=>have hu:=cK hr;unbox (ai (aY (bg hu (aG aa ak) aa) (ai (aR (aG aa ak) (az rQ)) (ai (aR ak (az rQ)) (ai (aY (bg hu aa (cz T.b6 (ae (aG aa ak) ao))) (ai (aR (aG (aG aa ak) aa) (az rQ)) aq) (ai (aY (bg hu (cz T.b6 (ae (aG aa ak) ao)) ak) (ai (aR (aC (aG (aG aa ak) (aC (aC (aC aa ak) ak) (cz T.b6 (ae (aG aa ak) ao)))) (aC (aC ak ak) aa)) (az rQ)) aq) aq) aq)) (ai (gv aa ak (aC aa ak)) (ai (gv aa ak (ay C hr T.f28 (ae aa (ae aa ao)))) aq))))) aq) (ai (aR (aC (aG aa ak) aa) (az rQ)) (ai (gv aa ak (aC (aG aa ak) aa)) (ai (aF aa) aq))))
theorem qv (T:Txt K w mg fa):cv fa P w K mg base ym "_law_sign_but" fY fv:=fun _ _ _ _ _ _ _ _ C hr=>have hu:=cK hr;unbox (ai (aR bI (az yt)) (ai (aR (aC aa bI) (az yt)) (ai (zb (bS (own:=["sign"]) (bn:=ym) (sc:=aT fY) (N:=ym) rfl rfl rfl (by decide +kernel)) (Bg aa) (fun cl C0 fp s0 H0=>az Mf) (fun cl C0 fp s0 H0=>bg hu aa aa) (fun cl C0 fp s0 H0=>aa) yt) (ai (aF (aG aa (ay C hr T.f31 (ae aa (ae (cz T.b6 (ae aa ao)) ao))))) aq))))
theorem qy (T:Txt K w mg fa):cv fa P w K mg base Cb "_law_any_sign" iN fw:=fun _ _ _ _ _ _ _ _ C hr=>unbox (ai (aF (ay C hr T.f64 (ae aa (ae bI ao)))) aq)
theorem tR (T:Txt K w mg fa):cv fa P w K mg base Hb "_law_signed" jz gE:=fun _ _ _ _ _ _ _ _ C hr=>unbox (ai (aR (ay C hr T.f31 (ae aa (ae (aC (cz T.b6 (ae aa ao)) ak) ao))) (az Hu)) (ai (aF (aC (aC (wB aa cV (cN aa)) (ay C hr T.f65 (ae aa ao))) (wB aa (cN (aC aa (ay C hr T.f31 (ae aa (ae ak ao))))) cV))) aq))
theorem qx (T:Txt K w mg fa):cv fa P w K mg base vk "_law_is_whole" iM jn:=fun _ _ _ _ _ _ _ _ C hr=>unbox (ai (aF (ez (bU aa T.b5 T.b4 boot_int) (fg (Fy (bU aa T.b5 T.b2 boot_bool))))) aq)
theorem we (T:Txt K w mg fa):cv fa P w K mg base yk "_law_same" i5 dm:=fun _ _ _ _ _ _ _ _ C hr=>have hu:=cK hr;unbox (ai (aY (bg hu aa fh) (ai (aF (eh hu aa fh)) aq) aq) (ai (aY (eU (eE (bK (bU aa T.b5 T.b2 boot_bool)) (dY (bK (bU aa T.b5 T.b2 boot_bool))))) (ai (aF (ez (bU aa T.b5 T.b2 boot_bool) (ez (bU aa T.b5 T.b2 boot_bool) (fg (eh hu aa aa))))) aq) aq) (ai (aY (bK (bU aa T.b5 T.b4 boot_int)) (ai (aF (ez (bU aa T.b5 T.b4 boot_int) (fg (eh hu aa aa)))) aq) aq) (ai (aY (bK (bU aa T.b5 T.b9 boot_str)) (ai (aF (ez (bU aa T.b5 T.b9 boot_str) (fg (eh hu aa aa)))) aq) aq) (ai (aY (eU (eE (bg hu (bU aa T.b5 T.b10 boot_tuple) (bU aa T.b5 T.b10 boot_tuple)) (dY (bg hu (bU aa T.b5 T.b7 boot_list) (bU aa T.b5 T.b7 boot_list))))) (ai (aF cj) aq) aq) (ai (aY (bg hu (cz T.b6 (ae aa ao)) (cz T.b6 (ae aa ao))) (ai (aF cj) aq) aq) (ai (aF (eh hu cj (dQ (bS (own:=["one" ,"other"]) (bn:=yk) (sc:=aT i5) (N:=yk) rfl rfl rfl (by decide +kernel)) (pq aa aa T.b11) (fun cl C0 fp s0 H0=>du Md (.cons rfl (.inl rfl) (.inr rfl) (.cons rfl (.inl rfl) (.inr rfl) (.nil)))) (fun cl C0 fp s0 H0=>ay C hr T.f40 (ae aa (ae aa ao)))))) aq)))))))
theorem xY (T:Txt K w mg fa):cv fa P w K mg base nO "_law_tab" gJ jm:=fun _ _ _ _ _ _ _ _ C hr=>have hu:=cK hr;unbox (ai (aR (ay C hr T.f31 (ae aa (ae ak ao))) (az vt)) (ai (aR (ay C hr T.f31 (ae aa (ae aa ao))) (az vt)) (ai (aR (ay C hr T.f31 (ae aa (ae aa ao))) (az vt)) (ai (aY (bg hu aa ak) (ai (aF (eT T.b10 (ae (dQ (bS (own:=["k"]) (bn:=nO) (sc:=aT gJ) (N:=nO) rfl rfl rfl (by decide +kernel)) (ee aa T.b8) (fun cl C0 fp s0 H0=>az Ce) (fun cl C0 fp s0 H0=>ay C hr T.f31 (ae aa (ae aa ao)))) ao))) aq) aq) (ai (aY (bg hu aa ak) (ai (aF (eT T.b10 (ae (dQ (bS (own:=["k"]) (bn:=nO) (sc:=aT gJ) (N:=nO) rfl rfl rfl (by decide +kernel)) (ee aa T.b8) (fun cl C0 fp s0 H0=>az Ce) (fun cl C0 fp s0 H0=>aC (aC (aC aa ak) aa) aa)) ao))) aq) aq) (ai (aY (bg hu aa ak) (ai (aF (eT T.b10 (ae (dQ (bS (own:=["k"]) (bn:=nO) (sc:=aT gJ) (N:=nO) rfl rfl rfl (by decide +kernel)) (ee aa T.b8) (fun cl C0 fp s0 H0=>az Ce) (fun cl C0 fp s0 H0=>pZ (bg hu aa aa) aa aa)) ao))) aq) aq) (ai (aY (bg hu aa ak) (ai (aF (aC (cm (ae aa ao)) aa)) aq) aq) (ai (aR (Bc aa T.b7 T.b8) (az vt)) (ai (gv aa aa aa) (ai (gv aa aa aa) (ai (aF (eT T.b10 (ae aa ao))) aq)))))))))))
theorem wo (T:Txt K w mg fa):cv fa P w K mg base yj "_law_deed" ja iB:=fun _ _ _ _ _ _ _ _ C hr=>have hu:=cK hr;unbox (ai (aR (ay C hr T.f31 (ae aa (ae ak ao))) (az vq)) (ai (aR (aC ak (ay C hr T.f31 (ae aa (ae ak ao)))) (az vq)) (ai (aR (ay C hr T.f31 (ae aa (ae aa ao))) (az vq)) (ai (aR (ay C hr T.f31 (ae aa (ae aa ao))) (az vq)) (ai (aY (bg hu aa ak) (ai (aF (cm (ae bI (ae aa (ae (ay C hr T.f32 (ae aa (ae aa ao))) (ae aa ao)))))) aq) aq) (ai (aY (bg hu aa ak) (ai (aF (cm (ae bI (ae aa (ae (pZ (bg hu aa ak) (aC (aC aa ak) aa) aa) (ae aa ao)))))) aq) aq) (ai (aY (bg hu aa ak) (ai (aF (cm (ae bI (ae aa (ae (ay C hr T.f31 (ae aa (ae aa ao))) (ae aa ao)))))) aq) aq) (ai (aF (cm (ae bI (ae aa (ae aa (ae (eT T.b10 (ae (dQ (bS (own:=["k"]) (bn:=yj) (sc:=aT ja) (N:=yj) rfl rfl rfl (by decide +kernel)) (ee aa T.b8) (fun cl C0 fp s0 H0=>az Mc) (fun cl C0 fp s0 H0=>ay C hr T.f32 (ae aa (ae aa ao)))) ao)) (ae aa ao))))))) aq))))))))
theorem rK (T:Txt K w mg fa):cv fa P w K mg base Ha "_law_machine" i8 fV:=fun _ _ _ _ _ _ _ _ C hr=>have hu:=cK hr;unbox (ai (aR (aC ak (ay C hr T.f31 (ae aa (ae (aC aa ak) ao)))) (az nQ)) (ai (aR (aC ak (ay C hr T.f31 (ae aa (ae aa ao)))) (az nQ)) (ai (aR (bQ ao) (az nQ)) (ai (gx PassesOwn.leaving (ee (aC ak (ay C hr T.f31 (ae aa (ae aa ao)))) T.b8) (az nQ) (ai (aR (ay C hr T.f31 (ae aa (ae ak ao))) (az nQ)) (ai (aR (ay C hr T.f33 (ae aa (ae aa (ae aa ao)))) (az nQ)) (ai (aY (eU (jL (bg hu aa ak) (ko (bg hu aa (bQ ao))))) (ai (aR (aC (dE (aG aa (ay C hr T.f31 (ae aa (ae (cz T.b6 (ae aa ao)) ao)))) cV (cN (fL ak))) (cm (ae (aG aa (fL ak)) ao))) (az nQ)) aq) aq) (ai (uq aa aa) aq))))) (ai (aF (cm (ae aa (ae aa (ae (eT T.b10 (ae aa ao)) ao))))) aq)))))
theorem xZ (T:Txt K w mg fa):cv fa P w K mg base yi "_law_row" jF ik:=fun _ _ _ _ _ _ _ _ C hr=>have hu:=cK hr;unbox (ai (aR (ay C hr T.f31 (ae aa (ae ak ao))) (az vp)) (ai (aR (pZ (bg hu aa ak) aa (ay C hr T.f31 (ae aa (ae (aC aa ak) ao)))) (az vp)) (ai (mz (bS (own:=["k"]) (bn:=yi) (sc:=aT jF) (N:=yi) rfl rfl rfl (by decide +kernel)) (ee aa T.b8) (fun cl C0 fp s0 H0=>az Mb) (fun cl C0 fp s0 H0=>ay C hr T.f31 (ae aa (ae (cz T.b6 (ae (aG aa ak) ao)) ao))) vp) (ai (aY (bg hu aa ak) (ai (aR (dE (aC (dE aa cV (cN ak)) aa) cV (cN aa)) (az vp)) aq) aq) (ai (aF aa) aq)))))
theorem ve (T:Txt K w mg fa):cv fa P w K mg base G9 "_law_after" jX jo:=fun _ _ _ _ _ _ _ _ C hr=>have hu:=cK hr;unbox (ai (aR (lY T.b7 (ae aa ao)) (az Cd)) (ai (aR (aG aa (aG aa ak)) (az Cd)) (ai (aY (bg hu (aG aa ak) bI) (ai (gv aa (aG aa ak) (aG (aG aa ak) aa)) aq) aq) (ai (aY (bg hu (aG aa ak) bI) (ai (gv aa (aG aa ak) (aG (aG (aG aa ak) aa) (aG aa (aG aa ak)))) aq) aq) (ai (aY (bg hu (aG aa ak) bI) (ai (gv aa (aG aa ak) (aG aa (aG aa ak))) aq) aq) (ai (aY (bg hu (aG aa ak) bI) (ai (gv aa (aG aa ak) (aG aa ak)) aq) aq) (ai (aF (eT T.b10 (ae aa ao))) aq)))))))
theorem tS (T:Txt K w mg fa):cv fa P w K mg base rN "_law_begins" fM iI:=fun _ _ _ _ _ _ _ _ C hr=>have hu:=cK hr;unbox (ai (aY (bg hu (aG aa ak) ak) (ai (aF (dQ (bS (own:=["word"]) (bn:=rN) (sc:=aT fM) (N:=rN) rfl rfl rfl (by decide +kernel)) (ee (aG aa ak) T.b8) (fun cl C0 fp s0 H0=>az L8) (fun cl C0 fp s0 H0=>cm (ae aa ao)))) aq) aq) (ai (aF (dQ (bS (own:=["k"]) (bn:=rN) (sc:=aT fM) (N:=rN) rfl rfl rfl (by decide +kernel)) (ee (aC (aG aa ak) (aG aa ak)) T.b8) (fun cl C0 fp s0 H0=>az L9) (fun cl C0 fp s0 H0=>cm (ae (aC aa (aG aa ak)) (ae (aC aa (aG aa ak)) ao))))) aq))
theorem wj (T:Txt K w mg fa):cv fa P w K mg base G8 "_law_ends" kL fD:=fun _ _ _ _ _ _ _ _ C hr=>unbox (ai (aR (bQ ao) (az vo)) (ai (gx PassesOwn.leaving (dg (ay C hr T.f42 (ae aa ao))) (az vo) (ai (gx PassesOwn.leaving (dg aa) (az vo) (ai (aR (ay C hr T.f41 (ae (aG (aG aa ak) aa) (ae aa ao))) (az vo)) aq)) (ai (uq aa aa) aq))) (ai (aF (eT T.b10 (ae aa ao))) aq)))
theorem vd (T:Txt K w mg fa):cv fa P w K mg base Hr "_law_is_in" jW lr:=fun _ _ _ _ _ _ _ _ C hr=>have hu:=cK hr;unbox (ai (aF (ez (ay C hr T.f67 (ae aa ao)) (fg (zc hu aa aa aa)))) aq)
theorem rH (T:Txt K w mg fa):cv fa P w K mg base yh "_law_numbers" gU ip:=fun _ _ _ _ _ _ _ _ C hr=>have hu:=cK hr;unbox (ai (aY (eU (eE (bV (bK (bU aa T.b5 T.b10 boot_tuple))) (dY (bg hu (cz T.b6 (ae aa ao)) aa)))) (ai (aF cj) aq) aq) (ai (aF (eh hu (lu (bS (own:=["one"]) (bn:=yh) (sc:=aT gU) (N:=yh) rfl rfl rfl (by decide +kernel)) (dg aa) (fun cl C0 fp s0 H0=>az L6) (fun cl C0 fp s0 H0=>bV (bK (ay C hr T.f68 (ae aa (ae aa (ae aa ao)))))) (fun cl C0 fp s0 H0=>ak)) (bQ ao))) aq))
theorem rL (T:Txt K w mg fa):cv fa P w K mg base yg "_law_is_deed" gV bC:=fun _ _ _ _ _ _ _ _ C hr=>have hu:=cK hr;unbox (ai (aY (eU (eE (bV (bK (bU aa T.b5 T.b10 boot_tuple))) (dY (bg hu (cz T.b6 (ae aa ao)) (cm (ae ak (ae ak ao))))))) (ai (aF cj) aq) aq) (ai (aY (eU (eE (bg hu (aG aa ak) (cm (ae bI (ae bI (ae bI (ae bI ao)))))) (dY (bg hu (eh hu (cz T.b6 (ae aa ao)) ak) (eh hu (aG aa ak) bI))))) (ai (aF cj) aq) aq) (ai (aY (eU (eE (bV (bK (ay C hr T.f69 (ae (cm (ae (aG aa ak) ao)) (ae ak (ae ak (ae (aC aa ak) ao))))))) (dY (bV (bK (ay C hr T.f68 (ae (aG aa (fL ak)) (ae ak (ae ak ao))))))))) (ai (aF cj) aq) aq) (ai (aY (bg hu (aG aa ak) bI) (ai (aF (ay C hr T.f69 (ae (aG aa ak) (ae aa (ae ak (ae (aC aa ak) ao)))))) aq) aq) (ai (aY (bg hu (aG aa ak) bI) (ai (aF (ay C hr T.f68 (ae (aG aa ak) (ae ak (ae (aC aa ak) ao))))) aq) aq) (ai (aY (bV (bK (ay C hr T.f68 (ae (aG aa ak) (ae ak (ae (aC aa ak) ao)))))) (ai (aF cj) aq) aq) (ai (aY (bg hu (aG aa ak) bI) (ai (aF cj) aq) aq) (ai (aY (eU (eE (bV (bK (bU (aG aa ak) T.b5 T.b10 boot_tuple))) (dY (bg hu (cz T.b6 (ae (aG aa ak) ao)) aa)))) (ai (aF cj) aq) aq) (ai (aF (eh hu (lu (bS (own:=["one"]) (bn:=yg) (sc:=aT gV) (N:=yg) rfl rfl rfl (by decide +kernel)) (dg (aG aa ak)) (fun cl C0 fp s0 H0=>az LZ) (fun cl C0 fp s0 H0=>bV (bK (ay C hr T.f69 (ae aa (ae aa (ae ak (ae (aC aa ak) ao))))))) (fun cl C0 fp s0 H0=>ak)) (bQ ao))) aq)))))))))
theorem oW (T:Txt K w mg fa):cv fa P w K mg base vk "_law_is_machine" fk eC:=fun _ _ _ _ _ _ _ _ C hr=>have hu:=cK hr;unbox (ai (aY (eU (eE (bV (bK (bU aa T.b5 T.b10 boot_tuple))) (eE (bg hu (cz T.b6 (ae aa ao)) ak) (dY (bV (bK (ay C hr T.f68 (ae (aG aa ak) (ae ak (ae ak ao)))))))))) (ai (aF cj) aq) aq) (ai (aY (eU (eE (bV (bK (ay C hr T.f68 (ae (aG aa ak) (ae ak (ae ak ao)))))) (eE (bV (bK (bU (aG aa ak) T.b5 T.b10 boot_tuple))) (dY (bV (zd hu ak (cz T.b6 (ae (aG aa ak) ao)) ak)))))) (ai (aF cj) aq) aq) (ai (aF (eh hu (lu (bS (own:=["deed"]) (bn:=vk) (sc:=aT fk) (N:=vk) rfl rfl rfl (by decide +kernel)) (dg (aG aa ak)) (fun cl C0 fp s0 H0=>az LY) (fun cl C0 fp s0 H0=>bV (bK (ay C hr T.f70 (ae aa (ae (aG aa ak) (ae (aG aa ak) ao)))))) (fun cl C0 fp s0 H0=>ak)) (bQ ao))) aq)))
theorem wq (T:Txt K w mg fa):cv fa P w K mg base G7 "_law_bent" kN lW:=fun _ _ _ _ _ _ _ _ C hr=>have hu:=cK hr;unbox (ai (aR (ay C hr T.f31 (ae aa (ae ak ao))) (az nP)) (ai (aR (ay C hr T.f31 (ae aa (ae ak ao))) (az nP)) (ai (aR (aC (ay C hr T.f31 (ae aa (ae ak ao))) ak) (az nP)) (ai (aY (eU (jL (bK (bU aa T.b5 T.b10 boot_tuple)) (jL (bg hu aa (cm ao)) (jL (bg hu aa ak) (ko (bg hu aa ak)))))) (ai (aR (ay C hr T.f31 (ae aa (ae (cz T.b6 (ae aa ao)) ao))) (az nP)) (ai (aF (aC (aC (dE aa cV (cN aa)) (cm (ae (ay C hr T.f72 (ae aa (ae (aG aa aa) (ae (aC aa ak) ao)))) ao))) (dE aa (cN (aC aa ak)) cV))) aq)) aq) (ai (aR (bQ (ae fh (ae cj (ae cj (ae bI (ae bI (ae bI (ae bI (ae bI (ae bI (ae (cm ao) (ae (bQ ao) (ae (aC ak ak) (ae (fL ak) (ae ak ao))))))))))))))) (az nP)) (ai (aR (aC aa (bQ (ae ak (ae ak (ae (cm (ae ak ao)) (ae (bQ (ae ak ao)) (ae bI (ae ak ao)))))))) (az nP)) (ai (aY (bK (bU aa T.b5 T.b10 boot_tuple)) (ai (aR (bQ (ae (lY T.b7 (ae aa ao)) (ae (aC aa (dE aa cV (cN ak))) (ae (dE aa cV (cN (fL ak))) (ae (Fw aa) (ae (aC aa (cm (ae aa ao))) (ae (dE aa (cN ak) cV) (ae (cm (ae aa ao)) ao)))))))) (az nP)) (ai (aF (aG (aC aa (bQ (ae (aG aa aa) ao))) aa)) aq)) aq) (ai (aY (bK (ay C hr T.f67 (ae aa ao))) (ai (aF (aG (bQ (ae (aC aa ak) (ae (aC aa ak) (ae (aC ak aa) (ae aa (ae aa (ae (eh hu aa ak) (ae (aC ak aa) (ae (aG aa aa) ao))))))))) aa)) aq) aq) (ai (aY (eU (jL (bK (bU aa T.b5 T.b9 boot_str)) (ko (bg hu aa ak)))) (ai (aF (ay C hr T.f66 (ae aa (ae aa ao)))) aq) aq) (ai (aF (aG aa aa)) aq))))))))))
theorem tP (T:Txt K w mg fa):cv fa P w K mg base nN "_law_wanted" eQ ff:=fun _ _ _ _ _ _ _ _ C hr=>have hu:=cK hr;unbox (ai (aR (ay C hr T.f31 (ae aa (ae ak ao))) (az mS)) (ai (aR (ay C hr T.f31 (ae aa (ae ak ao))) (az mS)) (ai (aR (ay C hr T.f42 (ae aa ao)) (az mS)) (ai (aR (ay C hr T.f44 (ae aa (ae (ay C hr T.f35 (ae aa (ae aa (ae ak ao)))) ao))) (az mS)) (ai (mz (bS (own:=["end"]) (bn:=nN) (sc:=aT eQ) (N:=nN) rfl rfl rfl (by decide +kernel)) (dg aa) (fun cl C0 fp s0 H0=>az Ht) (fun cl C0 fp s0 H0=>aG aa ak) mS) (ai (aY (bg hu aa ak) (ai (mz (bS (own:=["end"]) (bn:=nN) (sc:=aT eQ) (N:=nN) rfl rfl rfl (by decide +kernel)) (dg aa) (fun cl C0 fp s0 H0=>az Ht) (fun cl C0 fp s0 H0=>ay C hr T.f31 (ae aa (ae (aG aa ak) ao))) mS) aq) aq) (ai (aR (ay C hr T.f31 (ae aa (ae (cz T.b6 (ae aa ao)) ao))) (az mS)) (ai (aY (bg hu aa ak) (ai (gv aa aa (ay C hr T.f31 (ae aa (ae (aG aa ak) ao)))) aq) aq) (ai (aY (bg hu aa ak) (ai (mz (bS (own:=["word"]) (bn:=nN) (sc:=aT eQ) (N:=nN) rfl rfl rfl (by decide +kernel)) (dg aa) (fun cl C0 fp s0 H0=>az LX) (fun cl C0 fp s0 H0=>pZ (bg hu (ay C hr T.f31 (ae aa (ae (aC ak aa) ao))) ak) fh aa) mS) aq) aq) (ai (aF (eT T.b10 (ae aa ao))) aq))))))))))
theorem wm (T:Txt K w mg fa):cv fa P w K mg base yf "_law_does" i9 gM:=fun _ _ _ _ _ _ _ _ C hr=>have hu:=cK hr;unbox (ai (aF (eh hu (lu (bS (own:=["end" ,"word"]) (bn:=yf) (sc:=aT i9) (N:=yf) rfl rfl rfl (by decide +kernel)) (pq aa aa T.b11) (fun cl C0 fp s0 H0=>du LV (.cons rfl (.inl rfl) (.inr rfl) (.cons rfl (.inl rfl) (.inr rfl) (.nil)))) (fun cl C0 fp s0 H0=>eU (jL (bg hu aa fh) (ko (bg hu (aG aa ak) aa)))) (fun cl C0 fp s0 H0=>ak)) (bQ ao))) aq)
theorem rJ (T:Txt K w mg fa):cv fa P w K mg base G6 "_law_no_work" i7 eR:=fun _ _ _ _ _ _ _ _ C hr=>have hu:=cK hr;unbox (ai (aR (ay C hr T.f31 (ae aa (ae ak ao))) (az yr)) (ai (aR (ay C hr T.f31 (ae aa (ae (cz T.b6 (ae aa ao)) ao))) (az yr)) (ai (aR (aG (bQ (ae (aG aa ak) (ae (fL ak) (ae cj (ae cj (ae bI (ae (cm (ae ak ao)) (ae (bQ ao) (ae (aC ak ak) (ae (aC ak (aG aa ak)) ao)))))))))) (ay C hr T.f31 (ae aa (ae ak ao)))) (az yr)) (ai (aY (bg hu aa ak) (ai (aF (aC (aC (dE aa cV (cN aa)) (cm (ae aa ao))) (dE aa (cN (aC aa ak)) cV))) aq) aq) (ai (aF (aG (bQ (ae (dE aa cV (cN (fL ak))) (ae (aC aa (dE aa cV (cN ak))) (ae (lY T.b7 (ae aa ao)) ao)))) (aC aa ak))) aq)))))
theorem wc (T:Txt K w mg fa):cv fa P w K mg base G5 "_law_told" kI dz:=fun _ _ _ _ _ _ _ _ C hr=>have hu:=cK hr;unbox (ai (aR bI (az pO)) (ai (Fv T.xc T.k_DeedError pO (fun pn Ex=>ai (DH (Ft (bg hu aa fh) (ib C hr T.f80 (ae aa (ae aa ao))) (ib C hr T.f82 (ae aa (ae aa (ae aa ao))))) (az pO)) aq) (fun vx Ex=>ai (aR (bQ (ae (mB T.xc T.k_NoMachine aa T.b5) (ae (mB T.xc T.k_NoRow aa T.b5) (ae (mB T.xc T.k_TooLong aa T.b5) (ae (mB T.xc T.k_NoWork aa T.b5) ao))))) (az pO)) (ai (aY (eU (jL (bg hu (DK aa) ak) (ko (bK (Bd T.xc aa T.b5 T.b0))))) (ai (aR (aG (bQ (ae bI (ae bI (ae bI (ae bI ao))))) (DJ aa)) (az pO)) (ai (aY (bg hu aa bI) (ai (aR (bQ (ae aa (ae (Be T.xc T.xf_place aa) ao))) (az pO)) aq) aq) aq)) aq) aq))) (ai (aF aa) aq)))
theorem rG (T:Txt K w mg fa):cv fa P w K mg base G4 "_law_refused" i6 fU:=fun _ _ _ _ _ _ _ _ C hr=>have hu:=cK hr;unbox (ai (aR (ay C hr T.f85 (ae aa (ae aa (ae aa ao)))) (az mR)) (ai (aR (ay C hr T.f72 (ae aa (ae aa (ae ak ao)))) (az mR)) (ai (aY (eU (eE (bg hu (ay C hr T.f86 (ae aa (ae fh (ae aa ao)))) bI) (dY (bg hu (ay C hr T.f86 (ae aa (ae aa (ae aa ao)))) bI)))) (ai (aF cj) aq) aq) (ai (gx PassesOwn.leaving (dg (bQ (ae (cm (ae fh (ae aa ao))) (ae (cm (ae (bQ (ae (fL ak) ao)) (ae aa ao))) (ae (cm (ae fh (ae aa ao))) (ae (cm (ae (bQ ao) (ae aa ao))) ao)))))) (du mR (.cons rfl (.inl rfl) (.inl rfl) (.cons rfl (.inl rfl) (.inl rfl) (.nil)))) (ai (aY (eU (jL (bV (bK (ay C hr T.f71 (ae aa ao)))) (ko (bg hu (ay C hr T.f86 (ae aa (ae aa (ae aa ao)))) bI)))) (ai (aF cj) aq) aq) aq)) (ai (aR (ay C hr T.f31 (ae aa (ae (aC (cz T.b6 (ae aa ao)) ak) ao))) (az mR)) (ai (aR (aG (bQ (ae ak (ae (fL ak) (ae cj (ae fh (ae bI (ae (bQ (ae ak ao)) (ae (aC ak ak) ao)))))))) (ay C hr T.f31 (ae aa (ae ak ao)))) (az mR)) (ai (gx PassesOwn.leaving (dg (bQ (ae aa (ae aa ao)))) (az mR) (ai (aR (bQ (ae (cm (ae (aC (aC (aC (dE aa cV (cN aa)) (bQ (ae aa ao))) (dE aa (cN aa) cV)) (bQ (ae (fL ak) ao))) (ae aa ao))) (ae (cm (ae (aC (aC (bQ (ae ak ao)) ak) (bQ (ae (fL ak) ao))) (ae ak ao))) (ae (cm (ae (eT T.b10 (ae aa ao)) (ae ak ao))) (ae (cm (ae bI (ae ak ao))) ao))))) (az mR)) (ai (gx PassesOwn.leaving (dg aa) (du mR (.cons rfl (.inl rfl) (.inl rfl) (.cons rfl (.inl rfl) (.inl rfl) (.nil)))) (ai (aY (bV (bK (ay C hr T.f40 (ae (ay C hr T.f86 (ae aa (ae aa (ae aa ao)))) (ae (bQ (ae bI (ae aa ao))) ao))))) (ai (aF cj) aq) aq) aq)) (ai (aY (bg hu (ay C hr T.f86 (ae aa (ae (aC (bQ (ae ak ao)) ak) (ae aa ao)))) bI) (ai (aF cj) aq) aq) aq)))) (ai (aF cj) aq))))))))
theorem Dh (T:Txt K w mg fa):cv fa P w K mg base G3 "law" uI mr:=fun _ _ _ _ _ _ _ _ C hr=>have hu:=cK hr;unbox (ai (aR (ay C hr T.f29 (ae aa ao)) (az lR)) (ai (gx PassesOwn.leaving (ee ak T.b8) (az lR) (ai (aR (ay C hr T.f34 (ae (ay C hr T.f30 (ae aa ao)) (ae ak (ae ak (ae ak ao))))) (az lR)) (ai (gx PassesOwn.leaving (ee ak T.b8) (az lR) (ai (aR (ay C hr T.f83 (ae aa (ae aa ao))) (az lR)) (ai (aR (ay C hr T.f35 (ae aa (ae aa (ae (aG (bQ (ae ak (ae ak (ae ak (ae ak ao))))) aa) ao)))) (az lR)) (ai (aR (lY T.b7 (ae aa ao)) (az lR)) (ai (aR (ay C hr T.f86 (ae aa (ae aa (ae aa ao)))) (az lR)) (ai (aY (eU (eE (bV (bK (ay C hr T.f40 (ae aa (ae (ay C hr T.f84 (ae (ay C hr T.f44 (ae aa (ae aa ao))) (ae aa ao))) ao))))) (dY (bg hu aa aa)))) (ai (aF cj) aq) aq) (ai (aY (bg hu (ay C hr T.f86 (ae aa (ae fh (ae aa ao)))) fh) (ai (aF cj) aq) aq) aq))))))) (ai (aY (bV (bK (ay C hr T.f87 (ae aa (ae aa (ae aa (ae aa ao))))))) (ai (aF cj) aq) aq) aq)))) (ai (aF cj) aq)))
end
end K20
namespace K20
open PySem PySem.Spec PyProof.Rows L2 LD
theorem Cq:∀ns:List Int,ns.length<=63->∃M,aw Pg 40 88 [.frz (ns.map D.int)] []=.ok (.bl true) M:=JN (by repeat' (first|rfl|constructor))
abbrev qB:Str:="leastdeeds.machines"
abbrev qC:Str:="leastdeeds.runs"
abbrev qE:Str:="leastdeeds.works"
abbrev se (l:List (Nat×Addr)):Fa:=LD.AO l [(0,44),(3,56),(4,68),(6,80)] 24
abbrev Fu (K:PySem.W.Frag)(x:Str)(st:Stmt)(f:Addr)(fd:FuncData):Prop:=pe K x x st f fd
section
variable {P:Program}{w:World}{K:PySem.W.Frag}{mg:Str->Option Value}{base:Heap}{f0 f1 f2 f3 f4 f5 f6 f7 f8 f9 f10 f11 f12 f13 f15 f16 f17 f18 f20 f21 f22 f23 f24 f25 f46 f27 f79 f80 f81 f82 f28 f29 f30 f31 f64 f65 f66 f67 f40 f32 f33 f34 f35 f41 f42 f44 f68 f69 f70 f71 f72 f83 f84 f85 f86 f87 f88:Addr}{fd0 fd1 fd2 fd3 fd4 fd5 fd6 fd7 fd8 fd9 fd10 fd11 fd12 fd13 fd15 fd16 fd17 fd18 fd20 fd21 fd22 fd23 fd24 fd25 fd46 fd27 fd79 fd80 fd81 fd82 fd28 fd29 fd30 fd31 fd64 fd65 fd66 fd67 fd40 fd32 fd33 fd34 fd35 fd41 fd42 fd44 fd68 fd69 fd70 fd71 fd72 fd83 fd84 fd85 fd86 fd87 fd88:FuncData}
theorem K9 {F:FuncData}{z:List Str}(h:∀a:Value,bindArgs F ⟨[a],[]⟩=pure (z.zip [a])):∀us:List Value,us.length=1->bindArgs F ⟨us,[]⟩=pure (z.zip us):=LD.us1 h
theorem K8 {F:FuncData}{z:List Str}(h:∀a b:Value,bindArgs F ⟨[a,b],[]⟩=pure (z.zip [a,b])):∀us:List Value,us.length=2->bindArgs F ⟨us,[]⟩=pure (z.zip us):=LD.Kq h
theorem K5 {F:FuncData}{z:List Str}(h:∀a b c:Value,bindArgs F ⟨[a,b,c],[]⟩=pure (z.zip [a,b,c])):∀us:List Value,us.length=3->bindArgs F ⟨us,[]⟩=pure (z.zip us):=LD.us3 h
theorem K1 {F:FuncData}{z:List Str}(h:∀a b c d:Value,bindArgs F ⟨[a,b,c,d],[]⟩=pure (z.zip [a,b,c,d])):∀us:List Value,us.length=4->bindArgs F ⟨us,[]⟩=pure (z.zip us):=LD.us4 h
theorem cA {h:Heap}(x:Str)(st:Stmt)(f c:Addr)(pm:Str)(t:Tok)(X:K.In h)(G:h.Ns mainGlobals mg)(a:PySem.W.nsIn K mainGlobals x=some (some (.ref f)):=by kernel_rfl)(l:K.lookup f=some ⟨.type "function",none,.func (PySem.W.fnOf x x (gK st) (dH st) (aT st) .none .none .none (.str pm t) none (.ref c) .none),#[]⟩:=by kernel_rfl)(e:PySem.W.codeIn K (.ref c) x=true:=by kernel_rfl)(k:PySem.W.keepIn K (.ref f)=true:=by kernel_rfl):∃f fd,mg x=some (.ref f)/\Fu K x st f fd:=LD.JL X G a l e k
theorem cB {k i j:Nat}{b:Call->GS}{ns:List Str}{st:Stmt}{x:Str}{fa:Fa}{f:Addr}{fd:FuncData}(F:pe K x x st f fd)(p:cv fa P w K mg base ns x st b)(sc:iq ns (ns.take i) (aT st))(hb:∀(kV doc pm:Value) (an:Option Addr) (cdv ct:Value) (us:List Value),us.length=(ns.take i).length->bindArgs (PySem.W.fnOf x x (gK st) (dH st) (aT st) .none kV doc pm an cdv ct) ⟨us,[]⟩=pure ((ns.take i).zip us):=by intro _ _ _ _ _ _;first|exact K9 fun _=>rfl|exact K8 fun _ _=>rfl|exact K5 fun _ _ _=>rfl|exact K1 fun _ _ _ _=>rfl)(hf:fa k=some f:=by exact rfl)(h1:i=(ns.take i).length:=by exact rfl)(h2:j=ns.length:=by exact rfl):uk fa P w K mg base k ⟨i,j,b⟩:=⟨f,fd,ns.take i,ns,st,x,x,hf,F,F.binds hb,sc,h1,h2,@p _⟩
set_option maxHeartbeats 0 in
theorem Fb (F0:Fu K "is_between" jV f0 fd0)(F1:Fu K "is_word" mH f1 fd1)(F2:Fu K "is_place" lP f2 fd2)(F3:Fu K "is_cost" mM f3 fd3)(F4:Fu K "is_tuple_of" jx f4 fd4)(F5:Fu K "is_table" jE f5 fd5)(F6:Fu K "is_double_table" fj f6 fd6)(F7:Fu K "is_turn" mI f7 fd7)(F8:Fu K "is_join" mK f8 fd8)(F9:Fu K "is_move" mJ f9 fd9)(F10:Fu K "is_put" nF f10 fd10)(F11:Fu K "is_deed" mL f11 fd11)(F12:Fu K "is_machine" iE f12 fd12)(F13:Fu K "need_machine" iZ f13 fd13)(F15:Fu K "beginnings" iF f15 fd15)(F16:Fu K "is_deed_number" iu f16 fd16)(F17:Fu K "need_numbers" iY f17 fd17)(F18:Fu K "need_row" lO f18 fd18)(F20:Fu K "turned" nA f20 fd20)(F21:Fu K "joined" nE f21 fd21)(F22:Fu K "moved" pA f22 fd22)(F23:Fu K "put_in" nB f23 fd23)(F24:Fu K "done" rk f24 fd24)(F25:Fu K "all_standing" i4 f25 fd25)(F46:Fu K "ends_of" j8 f46 fd46)(F27:Fu K "behaviour" kF f27 fd27)(F79:Fu K "is_work" j7 f79 fd79)(F80:Fu K "need_work" kC f80 fd80)(F81:Fu K "ends_do" j9 f81 fd81)(F82:Fu K "does_work" kD f82 fd82)(F28:Fu K "_law_spread" jy f28 fd28)(F29:Fu K "_law_open" kK f29 fd29)(F30:Fu K "_law_anew" kO f30 fd30)(F31:Fu K "_law_take" kJ f31 fd31)(F64:Fu K "_law_sign_but" fY f64 fd64)(F65:Fu K "_law_any_sign" iN f65 fd65)(F66:Fu K "_law_signed" jz f66 fd66)(F67:Fu K "_law_is_whole" iM f67 fd67)(F40:Fu K "_law_same" i5 f40 fd40)(F32:Fu K "_law_tab" gJ f32 fd32)(F33:Fu K "_law_deed" ja f33 fd33)(F34:Fu K "_law_machine" i8 f34 fd34)(F35:Fu K "_law_row" jF f35 fd35)(F41:Fu K "_law_after" jX f41 fd41)(F42:Fu K "_law_begins" fM f42 fd42)(F44:Fu K "_law_ends" kL f44 fd44)(F68:Fu K "_law_is_in" jW f68 fd68)(F69:Fu K "_law_numbers" gU f69 fd69)(F70:Fu K "_law_is_deed" gV f70 fd70)(F71:Fu K "_law_is_machine" fk f71 fd71)(F72:Fu K "_law_bent" kN f72 fd72)(F83:Fu K "_law_wanted" eQ f83 fd83)(F84:Fu K "_law_does" i9 f84 fd84)(F85:Fu K "_law_no_work" i7 f85 fd85)(F86:Fu K "_law_told" kI f86 fd86)(F87:Fu K "_law_refused" i6 f87 fd87)(F88:Fu K "law" uI f88 fd88)(T:Txt K w mg (se [(0,f0),(1,f1),(2,f2),(3,f3),(4,f4),(5,f5),(6,f6),(7,f7),(8,f8),(9,f9),(10,f10),(11,f11),(12,f12),(13,f13),(15,f15),(16,f16),(17,f17),(18,f18),(20,f20),(21,f21),(22,f22),(23,f23),(24,f24),(25,f25),(46,f46),(27,f27),(79,f79),(80,f80),(81,f81),(82,f82),(28,f28),(29,f29),(30,f30),(31,f31),(64,f64),(65,f65),(66,f66),(67,f67),(40,f40),(32,f32),(33,f33),(34,f34),(35,f35),(41,f41),(42,f42),(44,f44),(68,f68),(69,f69),(70,f70),(71,f71),(72,f72),(83,f83),(84,f84),(85,f85),(86,f86),(87,f87),(88,f88)])):∀f d,Pg f=some d->uk (se [(0,f0),(1,f1),(2,f2),(3,f3),(4,f4),(5,f5),(6,f6),(7,f7),(8,f8),(9,f9),(10,f10),(11,f11),(12,f12),(13,f13),(15,f15),(16,f16),(17,f17),(18,f18),(20,f20),(21,f21),(22,f22),(23,f23),(24,f24),(25,f25),(46,f46),(27,f27),(79,f79),(80,f80),(81,f81),(82,f82),(28,f28),(29,f29),(30,f30),(31,f31),(64,f64),(65,f65),(66,f66),(67,f67),(40,f40),(32,f32),(33,f33),(34,f34),(35,f35),(41,f41),(42,f42),(44,f44),(68,f68),(69,f69),(70,f70),(71,f71),(72,f72),(83,f83),(84,f84),(85,f85),(86,f86),(87,f87),(88,f88)]) P w K mg base f d:=fun f d e=>by
 match f,e with
 |0,e=>cases e;exact cB F0 (vb T) (cu KS)
 |1,e=>cases e;exact cB F1 (Ag T) (cu HG)
 |2,e=>cases e;exact cB F2 (xX T) (cu nd2)
 |3,e=>cases e;exact cB F3 (Al T) (cu Dp)
 |4,e=>cases e;exact cB F4 (tO T) (cu nd4)
 |5,e=>cases e;exact cB F5 (xW T) (cu HG)
 |6,e=>cases e;exact cB F6 (oV T) (cu HG)
 |7,e=>cases e;exact cB F7 (Ah T) (cu KR)
 |8,e=>cases e;exact cB F8 (Aj T) (cu KQ)
 |9,e=>cases e;exact cB F9 (Ai T) (cu KP)
 |10,e=>cases e;exact cB F10 (B3 T) (cu HF)
 |11,e=>cases e;exact cB F11 (Ak T) (cu Ck)
 |12,e=>cases e;exact cB F12 (va T) (cu HE)
 |13,e=>cases e;exact cB F13 (rD T) (cu Dp)
 |14,e=>cases e
 |15,e=>cases e;exact cB F15 (vc T) (cu vv)
 |16,e=>cases e;exact cB F16 (pI T) (cu HB)
 |17,e=>cases e;exact cB F17 (rC T) (cu HA)
 |18,e=>cases e;exact cB F18 (xV T) (cu Cj)
 |19,e=>cases e
 |20,e=>cases e;exact cB F20 (B0 T) (cu Hz)
 |21,e=>cases e;exact cB F21 (B2 T) (cu Hy)
 |22,e=>cases e;exact cB F22 (Er T) (cu Hx)
 |23,e=>cases e;exact cB F23 (B1 T) (cu Hw)
 |24,e=>cases e;exact cB F24 (GN T) (cu Ci)
 |25,e=>cases e;exact cB F25 (rE T) (cu Cg)
 |26,e=>cases e
 |27,e=>cases e;exact cB F27 (wb T) (cu Cj)
 |28,e=>cases e;exact cB F28 (tQ T) (cu rR)
 |29,e=>cases e;exact cB F29 (wg T) (cu Cf)
 |30,e=>cases e;exact cB F30 (wt T) (cu Hv)
 |31,e=>cases e;exact cB F31 (wd T) (cu rQ)
 |32,e=>cases e;exact cB F32 (xY T) (cu vt)
 |33,e=>cases e;exact cB F33 (wo T) (cu vq)
 |34,e=>cases e;exact cB F34 (rK T) (cu nQ)
 |35,e=>cases e;exact cB F35 (xZ T) (cu vp)
 |36,e=>cases e
 |37,e=>cases e
 |38,e=>cases e
 |39,e=>cases e
 |40,e=>cases e;exact cB F40 (we T) (cu Me)
 |41,e=>cases e;exact cB F41 (ve T) (cu Cd)
 |42,e=>cases e;exact cB F42 (tS T) (cu Ma)
 |43,e=>cases e
 |44,e=>cases e;exact cB F44 (wj T) (cu vo)
 |45,e=>cases e
 |46,e=>cases e;exact cB F46 (Am T) (cu Cj)
 |47,e=>cases e
 |48,e=>cases e
 |49,e=>cases e
 |50,e=>cases e
 |51,e=>cases e
 |52,e=>cases e
 |53,e=>cases e
 |54,e=>cases e
 |55,e=>cases e
 |56,e=>cases e
 |57,e=>cases e
 |58,e=>cases e
 |59,e=>cases e
 |60,e=>cases e
 |61,e=>cases e
 |62,e=>cases e
 |63,e=>cases e
 |64,e=>cases e;exact cB F64 (qv T) (cu yt)
 |65,e=>cases e;exact cB F65 (qy T) (cu Hv)
 |66,e=>cases e;exact cB F66 (tR T) (cu Hu)
 |67,e=>cases e;exact cB F67 (qx T) (cu Dp)
 |68,e=>cases e;exact cB F68 (vd T) (cu KS)
 |69,e=>cases e;exact cB F69 (rH T) (cu L7)
 |70,e=>cases e;exact cB F70 (rL T) (cu L5)
 |71,e=>cases e;exact cB F71 (oW T) (cu Dp)
 |72,e=>cases e;exact cB F72 (wq T) (cu nP)
 |73,e=>cases e
 |74,e=>cases e
 |75,e=>cases e
 |76,e=>cases e
 |77,e=>cases e
 |78,e=>cases e
 |79,e=>cases e;exact cB F79 (Af T) (cu HB)
 |80,e=>cases e;exact cB F80 (v9 T) (cu Mj)
 |81,e=>cases e;exact cB F81 (An T) (cu Mi)
 |82,e=>cases e;exact cB F82 (wa T) (cu Mg)
 |83,e=>cases e;exact cB F83 (tP T) (cu mS)
 |84,e=>cases e;exact cB F84 (wm T) (cu LW)
 |85,e=>cases e;exact cB F85 (rJ T) (cu yr)
 |86,e=>cases e;exact cB F86 (wc T) (cu pO)
 |87,e=>cases e;exact cB F87 (rG T) (cu mR)
 |88,e=>cases e;exact cB F88 (Dh T) (cu lR)
 |k+89,e=>cases e
end
end K20
open PySem PySem.W PyProof.Rows K20
set_option maxRecDepth 100000 in
set_option maxHeartbeats 0 in
theorem PySem.Challenge.cw_leastdeeds_k20_works_done_holds : PySem.Challenge.rw_leastdeeds_k20_works_done.Holds := by
 w_on;o_law
 refine PySem.W.holds_open (r:=K20.yG) (q:=K20.kq) (loose:=K20.qJ) (Xt:=fun s=>PySem.W.xlAt K20.kq [] s&&PySem.W.recOk (PySem.W.RowW.records K20.yG.toRowW) s) (XP:=PySem.W.XL K20.kq []) (Yf:=K20.kH.obs) (Ya:=K20.kH.val) (YP:=K20.kH.says) (N:=6244) K20.JO K20.kH.of K20.kH.keeps (fun s e=>PySem.W.xl_of s (Bool.and_eq_true_iff.mp e).1) PySem.W.XL.keeps (by rfl) (by rfl) (by rfl) (fun s e=>PySem.W.recFacts_of (Bool.and_eq_true_iff.mp e).2) (by rfl) (by first|assumption|decide +kernel) (by decide +kernel) ⟨rfl,rfl,rfl,rfl,rfl,by decide +kernel⟩ ?hw ?hc
 case hw=>w_witness2
 refine L2.DL (l:=PySem.Challenge.rw_leastdeeds_k20_works_done) (n:=63) (k:=44) (x:="script") (CX:=fun w=>LD.iX PySem.Challenge.rw_leastdeeds_k20_works_done.prog w) (K:=K20.kh) (sp:=fun w=>LD.C8 (K20.kh w.params)) rfl (by decide) rfl ⟨rfl,by decide,by decide,rfl⟩ (fun w h Y=>PySem.W.kIn_of Y) ?F (fun w H a ns hl hO hS=>⟨a,ns,rfl,hS,hO,hl,fun _=>rfl⟩) (fun _ _ _ _ _ z=>let ⟨_,_,_,_,_,_,_,_,_,_,q⟩:=z;q)
 case F=>
  intro w mg fa h KX G hmg
  obtain ⟨f0,fd0,m0,F0⟩:=cA "is_between" jV 89 88 "leastdeeds.wholes" 280 KX G
  obtain ⟨f1,fd1,m1,F1⟩:=cA "is_word" mH 96 95 qB 291 KX G
  obtain ⟨f2,fd2,m2,F2⟩:=cA "is_place" lP 103 102 qB 291 KX G
  obtain ⟨f3,fd3,m3,F3⟩:=cA "is_cost" mM 110 109 qB 291 KX G
  obtain ⟨f4,fd4,m4,F4⟩:=cA "is_tuple_of" jx 117 116 qB 291 KX G
  obtain ⟨f5,fd5,m5,F5⟩:=cA "is_table" jE 122 121 qB 291 KX G
  obtain ⟨f6,fd6,m6,F6⟩:=cA "is_double_table" fj 127 126 qB 291 KX G
  obtain ⟨f7,fd7,m7,F7⟩:=cA "is_turn" mI 134 133 qB 291 KX G
  obtain ⟨f8,fd8,m8,F8⟩:=cA "is_join" mK 141 140 qB 291 KX G
  obtain ⟨f9,fd9,m9,F9⟩:=cA "is_move" mJ 148 147 qB 291 KX G
  obtain ⟨f10,fd10,m10,F10⟩:=cA "is_put" nF 155 154 qB 291 KX G
  obtain ⟨f11,fd11,m11,F11⟩:=cA "is_deed" mL 163 162 qB 291 KX G
  obtain ⟨f12,fd12,m12,F12⟩:=cA "is_machine" iE 168 167 qB 291 KX G
  obtain ⟨f13,fd13,m13,F13⟩:=cA "need_machine" iZ 175 174 qB 291 KX G
  obtain ⟨f15,fd15,m15,F15⟩:=cA "beginnings" iF 180 179 qB 291 KX G
  obtain ⟨f16,fd16,m16,F16⟩:=cA "is_deed_number" iu 187 186 qB 291 KX G
  obtain ⟨f17,fd17,m17,F17⟩:=cA "need_numbers" iY 194 193 qB 291 KX G
  obtain ⟨f18,fd18,m18,F18⟩:=cA "need_row" lO 201 200 qB 291 KX G
  obtain ⟨f20,fd20,m20,F20⟩:=cA "turned" nA 208 207 qC 462 KX G
  obtain ⟨f21,fd21,m21,F21⟩:=cA "joined" nE 215 214 qC 462 KX G
  obtain ⟨f22,fd22,m22,F22⟩:=cA "moved" pA 222 221 qC 462 KX G
  obtain ⟨f23,fd23,m23,F23⟩:=cA "put_in" nB 229 228 qC 462 KX G
  obtain ⟨f24,fd24,m24,F24⟩:=cA "done" rk 237 236 qC 462 KX G
  obtain ⟨f25,fd25,m25,F25⟩:=cA "all_standing" i4 244 243 qC 462 KX G
  obtain ⟨f46,fd46,m46,F46⟩:=cA "ends_of" j8 249 248 qC 462 KX G
  obtain ⟨f27,fd27,m27,F27⟩:=cA "behaviour" kF 256 255 qC 462 KX G
  obtain ⟨f79,fd79,m79,F79⟩:=cA "is_work" j7 261 260 qE 557 KX G
  obtain ⟨f80,fd80,m80,F80⟩:=cA "need_work" kC 268 267 qE 557 KX G
  obtain ⟨f81,fd81,m81,F81⟩:=cA "ends_do" j9 273 272 qE 557 KX G
  obtain ⟨f82,fd82,m82,F82⟩:=cA "does_work" kD 280 279 qE 557 KX G
  obtain ⟨f28,fd28,m28,F28⟩:=cA "_law_spread" jy 287 286 "law_leastdeeds_k20_works_done" 588 KX G
  obtain ⟨f29,fd29,m29,F29⟩:=cA "_law_open" kK 294 293 "law_leastdeeds_k20_works_done" 588 KX G
  obtain ⟨f30,fd30,m30,F30⟩:=cA "_law_anew" kO 301 300 "law_leastdeeds_k20_works_done" 588 KX G
  obtain ⟨f31,fd31,m31,F31⟩:=cA "_law_take" kJ 308 307 "law_leastdeeds_k20_works_done" 588 KX G
  obtain ⟨f64,fd64,m64,F64⟩:=cA "_law_sign_but" fY 313 312 "law_leastdeeds_k20_works_done" 588 KX G
  obtain ⟨f65,fd65,m65,F65⟩:=cA "_law_any_sign" iN 320 319 "law_leastdeeds_k20_works_done" 588 KX G
  obtain ⟨f66,fd66,m66,F66⟩:=cA "_law_signed" jz 327 326 "law_leastdeeds_k20_works_done" 588 KX G
  obtain ⟨f67,fd67,m67,F67⟩:=cA "_law_is_whole" iM 334 333 "law_leastdeeds_k20_works_done" 588 KX G
  obtain ⟨f40,fd40,m40,F40⟩:=cA "_law_same" i5 339 338 "law_leastdeeds_k20_works_done" 588 KX G
  obtain ⟨f32,fd32,m32,F32⟩:=cA "_law_tab" gJ 344 343 "law_leastdeeds_k20_works_done" 588 KX G
  obtain ⟨f33,fd33,m33,F33⟩:=cA "_law_deed" ja 349 348 "law_leastdeeds_k20_works_done" 588 KX G
  obtain ⟨f34,fd34,m34,F34⟩:=cA "_law_machine" i8 356 355 "law_leastdeeds_k20_works_done" 588 KX G
  obtain ⟨f35,fd35,m35,F35⟩:=cA "_law_row" jF 361 360 "law_leastdeeds_k20_works_done" 588 KX G
  obtain ⟨f41,fd41,m41,F41⟩:=cA "_law_after" jX 368 367 "law_leastdeeds_k20_works_done" 588 KX G
  obtain ⟨f42,fd42,m42,F42⟩:=cA "_law_begins" fM 373 372 "law_leastdeeds_k20_works_done" 588 KX G
  obtain ⟨f44,fd44,m44,F44⟩:=cA "_law_ends" kL 380 379 "law_leastdeeds_k20_works_done" 588 KX G
  obtain ⟨f68,fd68,m68,F68⟩:=cA "_law_is_in" jW 387 386 "law_leastdeeds_k20_works_done" 588 KX G
  obtain ⟨f69,fd69,m69,F69⟩:=cA "_law_numbers" gU 392 391 "law_leastdeeds_k20_works_done" 588 KX G
  obtain ⟨f70,fd70,m70,F70⟩:=cA "_law_is_deed" gV 397 396 "law_leastdeeds_k20_works_done" 588 KX G
  obtain ⟨f71,fd71,m71,F71⟩:=cA "_law_is_machine" fk 402 401 "law_leastdeeds_k20_works_done" 588 KX G
  obtain ⟨f72,fd72,m72,F72⟩:=cA "_law_bent" kN 409 408 "law_leastdeeds_k20_works_done" 588 KX G
  obtain ⟨f83,fd83,m83,F83⟩:=cA "_law_wanted" eQ 414 413 "law_leastdeeds_k20_works_done" 588 KX G
  obtain ⟨f84,fd84,m84,F84⟩:=cA "_law_does" i9 419 418 "law_leastdeeds_k20_works_done" 588 KX G
  obtain ⟨f85,fd85,m85,F85⟩:=cA "_law_no_work" i7 426 425 "law_leastdeeds_k20_works_done" 588 KX G
  obtain ⟨f86,fd86,m86,F86⟩:=cA "_law_told" kI 433 432 "law_leastdeeds_k20_works_done" 588 KX G
  obtain ⟨f87,fd87,m87,F87⟩:=cA "_law_refused" i6 440 439 "law_leastdeeds_k20_works_done" 588 KX G
  obtain ⟨f88,fd88,m88,F88⟩:=cA "law" uI 447 446 "law_leastdeeds_k20_works_done" 588 KX G
  have z_ValueError:mg "ValueError"=none:=LD.gA KX G (by kernel_rfl)
  have z_all:mg "all"=none:=LD.gA KX G (by kernel_rfl)
  have z_bool:mg "bool"=none:=LD.gA KX G (by kernel_rfl)
  have z_enumerate:mg "enumerate"=none:=LD.gA KX G (by kernel_rfl)
  have z_int:mg "int"=none:=LD.gA KX G (by kernel_rfl)
  have z_isinstance:mg "isinstance"=none:=LD.gA KX G (by kernel_rfl)
  have z_len:mg "len"=none:=LD.gA KX G (by kernel_rfl)
  have z_list:mg "list"=none:=LD.gA KX G (by kernel_rfl)
  have z_range:mg "range"=none:=LD.gA KX G (by kernel_rfl)
  have z_str:mg "str"=none:=LD.gA KX G (by kernel_rfl)
  have z_tuple:mg "tuple"=none:=LD.gA KX G (by kernel_rfl)
  have z_zip:mg "zip"=none:=LD.gA KX G (by kernel_rfl)
  have c_LEAST_WORDS:∃t,mg "LEAST_WORDS"=some (.int 2 t):=LD.mf (t:=293) KX G (by kernel_rfl)
  have c_LONGEST_ROW:∃t,mg "LONGEST_ROW"=some (.int 40 t):=LD.mf (t:=303) KX G (by kernel_rfl)
  have c_MOST_COST:∃t,mg "MOST_COST"=some (.int 3 t):=LD.mf (t:=301) KX G (by kernel_rfl)
  have c_MOST_DEEDS:∃t,mg "MOST_DEEDS"=some (.int 6 t):=LD.mf (t:=299) KX G (by kernel_rfl)
  have c_MOST_PLACES:∃t,mg "MOST_PLACES"=some (.int 2 t):=LD.mf (t:=297) KX G (by kernel_rfl)
  have c_MOST_WORDS:∃t,mg "MOST_WORDS"=some (.int 4 t):=LD.mf (t:=295) KX G (by kernel_rfl)
  have b20:=LD.eA (x:="turned") (f:=208) KX G (by kernel_rfl)
  have b21:=LD.eA (x:="joined") (f:=215) KX G (by kernel_rfl)
  have b22:=LD.eA (x:="moved") (f:=222) KX G (by kernel_rfl)
  have b23:=LD.eA (x:="put_in") (f:=229) KX G (by kernel_rfl)
  have d_NEW_WORDS:=LD.xi (x:="NEW_WORDS") (P:=w.params) (fa:=K20.se [(0,f0),(1,f1),(2,f2),(3,f3),(4,f4),(5,f5),(6,f6),(7,f7),(8,f8),(9,f9),(10,f10),(11,f11),(12,f12),(13,f13),(15,f15),(16,f16),(17,f17),(18,f18),(20,f20),(21,f21),(22,f22),(23,f23),(24,f24),(25,f25),(46,f46),(27,f27),(79,f79),(80,f80),(81,f81),(82,f82),(28,f28),(29,f29),(30,f30),(31,f31),(64,f64),(65,f65),(66,f66),(67,f67),(40,f40),(32,f32),(33,f33),(34,f34),(35,f35),(41,f41),(42,f42),(44,f44),(68,f68),(69,f69),(70,f70),(71,f71),(72,f72),(83,f83),(84,f84),(85,f85),(86,f86),(87,f87),(88,f88)]) (fs:=LD.d3) (ad:=230) (es:=#[{hash:=PySem.PyData.keyHash w.params (PySem.Str.ofString "turn"),key:=PySem.Value.str (PySem.Str.ofString "turn") 513,val:=PySem.Value.ref 208},{hash:=PySem.PyData.keyHash w.params (PySem.Str.ofString "join"),key:=PySem.Value.str (PySem.Str.ofString "join") 514,val:=PySem.Value.ref 215},{hash:=PySem.PyData.keyHash w.params (PySem.Str.ofString "move"),key:=PySem.Value.str (PySem.Str.ofString "move") 515,val:=PySem.Value.ref 222},{hash:=PySem.PyData.keyHash w.params (PySem.Str.ofString "put"),key:=PySem.Value.str (PySem.Str.ofString "put") 516,val:=PySem.Value.ref 229}]) (n:=4) KX G (by kernel_rfl) (by kernel_rfl) (by exact LD.iS (LD.iS (LD.iS (LD.iS (LD.AD))))) (by decide +kernel) (by decide) (by exact LD.g8 rfl m20 b20 (LD.g8 rfl m21 b21 (LD.g8 rfl m22 b22 (LD.g8 rfl m23 b23 (.nil)))))
  have b7:=LD.eA (x:="is_turn") (f:=134) KX G (by kernel_rfl)
  have b8:=LD.eA (x:="is_join") (f:=141) KX G (by kernel_rfl)
  have b9:=LD.eA (x:="is_move") (f:=148) KX G (by kernel_rfl)
  have b10:=LD.eA (x:="is_put") (f:=155) KX G (by kernel_rfl)
  have d_SORTS:=LD.xi (x:="SORTS") (P:=w.params) (fa:=K20.se [(0,f0),(1,f1),(2,f2),(3,f3),(4,f4),(5,f5),(6,f6),(7,f7),(8,f8),(9,f9),(10,f10),(11,f11),(12,f12),(13,f13),(15,f15),(16,f16),(17,f17),(18,f18),(20,f20),(21,f21),(22,f22),(23,f23),(24,f24),(25,f25),(46,f46),(27,f27),(79,f79),(80,f80),(81,f81),(82,f82),(28,f28),(29,f29),(30,f30),(31,f31),(64,f64),(65,f65),(66,f66),(67,f67),(40,f40),(32,f32),(33,f33),(34,f34),(35,f35),(41,f41),(42,f42),(44,f44),(68,f68),(69,f69),(70,f70),(71,f71),(72,f72),(83,f83),(84,f84),(85,f85),(86,f86),(87,f87),(88,f88)]) (fs:=LD.dS) (ad:=156) (es:=#[{hash:=PySem.PyData.keyHash w.params (PySem.Str.ofString "turn"),key:=PySem.Value.str (PySem.Str.ofString "turn") 397,val:=PySem.Value.ref 134},{hash:=PySem.PyData.keyHash w.params (PySem.Str.ofString "join"),key:=PySem.Value.str (PySem.Str.ofString "join") 398,val:=PySem.Value.ref 141},{hash:=PySem.PyData.keyHash w.params (PySem.Str.ofString "move"),key:=PySem.Value.str (PySem.Str.ofString "move") 399,val:=PySem.Value.ref 148},{hash:=PySem.PyData.keyHash w.params (PySem.Str.ofString "put"),key:=PySem.Value.str (PySem.Str.ofString "put") 400,val:=PySem.Value.ref 155}]) (n:=4) KX G (by kernel_rfl) (by kernel_rfl) (by exact LD.iS (LD.iS (LD.iS (LD.iS (LD.AD))))) (by decide +kernel) (by decide) (by exact LD.g8 rfl m7 b7 (LD.g8 rfl m8 b8 (LD.g8 rfl m9 b9 (LD.g8 rfl m10 b10 (.nil)))))
  have i_NoRow:=LD.Cy (fa:=K20.se [(0,f0),(1,f1),(2,f2),(3,f3),(4,f4),(5,f5),(6,f6),(7,f7),(8,f8),(9,f9),(10,f10),(11,f11),(12,f12),(13,f13),(15,f15),(16,f16),(17,f17),(18,f18),(20,f20),(21,f21),(22,f22),(23,f23),(24,f24),(25,f25),(46,f46),(27,f27),(79,f79),(80,f80),(81,f81),(82,f82),(28,f28),(29,f29),(30,f30),(31,f31),(64,f64),(65,f65),(66,f66),(67,f67),(40,f40),(32,f32),(33,f33),(34,f34),(35,f35),(41,f41),(42,f42),(44,f44),(68,f68),(69,f69),(70,f70),(71,f71),(72,f72),(83,f83),(84,f84),(85,f85),(86,f86),(87,f87),(88,f88)]) (w:=w) (c:=0) (x:="NoRow") (qual:="NoRow.__init__") (y:="place") (z:="no deed's number at place ") (pm:="leastdeeds.errors") (t:=187) (st:=By) (C:=44) (D:=24) (fI:=41) (cd:=40) KX G (by kernel_rfl) (by kernel_rfl) rfl (by kernel_rfl) (by kernel_rfl) (by kernel_rfl) (by kernel_rfl) ⟨rfl,rfl,rfl,by decide +kernel,rfl,by decide +kernel,by decide +kernel⟩ rfl (fun _ _=>⟨_,rfl⟩) (by decide +kernel) rfl rfl rfl rfl (fun _ _=>rfl) (fun _ _ _ _ _ _ _ _=>rfl)
  have T:=K20.Txt.mk (w:=w) (fa:=K20.se [(0,f0),(1,f1),(2,f2),(3,f3),(4,f4),(5,f5),(6,f6),(7,f7),(8,f8),(9,f9),(10,f10),(11,f11),(12,f12),(13,f13),(15,f15),(16,f16),(17,f17),(18,f18),(20,f20),(21,f21),(22,f22),(23,f23),(24,f24),(25,f25),(46,f46),(27,f27),(79,f79),(80,f80),(81,f81),(82,f82),(28,f28),(29,f29),(30,f30),(31,f31),(64,f64),(65,f65),(66,f66),(67,f67),(40,f40),(32,f32),(33,f33),(34,f34),(35,f35),(41,f41),(42,f42),(44,f44),(68,f68),(69,f69),(70,f70),(71,f71),(72,f72),(83,f83),(84,f84),(85,f85),(86,f86),(87,f87),(88,f88)]) (z_ValueError) (z_all) (z_bool) (z_enumerate) (z_int) (z_isinstance) (z_len) (z_list) (z_range) (z_str) (z_tuple) (z_zip) (c_LEAST_WORDS) (c_LONGEST_ROW) (c_MOST_COST) (c_MOST_DEEDS) (c_MOST_PLACES) (c_MOST_WORDS) (d_NEW_WORDS) (d_SORTS) (LD.FC (by kernel_rfl)) (⟨24,LD.eA (x:="DeedError") (f:=24) KX G (by kernel_rfl),rfl⟩) (⟨44,LD.eA (x:="NoRow") (f:=44) KX G (by kernel_rfl),rfl⟩) (⟨56,LD.eA (x:="NoMachine") (f:=56) KX G (by kernel_rfl),rfl⟩) (⟨68,LD.eA (x:="TooLong") (f:=68) KX G (by kernel_rfl),rfl⟩) (⟨80,LD.eA (x:="NoWork") (f:=80) KX G (by kernel_rfl),rfl⟩) (⟨56,LD.eA (x:="NoMachine") (f:=56) KX G (by kernel_rfl),rfl,by kernel_rfl⟩) (⟨68,LD.eA (x:="TooLong") (f:=68) KX G (by kernel_rfl),rfl,by kernel_rfl⟩) (⟨80,LD.eA (x:="NoWork") (f:=80) KX G (by kernel_rfl),rfl,by kernel_rfl⟩) (i_NoRow) (LD.Fz (by kernel_rfl)) (LD.mm rfl m0) (LD.mm rfl m1) (LD.mm rfl m2) (LD.mm rfl m3) (LD.mm rfl m4) (LD.mm rfl m5) (LD.mm rfl m6) (LD.mm rfl m11) (LD.mm rfl m12) (LD.mm rfl m13) (LD.mm rfl m15) (LD.mm rfl m16) (LD.mm rfl m17) (LD.mm rfl m18) (LD.mm rfl m24) (LD.mm rfl m25) (LD.mm rfl m27) (LD.mm rfl m28) (LD.mm rfl m29) (LD.mm rfl m30) (LD.mm rfl m31) (LD.mm rfl m32) (LD.mm rfl m33) (LD.mm rfl m34) (LD.mm rfl m35) (LD.mm rfl m40) (LD.mm rfl m41) (LD.mm rfl m42) (LD.mm rfl m44) (LD.mm rfl m46) (LD.mm rfl m64) (LD.mm rfl m65) (LD.mm rfl m66) (LD.mm rfl m67) (LD.mm rfl m68) (LD.mm rfl m69) (LD.mm rfl m70) (LD.mm rfl m71) (LD.mm rfl m72) (LD.mm rfl m79) (LD.mm rfl m80) (LD.mm rfl m81) (LD.mm rfl m82) (LD.mm rfl m83) (LD.mm rfl m84) (LD.mm rfl m85) (LD.mm rfl m86) (LD.mm rfl m87)
  have e:=hmg.symm.trans m88
  cases e
  exact ⟨fd88,fun s v=>by
   obtain ⟨oc,od,kV,doc,pm,an,cdv,ct,osl,rfl,lk,hcd⟩:=F88.ex
   exact .of_eq rfl,fun base _ _=>LD.HP (n:=39) (f:=88) (K20.Fb F0 F1 F2 F3 F4 F5 F6 F7 F8 F9 F10 F11 F12 F13 F15 F16 F17 F18 F20 F21 F22 F23 F24 F25 F46 F27 F79 F80 F81 F82 F28 F29 F30 F31 F64 F65 F66 F67 F40 F32 F33 F34 F35 F41 F42 F44 F68 F69 F70 F71 F72 F83 F84 F85 F86 F87 F88 T) K20.Cq rfl F88 (K20.cu (ps:=["script"]) K20.lR) rfl fun c n a b d s H E C hr=>K20.Dh T c n a b d s H E C hr⟩
