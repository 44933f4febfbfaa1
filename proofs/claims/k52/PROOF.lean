import PyProof.Rows.All
import Wide.All
import OpenK.AllK
import Wide.FinOn
import Lean
import PyProof.EqAt
import PyProof.EqKinds
import PyProof.TupleCall
import PyProof.StrOps
import PyProof.MeetsStr
import PyProof.StrLawsJoin
import PySem.Challenge.RW_leastdeeds_k52_two_shops_by_turns
set_option Elab.async false
set_option linter.all false
set_option maxRecDepth 100000
set_option autoImplicit true
set_option relaxedAutoImplicit true
set_option maxHeartbeats 0
set_option bootstrap.genMatcherCode false
set_option genSizeOf false
noncomputable section
abbrev tqa:=@PySem.wpAny_bind
abbrev tqb:=@PySem.wpAny_pure
abbrev tqf:=@PySem.wpAny_field
abbrev tqo:=@PySem.wpAny_holding
abbrev tqp:=@PySem.wpAny_truthy_bool
abbrev LX:=@PySem.W.Frag
abbrev LY:=@PySem.Value
abbrev LZ:=@List.getElem?_eq_some_iff
abbrev L3:=@PySem.Heap.get?_push_of_some
abbrev L4:=@PySem.Shared
abbrev L6:=@Bool.and_eq_true
abbrev L7:=@Nat.le_refl
abbrev L8:=@List.size_toArray
abbrev L9:=@Option.some.inj
abbrev Mb:=@Nat.le_trans
abbrev Mc:=@List.getElem?_set_ne
abbrev Md:=@List.length_map
abbrev Mh:=@List.mem_cons_of_mem
abbrev Mi:=@PySem.Heap.lt_size
abbrev Mj:=@Nat.lt_of_lt_of_le
abbrev Mn:=@List.getElem?_set_self
abbrev Mo:=@PySem.Heap.get?_push_size
abbrev Mp:=@List.all_eq_true
abbrev Mr:=@List.getElem?_eq_getElem
abbrev Ms:=@PySem.Program
abbrev Mv:=@PySem.World
abbrev Mw:=@List.getElem?_append_left
abbrev Mx:=@Bool.false_ne_true
abbrev My:=@List.mem_cons_self
abbrev Mz:=@List.length_append
abbrev ME:=@List.getElem?_append_right
abbrev MF:=@Option.map_eq_some_iff
abbrev MJ:=@List.mem_cons
abbrev MK:=@List.lookup_cons
abbrev MM:=@PyProof.Rows.slot_tuple_getitem
abbrev MN:=@PySem.Env
abbrev MO:=@Nat.ne_of_lt
abbrev MP:=@beq_eq_false_iff_ne
abbrev MQ:=@List.mem_append
abbrev MR:=@List.mem_map
abbrev MS:=@List.all_cons
abbrev MT:=@List.length_cons
abbrev MU:=@List.getElem?_map
abbrev MV:=@PySem.OsState
abbrev MW:=@List.mem_append_right
abbrev MX:=@PySem.W.kia_one
abbrev MY:=@PySem.W.SharedT
abbrev MZ:=@PySem.Around
abbrev Na:=@PySem.Heap.get?_update_other
abbrev Nb:=@Array.getElem?_eq_some_iff
abbrev Nc:=@Nat.ne_of_gt
abbrev Nd:=@List.map_cons
abbrev Nf:=@PyProof.Rows.callWith_type1
abbrev Ng:=@Ne.symm
abbrev Nh:=@Iff.rfl
abbrev Ni:=@List.mem_of_mem_take
abbrev Nj:=@List.getD_eq_getElem?_getD
abbrev Nk:=@Nat.lt_irrefl
abbrev Nl:=@List.map_append
abbrev Nm:=@Int.emod_lt_of_pos
abbrev Nn:=@Option.bind_eq_some_iff
abbrev Np:=@List.mem_of_getElem?
abbrev Nq:=@PySem.Params
abbrev Nr:=@PySem.Obj.data_mapFields
abbrev Nt:=@PySem.W.mg_of
abbrev Nu:=@List.take_of_length_le
abbrev Nv:=@List.length_range
abbrev Nw:=@List.exists_of_findSome?_eq_some
abbrev Nx:=@Int.emod_nonneg
abbrev Ny:=@List.not_mem_nil
abbrev Nz:=@List.length_take
abbrev NA:=@PySem.Heap.get?_update_self
abbrev NB:=@Int.toNat_natCast
abbrev NC:=@PySem.Comprehension
abbrev ND:=@List.replicate_succ
abbrev NF:=@List.mem_singleton
abbrev NG:=@Nat.le_of_ble_eq_true
abbrev NH:=@List.length_singleton
abbrev NI:=@List.getElem?_eq_none
abbrev NJ:=@Nat.zero_le
abbrev NK:=@Array.length_toList
abbrev NL:=@Nat.le_add_right
abbrev NM:=@Nat.add_sub_cancel_left
abbrev NN:=@List.take_succ
abbrev NO:=@List.getElem_mem
abbrev NP:=@List.getElem?_replicate
abbrev NQ:=@Nat.le_succ
abbrev NR:=@PySem.W.callWith_K
abbrev NS:=@Bool.eq_iff_iff
abbrev NT:=@List.reverse_cons
abbrev NU:=@List.flatten_cons
abbrev NV:=@Function.comp_def
abbrev NW:=@Bool.not_eq_true'
abbrev NX:=@List.mem_of_mem_drop
abbrev NY:=@List.mem_append_left
abbrev NZ:=@Bool.and_eq_true_iff
abbrev N0:=@PySem.DictEntry
abbrev N1:=@PySem.Obj.isFreed_of_fields
abbrev N2:=@Option.isNone_iff_eq_none
abbrev N3:=@List.mem_of_find?_eq_some
abbrev N4:=@PySem.mem_of_lookup
abbrev N5:=@List.filterMap_cons
abbrev N6:=@PySem.Paired
abbrev N7:=@PySem.Heap.size_push
abbrev N8:=@PySem.FuncData
abbrev N9:=@List.map_take
abbrev Oa:=@List.nil_append
abbrev Ob:=@List.append_nil
abbrev Oc:=@Bool.or_eq_true
abbrev Od:=@List.length_eq_zero_iff
abbrev Oe:=@List.getElem?_cons_zero
abbrev Of:=@List.getElem?_cons_succ
abbrev Og:=@List.findIdx?_eq_some_iff_getElem
namespace HD
open PySem PySem.W
noncomputable def gH (tb:String->Option Builtin)(p:Ms)(w:Mv)(n0:Nat)(ann:Option LY):Nat->MY->Thread->Option MY
 |0,_,_=>none
 | n + 1, s, t => match through t with
   |true=>some s
   | false => match stepOk n0 ann t with
     |false=>none
     | true => match stepT (denote tb) p w s t with
       |some (s',t')=>gH tb p w n0 ann n s' t'
       |none=>none
theorem pH {tb:String->Option Builtin}{p:Ms}{w:Mv}{n0:Nat}{ann:Option LY}:∀{n:Nat}{s s':MY}{t:Thread},gH tb p w n0 ann n s t=some s'->topRun tb p w n0 ann n s.abs t=some s'.abs
 |0,_,_,_,h=>by cases h
 | n + 1, s, s', t, h => by
   unfold gH at h
   unfold topRun
   cases he:through t with
   |true=>rw [he] at h;cases h;rfl
   | false =>
     rw [he] at h
     cases hk:stepOk n0 ann t with
     |false=>rw [hk] at h;cases h
     | true =>
       rw [hk] at h
       cases hs:stepT (denote tb) p w s t with
       |none=>rw [hs] at h;cases h
       |some r=>obtain ⟨s2,t2⟩:=r;rw [hs] at h;rw [stepT_spec hs];exact pH h
noncomputable def treeOf:List Obj->Nat->BT->BT
 |[],_,t=>t
 |o::r,n,t=>treeOf r (n+1) (t.ins n o)
noncomputable def vY (P:Nq)(os:MV):MY:=⟨treeOf (boot_heap P).objs.toList 0 .nil,(boot_heap P).objs.toList.length,(boot_heap P).life,#[],boot_drawn,boot_toks,os⟩
theorem boot_abs (P:Nq)(os:MV):(vY P os).abs=⟨boot_heap P,#[],boot_drawn,boot_toks,os⟩:=by kernel_rfl
noncomputable def kc (p q:Ms)(loose:List Str)(Xt:L4->Bool)(g0:Bool)(h0:Heap){α:Type}(Yf:L4->α)(s:L4):=
 ((staticsOk (importedModules p.main.body) h0 s.heap&&namesBound p s.heap&&gensDone s&&laidKept h0 s.heap),openSeen q loose (importedModules p.main.body) Xt g0 s,Yf s)
end HD
namespace HD
open PySem PySem.W
noncomputable def uE (tb:String->Option Builtin)(p:Ms)(w:Mv)(n0:Nat)(ann:Option LY):Nat->MY->Thread->Option (MY×Thread)
 |0,s,t=>some (s,t)
 | n + 1, s, t => match through t with
   |true=>none
   | false => match stepOk n0 ann t with
     |false=>none
     | true => match stepT (denote tb) p w s t with
       |some (s',t')=>uE tb p w n0 ann n s' t'
       |none=>none
noncomputable def j7 (tb:String->Option Builtin)(p:Ms)(w:Mv)(n0:Nat)(ann:Option LY):Nat->MY->Thread->Option (Flow×MY×Code×Pos)
 |0,_,_=>none
 | n + 1, s, t => match endAt 1 t with
   |some f=>some (f,s,t.code,t.pos)
   | none => match stepOk n0 ann t with
     |false=>none
     | true => match stepT (denote tb) p w s t with
       |some (s',t')=>j7 tb p w n0 ann n s' t'
       |none=>none
section
variable {tb:String->Option Builtin}{p:Ms}{w:Mv}{n0:Nat}{ann:Option LY}
theorem yv:∀{n:Nat}{s s':MY}{t t':Thread},uE tb p w n0 ann n s t=some (s',t')->topGo tb p w n0 ann n s.abs t=some (s'.abs,t')
 |0,s,s',t,t',h=>by cases h;rfl
 | n + 1, s, s', t, t', h => by
   unfold uE at h
   unfold topGo
   cases he:through t with
   |true=>rw [he] at h;cases h
   | false =>
     rw [he] at h
     cases hk:stepOk n0 ann t with
     |false=>rw [hk] at h;cases h
     | true =>
       rw [hk] at h
       cases hs:stepT (denote tb) p w s t with
       |none=>rw [hs] at h;cases h
       |some q=>obtain ⟨s2,t2⟩:=q;rw [hs] at h;rw [stepT_spec hs];exact yv h
theorem oK:∀{n:Nat}{s s':MY}{t:Thread}{f:Flow}{c:Code}{q:Pos},j7 tb p w n0 ann n s t=some (f,s',c,q)->segRun tb p w n0 ann 1 n s.abs t=some (f,s'.abs,c,q)
 |0,_,_,_,_,_,_,h=>by cases h
 | n + 1, s, s', t, f, c, q, h => by
   unfold j7 at h
   unfold segRun
   cases he:endAt 1 t with
   |some g=>rw [he] at h;cases h;rfl
   | none =>
     rw [he] at h
     cases hk:stepOk n0 ann t with
     |false=>rw [hk] at h;cases h
     | true =>
       rw [hk] at h
       cases hs:stepT (denote tb) p w s t with
       |none=>rw [hs] at h;cases h
       |some x=>obtain ⟨s2,t2⟩:=x;rw [hs] at h;rw [stepT_spec hs];exact oK h
theorem sM {n3 N:Nat}{s s2:MY}{env:Env}{c:Code}{p' p2 q:Pos}{b:List Stmt}{J:Nat}{α:Type}{f:L4->α}{a:α}
 (h3:j7 tb p w n0 ann n3 s (piecesOf (b.take J) env c p' [topFrame q])=some (.next,s2,c,p2))
 (h4:(topRun tb p w n0 ann N s2.abs (restOf (b.drop J) env c p2 [topFrame q])).map f=some a):(topRun tb p w n0 ann (n3+N) s.abs (restOf b env c p' [topFrame q])).map f=some a:=by
 obtain ⟨r,e3,e4⟩:=MF.mp h4
 have k4:=piece_app (oK h3) e3
 rw [List.take_append_drop] at k4
 rw [k4]
 exact congrArg some e4
theorem yD {N:Nat}{s2:MY}{t:Thread}{p' q:Ms}{loose:List Str}{Xt:L4->Bool}{g0:Bool}{h0:Heap}{α:Type}{Yf:L4->α}{a b c}
 (h1:(gH tb p w n0 ann N s2 t).map (fun s=>(kc p' q loose Xt g0 h0 Yf s.abs).1)=some a) (h2:(gH tb p w n0 ann N s2 t).map (fun s=>(kc p' q loose Xt g0 h0 Yf s.abs).2.1)=some b)
 (h3:(gH tb p w n0 ann N s2 t).map (fun s=>(kc p' q loose Xt g0 h0 Yf s.abs).2.2)=some c):(topRun tb p w n0 ann N s2.abs t).map (kc p' q loose Xt g0 h0 Yf)=some (a,b,c):=by
 obtain ⟨r,e3,rfl⟩:=MF.mp h1
 rw [e3] at h2 h3
 cases h2;cases h3
 rw [pH e3]
 rfl
theorem yE {n1 n2 N:Nat}{s s':MY}{env:Env}{c:Code}{pos p' q:Pos}{t:Thread}{b:List Stmt}{J:Nat}{α:Type}{f:L4->α}{a:α}
 (h1:(uE tb p w n0 ann n1 s t).map (·.2)=some ⟨denote tb (.body b env),c,pos,[topFrame q]⟩) (h0:endAt 1 (blockOf b env c pos [topFrame q])=some .next)
 (h2:((uE tb p w n0 ann n1 s t).bind fun x=>j7 tb p w n0 ann n2 x.1 (piecesOf (b.take J) env c pos [topFrame q]))=some (.next,s',c,p'))
 (h3:(topRun tb p w n0 ann N s'.abs (restOf (b.drop J) env c p' [topFrame q])).map f=some a):(topRun tb p w n0 ann (n1+(1+(n2+N))) s.abs t).map f=some a:=by
 obtain ⟨⟨s1,t1⟩,e1,e2⟩:=MF.mp h1
 have e2:t1=⟨denote tb (.body b env),c,pos,[topFrame q]⟩:=e2
 subst e2
 rw [e1] at h2
 have h2:j7 tb p w n0 ann n2 s1 (piecesOf (b.take J) env c pos [topFrame q])=some (.next,s',c,p'):=h2
 obtain ⟨r,e3,e4⟩:=MF.mp h3
 have k3:=piece_app (oK h2) e3
 rw [List.take_append_drop] at k3
 have hb:segRun tb p w n0 ann 1 1 s1.abs (blockOf b env c pos [topFrame q])=some (.next,s1.abs,c,pos):=by
  show (match endAt 1 (blockOf b env c pos [topFrame q]) with|some f=>some (f,s1.abs,c,pos)|none=>_)=_
  rw [h0]
 have k2:=piece_block hb k3
 rw [go_top (yv e1) k2]
 exact congrArg some e4
end
theorem tJ {p q:Ms}{loose:List Str}{Xt:L4->Bool}{α:Type}{Yf:L4->α}{Ya:Mv->α}{N:Nat}{g0:Bool}{m0:Nat}{ann:Option LY}
 (open_:∀w:Mv,(fencedOpening treeTable p w N).map (fun s=>(s.heap,s.gens,s.drawn,s.toks))=some (boot_heap w.params,Array.mk [],boot_drawn,boot_toks))
 (size:∀w:Mv,((boot_heap w.params).isNs mainGlobals&&(Array.mk ([]:List GenState)).size==0,(boot_heap w.params).objs.size,(boot_heap w.params).nsMap mainGlobals "__annotations__")=(true,m0,ann))
 (run:∀(w:Mv) (os:MV),(topRun treeTable p w m0 ann N (vY w.params os).abs (topStub p)).map (kc p q loose Xt g0 (boot_heap w.params) Yf)=some (true,openGood q loose,Ya w)):LeftO p q loose Xt Yf Ya N g0:=fun w=>by
 obtain ⟨⟨h,gs,d,k,os⟩,e,e'⟩:=MF.mp (open_ w)
 obtain ⟨rfl,rfl,rfl,rfl⟩:h=boot_heap w.params/\gs=Array.mk []/\d=boot_drawn/\k=boot_toks:=by simpa using e'
 obtain ⟨z1,z2,z3⟩:_/\_/\_:=by simpa only [Prod.mk.injEq] using size w
 obtain ⟨s1,r,l⟩:=MF.mp (run w os)
 obtain ⟨l1,l2,l3⟩:_/\_/\_:=by simpa only [kc,Prod.mk.injEq] using l
 rw [boot_abs] at r
 have t:topFrom treeTable p w N ⟨boot_heap w.params,Array.mk [],boot_drawn,boot_toks,os⟩=some s1:=by
  unfold topFrom
  dsimp only
  rw [z1,z2,z3,r]
  show (match staticsOk (importedModules p.main.body) (boot_heap w.params) s1.heap&&namesBound p s1.heap&&gensDone s1&&laidKept (boot_heap w.params) s1.heap with|true=>_|false=>_)=_
  rw [l1]
 unfold openEnds
 rw [e]
 show (topFrom treeTable p w N _).map _=_
 rw [t]
 exact congrArg some (Prod.ext l2 l3)
end HD
namespace K52
open PySem
abbrev eN (P:Nq)(x:Str)(n:Nat)(v:LY):N0:=⟨PyData.keyHash P x,.str x n,v⟩
abbrev ib:String:="law_leastdeeds_k52_two_shops_by_turns"
noncomputable def oV (j:Nat)(s:Stmt):Stmt:=match s with
 |.ClassDef _ _ _ b _ _ _ _ _ _ _=>b.getD j s
 |_=>s
noncomputable def ip (i:Nat):Stmt:=PySem.Challenge.pw_leastdeeds_k52_two_shops_by_turns.main.body.getD i (.Pass ⟨0,0,0,0⟩)
noncomputable def qK (s:Stmt):Arguments:=match s with
 |.FunctionDef _ a _ _ _ _ _ _ _ _=>a
 |_=>⟨[],[],none,[],[],none,[]⟩
noncomputable def qJ (s:Stmt):List Stmt:=match s with
 |.FunctionDef _ _ b _ _ _ _ _ _ _=>b
 |_=>[]
noncomputable def n9 (s:Stmt):Scope:=match s with
 |.FunctionDef _ _ _ _ _ _ sc _ _ _=>sc
 |_=>{kind:=.function,names:=[],isGenerator:=false,isCoroutine:=false}
noncomputable def o1:Obj:={cls:=.type "tuple" ,data:=.seq #[]}
noncomputable def o2 (a:String)(b:Nat)(c:Int)(d:Nat)(e:Int):Obj:={cls:=.type "code" ,data:=.fields #[.str (Str.ofString a) b ,.str (Str.ofString a) (b+1) ,.str ("/claim/cut.py") (b+2) ,.int c 0 ,.int 0 0 ,.int 0 0 ,.int 0 0 ,.int 0 0 ,.ref d ,.bool false ,.int 181 0 ,.ref (d+1) ,.none ,.none ,.none ,.none ,.int e 0 ,.int c 0 ,.str ("/claim/cut.py") (b+4)]}
noncomputable def o3 (a:Nat)(b:Nat)(c:String)(d:Nat):Obj:={cls:=.type "frame" ,slots:=#[some (.ref a) ,some (.ref 3) ,some (.ref b) ,none ,some (.str (Str.ofString c) d) ,none ,some (.ref 0)]}
noncomputable def o4:Obj:={cls:=.none ,data:=.fields #[]}
noncomputable def o5 (a:String)(b:Nat):Obj:={cls:=.type "tuple" ,data:=.seq #[.str (Str.ofString a) b]}
noncomputable def o6 (a:String)(b:Nat):Obj:={cls:=.none ,data:=.func {name:=Str.ofString a ,qualname:=Str.ofString a ,params:=qK (ip b) ,body:=PySem.FuncBody.stmts (qJ (ip b)) ,scope:=n9 (ip b) ,globals:=0 ,closure:=[] ,defaults:=.none ,kwdefaults:=.none ,pyModule:=.none ,code:=.none}}
noncomputable def o7 (a:String)(b:Nat)(c:String)(d:Int)(e:Int)(f:Nat)(g:Int)(h:Nat):Obj:={cls:=.type "code" ,data:=.fields #[.str (Str.ofString a) b ,.str (Str.ofString c) (b+1) ,.str ("/claim/cut.py") (b+2) ,.int d 0 ,.int e 0 ,.int 0 0 ,.int 0 0 ,.int 3 0 ,.ref f ,.bool true ,.int 181 0 ,.ref (f+1) ,.none ,.ref (f+2) ,.ref (f+3) ,.ref (f+4) ,.int g 0 ,.int d 0 ,.str ("/claim/cut.py") h]}
noncomputable def o8 (a:String)(b:Nat)(c:String)(d:Nat)(e:Nat):Obj:={cls:=.type "function" ,data:=.func {name:=Str.ofString a ,qualname:=Str.ofString a ,params:=qK (ip b) ,body:=PySem.FuncBody.stmts (qJ (ip b)) ,scope:=n9 (ip b) ,globals:=3 ,closure:=[] ,defaults:=.none ,kwdefaults:=.none ,pyModule:=.str (Str.ofString c) d ,code:=.ref e}}
noncomputable def o9:Obj:={cls:=.type "builtin_function_or_method" ,data:=.fields #[.builtin "type.__prepare__" ,.type "type"]}
noncomputable def uo (P:Nq)(a:Nat)(b:String)(c:Int)(d:Nat):Obj:={cls:=.type "dict" ,data:=.dict #[{hash:=PyData.keyHash P ("__module__") ,key:=.str ("__module__") a ,val:=.str ("leastdeeds.errors") 194} ,{hash:=PyData.keyHash P ("__qualname__") ,key:=.str ("__qualname__") (a+2) ,val:=.str (Str.ofString b) (a+1)} ,{hash:=PyData.keyHash P ("__firstlineno__") ,key:=.str ("__firstlineno__") (a+4) ,val:=.int c (a+3)} ,{hash:=PyData.keyHash P ("__static_attributes__") ,key:=.str ("__static_attributes__") (a+5) ,val:=.ref d}] 4}
noncomputable def J0 (P:Nq)(a:Nat)(b:Int)(c:String)(d:Nat)(e:Nat)(f:String)(g:Nat)(h:Nat):Obj:={cls:=.type "dict" ,data:=.dict #[{hash:=PyData.keyHash P ("__module__") ,key:=.str ("__module__") a ,val:=.str ("leastdeeds.errors") 194} ,{hash:=PyData.keyHash P ("__firstlineno__") ,key:=.str ("__firstlineno__") (a+4) ,val:=.int b (a+3)} ,{hash:=PyData.keyHash P (Str.ofString c) ,key:=.str (Str.ofString c) d ,val:=.ref e} ,{hash:=PyData.keyHash P (Str.ofString f) ,key:=.str (Str.ofString f) (d+2) ,val:=.ref g} ,{hash:=PyData.keyHash P ("__doc__") ,key:=.str ("__doc__") (d+3) ,val:=.none}] h}
noncomputable def o12:Obj:={cls:=.type "type" ,data:=.cls {name:="DeedError" ,bases:=[.type "ValueError"] ,mro:=[.ref 31 ,.type "ValueError" ,.type "Exception" ,.type "BaseException" ,.type "object"] ,ns:=30 ,qualname:="DeedError" ,subclasses:=[.ref 51 ,.ref 63 ,.ref 75 ,.ref 87 ,.ref 99 ,.ref 111]} ,slots:=#[some (.ref 22) ,none ,some (.str ("DeedError") 196) ,some (.str ("DeedError") 204) ,some (.builtin "ValueError.__new__") ,some (.bool true)]}
noncomputable def JZ (a:Nat)(b:Nat):Obj:={cls:=.type "getset_descriptor" ,data:=.fields #[.str ("__weakref__") a ,.ref b ,.builtin "ExceptionGroup.__weakref__" ,.none]}
noncomputable def pY (a:Nat):Obj:={cls:=.type "super" ,data:=.fields #[.ref a ,.ref a ,.ref a]}
noncomputable def pX (a:Nat):Obj:={cls:=.type "builtin_function_or_method" ,data:=.fields #[.builtin "object.__init_subclass__" ,.ref a]}
noncomputable def um:Obj:={cls:=.type "tuple" ,data:=.seq #[.ref 31]}
noncomputable def mx (a:String)(b:Nat)(c:String):Obj:={cls:=.type "tuple" ,data:=.seq #[.str (Str.ofString a) b ,.str (Str.ofString c) (b+1)]}
noncomputable def kQ (a:String)(b:String)(c:Nat)(d:Nat):Obj:={cls:=.none ,data:=.func {name:=Str.ofString a ,qualname:=Str.ofString b ,params:=qK (oV c (ip d)) ,body:=PySem.FuncBody.stmts (qJ (oV c (ip d))) ,scope:=n9 (oV c (ip d)) ,globals:=0 ,closure:=[] ,defaults:=.none ,kwdefaults:=.none ,pyModule:=.none ,code:=.none}}
noncomputable def kO (a:String)(b:String)(c:Nat)(d:Nat)(e:String)(f:Nat)(g:Nat):Obj:={cls:=.type "function" ,data:=.func {name:=Str.ofString a ,qualname:=Str.ofString b ,params:=qK (oV c (ip d)) ,body:=PySem.FuncBody.stmts (qJ (oV c (ip d))) ,scope:=n9 (oV c (ip d)) ,globals:=3 ,closure:=[] ,defaults:=.none ,kwdefaults:=.none ,pyModule:=.str (Str.ofString e) f ,code:=.ref g}}
noncomputable def uk (a:String)(b:Nat)(c:Nat)(d:Nat)(e:Nat):Obj:={cls:=.type "type" ,data:=.cls {name:=Str.ofString a ,bases:=[.ref 31] ,mro:=[.ref b ,.ref 31 ,.type "ValueError" ,.type "Exception" ,.type "BaseException" ,.type "object"] ,ns:=c ,qualname:=Str.ofString a} ,slots:=#[some (.ref d) ,none ,some (.str (Str.ofString a) e) ,some (.str (Str.ofString a) (e+8)) ,some (.builtin "ValueError.__new__") ,some (.bool true)]}
noncomputable def xT (P:Nq)(a:Nat)(b:Int)(c:Nat):Obj:={cls:=.type "dict" ,data:=.dict #[{hash:=PyData.keyHash P ("__module__") ,key:=.str ("__module__") a ,val:=.str ("leastdeeds.errors") 194} ,{hash:=PyData.keyHash P ("__firstlineno__") ,key:=.str ("__firstlineno__") (a+4) ,val:=.int b (a+3)} ,{hash:=PyData.keyHash P ("__static_attributes__") ,key:=.str ("__static_attributes__") (a+5) ,val:=.ref c} ,{hash:=PyData.keyHash P ("__doc__") ,key:=.str ("__doc__") (a+6) ,val:=.none}] 2}
noncomputable def xS (a:String)(b:Nat)(c:String)(d:String):Obj:={cls:=.type "tuple" ,data:=.seq #[.str (Str.ofString a) b ,.str (Str.ofString c) (b+1) ,.str (Str.ofString d) (b+2)]}
noncomputable def kC (a:String)(b:Nat)(c:Int)(d:Int)(e:Nat)(f:Int):Obj:={cls:=.type "code" ,data:=.fields #[.str (Str.ofString a) b ,.str (Str.ofString a) (b+1) ,.str ("/claim/cut.py") (b+2) ,.int c 0 ,.int d 0 ,.int 0 0 ,.int 0 0 ,.int 3 0 ,.ref e ,.bool true ,.int 181 0 ,.ref (e+1) ,.none ,.none ,.none ,.ref (e+2) ,.int f 0 ,.int c 0 ,.str ("/claim/cut.py") (b+4)]}
noncomputable def rW (a:String)(b:Nat)(c:String)(d:String)(e:String)(f:String)(g:String):Obj:={cls:=.type "tuple" ,data:=.seq #[.str (Str.ofString a) b ,.str (Str.ofString c) (b+1) ,.str (Str.ofString d) (b+2) ,.str (Str.ofString e) (b+3) ,.str (Str.ofString f) (b+4) ,.str (Str.ofString g) (b+5)]}
noncomputable def Gu (a:String)(b:Nat)(c:String)(d:String)(e:String)(f:String)(g:String)(h:String):Obj:={cls:=.type "tuple" ,data:=.seq #[.str (Str.ofString a) b ,.str (Str.ofString c) (b+1) ,.str (Str.ofString d) (b+2) ,.str (Str.ofString e) (b+3) ,.str (Str.ofString f) (b+4) ,.str (Str.ofString g) (b+5) ,.str (Str.ofString h) (b+6)]}
noncomputable def JY (P:Nq)(a:Nat)(b:Nat):Obj:={cls:=.type "dict" ,data:=.dict #[{hash:=PyData.keyHash P ("turn") ,key:=.str ("turn") a ,val:=.ref b} ,{hash:=PyData.keyHash P ("join") ,key:=.str ("join") (a+1) ,val:=.ref (b+7)} ,{hash:=PyData.keyHash P ("move") ,key:=.str ("move") (a+2) ,val:=.ref (b+14)} ,{hash:=PyData.keyHash P ("put") ,key:=.str ("put") (a+3) ,val:=.ref (b+21)}] 4}
noncomputable def Gs (a:String)(b:Nat)(c:String)(d:String)(e:String)(f:String):Obj:={cls:=.type "tuple" ,data:=.seq #[.str (Str.ofString a) b ,.str (Str.ofString c) (b+1) ,.str (Str.ofString d) (b+2) ,.str (Str.ofString e) (b+3) ,.str (Str.ofString f) (b+4)]}
noncomputable def BL (a:String)(b:Nat)(c:String)(d:String)(e:String):Obj:={cls:=.type "tuple" ,data:=.seq #[.str (Str.ofString a) b ,.str (Str.ofString c) (b+1) ,.str (Str.ofString d) (b+2) ,.str (Str.ofString e) (b+3)]}
noncomputable def JX (a:String)(b:Nat)(c:String)(d:String)(e:String)(f:String)(g:String)(h:String)(i:String):Obj:={cls:=.type "tuple" ,data:=.seq #[.str (Str.ofString a) b ,.str (Str.ofString c) (b+1) ,.str (Str.ofString d) (b+2) ,.str (Str.ofString e) (b+3) ,.str (Str.ofString f) (b+4) ,.str (Str.ofString g) (b+5) ,.str (Str.ofString h) (b+6) ,.str (Str.ofString i) (b+7)]}
noncomputable def o30 (P:Nq):Obj:={cls:=.type "dict" ,data:=.dict #[{hash:=PyData.keyHash P ("__module__") ,key:=.str ("__module__") 627 ,val:=.str ("leastdeeds.shop") 618} ,{hash:=PyData.keyHash P ("__firstlineno__") ,key:=.str ("__firstlineno__") 631 ,val:=.int 148 630} ,{hash:=PyData.keyHash P ("__init__") ,key:=.str ("__init__") 640 ,val:=.ref 313} ,{hash:=PyData.keyHash P ("row") ,key:=.str ("row") 647 ,val:=.ref 320} ,{hash:=PyData.keyHash P ("cost") ,key:=.str ("cost") 654 ,val:=.ref 327} ,{hash:=PyData.keyHash P ("behaviour") ,key:=.str ("behaviour") 661 ,val:=.ref 334} ,{hash:=PyData.keyHash P ("least") ,key:=.str ("least") 668 ,val:=.ref 341} ,{hash:=PyData.keyHash P ("put") ,key:=.str ("put") 677 ,val:=.ref 348} ,{hash:=PyData.keyHash P ("out") ,key:=.str ("out") 685 ,val:=.ref 355} ,{hash:=PyData.keyHash P ("back") ,key:=.str ("back") 692 ,val:=.ref 362} ,{hash:=PyData.keyHash P ("change") ,key:=.str ("change") 700 ,val:=.ref 369} ,{hash:=PyData.keyHash P ("give") ,key:=.str ("give") 709 ,val:=.ref 376} ,{hash:=PyData.keyHash P ("__static_attributes__") ,key:=.str ("__static_attributes__") 713 ,val:=.ref 377} ,{hash:=PyData.keyHash P ("__dict__") ,key:=.str ("__dict__") 715 ,val:=.ref 380} ,{hash:=PyData.keyHash P ("__weakref__") ,key:=.str ("__weakref__") 717 ,val:=.ref 381} ,{hash:=PyData.keyHash P ("__doc__") ,key:=.str ("__doc__") 718 ,val:=.none}] 4}
noncomputable def o31:Obj:={cls:=.type "type" ,data:=.cls {name:="Shop" ,bases:=[.type "object"] ,mro:=[.ref 379 ,.type "object"] ,ns:=378 ,qualname:="Shop"} ,slots:=#[none ,none ,some (.str ("Shop") 620) ,some (.str ("Shop") 628) ,some (.builtin "object.__new__") ,some (.bool true)]}
noncomputable def J6 (P:Nq):List N0:=[eN P "__doc__" 166 (.none),eN P "__package__" 167 (.none),eN P "__loader__" 168 (.builtin "__main__.__loader__#opaque"),eN P "__spec__" 169 (.none),eN P "__annotations__" 170 (.ref 6),eN P "__builtins__" 171 (.ref 4),eN P "__file__" 173 (.str "/claim/cut.py" 172),eN P "__cached__" 174 (.none),eN P "_wall" 193 (.ref 21),eN P "DeedError" 213 (.ref 31),eN P "NoRow" 238 (.ref 51),eN P "NoMachine" 254 (.ref 63),eN P "TooLong" 270 (.ref 75),eN P "NoPlace" 286 (.ref 87),eN P "NoDeed" 302 (.ref 99),eN P "Nothing" 318 (.ref 111)]
noncomputable def J5 (P:Nq):List N0:=J6 P++[eN P "is_between" 329 (.ref 120),eN P "LEAST_WORDS" 333 (.int 2 332),eN P "MOST_WORDS" 335 (.int 4 334),eN P "MOST_PLACES" 337 (.int 2 336),eN P "MOST_DEEDS" 339 (.int 6 338),eN P "MOST_COST" 341 (.int 3 340),eN P "LONGEST_ROW" 343 (.int 40 342),eN P "is_word" 351 (.ref 127),eN P "is_place" 359 (.ref 134),eN P "is_cost" 366 (.ref 141),eN P "is_tuple_of" 374 (.ref 148),eN P "is_table" 380 (.ref 153),eN P "is_double_table" 386 (.ref 158),eN P "is_turn" 398 (.ref 165),eN P "is_join" 411 (.ref 172),eN P "is_move" 423 (.ref 179),eN P "is_put" 435 (.ref 186),eN P "SORTS" 444 (.ref 187),eN P "is_deed" 455 (.ref 194),eN P "is_machine" 461 (.ref 199),eN P "need_machine" 468 (.ref 206),eN P "beginnings" 474 (.ref 211),eN P "is_deed_number" 482 (.ref 218),eN P "need_numbers" 492 (.ref 225),eN P "need_row" 500 (.ref 232),eN P "summed_cost" 506 (.ref 237),eN P "turned" 520 (.ref 244),eN P "joined" 533 (.ref 251),eN P "moved" 545 (.ref 258),eN P "put_in" 557 (.ref 265),eN P "NEW_WORDS" 566 (.ref 266),eN P "done" 576 (.ref 273),eN P "all_standing" 587 (.ref 280),eN P "ends_of" 593 (.ref 285),eN P "behaviour" 601 (.ref 292),eN P "parted" 617 (.ref 299),eN P "Shop" 720 (.ref 379)]
noncomputable def J4 (P:Nq):List N0:=J5 P++[eN P "_law_spread" 734 (.ref 390),eN P "_law_open" 744 (.ref 397),eN P "_law_anew" 751 (.ref 404),eN P "_law_take" 762 (.ref 411),eN P "_law_same" 768 (.ref 416),eN P "_law_tab" 774 (.ref 421),eN P "_law_deed" 780 (.ref 426),eN P "_law_machine" 794 (.ref 433),eN P "_law_row" 800 (.ref 438),eN P "_law_change" 813 (.ref 445),eN P "_law_do" 821 (.ref 452),eN P "_law_orders" 827 (.ref 459),eN P "_law_look_by" 837 (.ref 466),eN P "_law_alone" 843 (.ref 471)]
noncomputable def kg3 (P:Nq):List N0:=J4 P++[eN P "law" 849 (.ref 476)]
noncomputable def J9 (P:Nq):List Obj:=[o1,
 {cls:=.none,data:=.fields #[.int 1 0,.int 0 0,.ref 20,.int 5 0,.int 0 0,.ref 27,.int 7 0,.int 0 0,.ref 40,.int 12 0,.int 0 0,.ref 59,.int 14 0,.int 0 0,.ref 71,.int 16 0,.int 0 0,.ref 83,.int 18 0,.int 0 0,.ref 95,.int 20 0,.int 0 0,.ref 107]},
 o2 "<module>" 182 1 11 185,
 o3 13 3 "__main__" 164,
 o1,
 o4,
 o5 "k" 190,
 o1,
 o6 "_wall" 0,
 o7 "_wall" 187 "_wall" 1 1 15 191 192,
 o8 "_wall" 0 "__main__" 164 20,
 {cls:=.type "tuple",data:=.seq #[.type "ValueError"]},
 o9,
 uo P 203 "DeedError" 5 29,
 o1,
 o4,
 o2 "DeedError" 198 5 25 201,
 o3 27 24 "leastdeeds.errors" 194,
 o1,
 J0 P 203 5 "__static_attributes__" 208 29 "__weakref__" 32 3,
 o12,
 JZ 209 31,
 pY 31,
 pX 31,
 um,
 o9,
 {cls:=.type "dict",data:=.dict #[eN P "__module__" 221 (.str "leastdeeds.errors" 194),eN P "__qualname__" 223 (.str "NoRow" 222),eN P "__firstlineno__" 225 (.int 7 224),eN P "__init__" 233 (.ref 48),eN P "__static_attributes__" 235 (.ref 49)] 5},
 o1,
 {cls:=.none,data:=.fields #[.int 9 0,.int 4 0,.ref 47]},
 o2 "NoRow" 216 7 38 219,
 o3 40 37 "leastdeeds.errors" 194,
 o1,
 o4,
 mx "self" 229 "place",
 o1,
 kQ "__init__" "NoRow.__init__" 0 3,
 o7 "__init__" 226 "NoRow.__init__" 9 2 42 231 232,
 kO "__init__" "NoRow.__init__" 0 3 "leastdeeds.errors" 194 47,
 o5 "place" 234,
 J0 P 221 7 "__init__" 233 48 "__static_attributes__" 49 2,
 uk "NoRow" 51 50 35 214,
 pY 51,
 pX 51,
 um,
 o9,
 uo P 246 "NoMachine" 12 61,
 o1,
 o4,
 o2 "NoMachine" 241 12 57 244,
 o3 59 56 "leastdeeds.errors" 194,
 o1,
 xT P 246 12 61,
 uk "NoMachine" 63 62 54 239,
 pY 63,
 pX 63,
 um,
 o9,
 uo P 262 "TooLong" 14 73,
 o1,
 o4,
 o2 "TooLong" 257 14 69 260,
 o3 71 68 "leastdeeds.errors" 194,
 o1,
 xT P 262 14 73,
 uk "TooLong" 75 74 66 255,
 pY 75,
 pX 75,
 um,
 o9,
 uo P 278 "NoPlace" 16 85,
 o1,
 o4,
 o2 "NoPlace" 273 16 81 276,
 o3 83 80 "leastdeeds.errors" 194,
 o1,
 xT P 278 16 85,
 uk "NoPlace" 87 86 78 271,
 pY 87,
 pX 87,
 um,
 o9,
 uo P 294 "NoDeed" 18 97,
 o1,
 o4,
 o2 "NoDeed" 289 18 93 292,
 o3 95 92 "leastdeeds.errors" 194,
 o1,
 xT P 294 18 97,
 uk "NoDeed" 99 98 90 287,
 pY 99,
 pX 99,
 um,
 o9,
 uo P 310 "Nothing" 20 109,
 o1,
 o4,
 o2 "Nothing" 305 20 105 308,
 o3 107 104 "leastdeeds.errors" 194,
 o1,
 xT P 310 20 109,
 uk "Nothing" 111 110 102 303,
 pY 111,
 pX 111]
noncomputable def J8 (P:Nq):List Obj:=((J9 P).set 1 ({cls:=.none,data:=.fields #[.int 1 0,.int 0 0,.ref 20,.int 5 0,.int 0 0,.ref 27,.int 7 0,.int 0 0,.ref 40,.int 12 0,.int 0 0,.ref 59,.int 14 0,.int 0 0,.ref 71,.int 16 0,.int 0 0,.ref 83,.int 18 0,.int 0 0,.ref 95,.int 20 0,.int 0 0,.ref 107,.int 23 0,.int 0 0,.ref 119,.int 34 0,.int 0 0,.ref 126,.int 36 0,.int 0 0,.ref 133,.int 38 0,.int 0 0,.ref 140,.int 40 0,.int 0 0,.ref 147,.int 42 0,.int 0 0,.ref 152,.int 44 0,.int 0 0,.ref 157,.int 46 0,.int 0 0,.ref 164,.int 51 0,.int 0 0,.ref 171,.int 58 0,.int 0 0,.ref 178,.int 63 0,.int 0 0,.ref 185,.int 69 0,.int 0 0,.ref 193,.int 77 0,.int 0 0,.ref 198,.int 86 0,.int 0 0,.ref 205,.int 89 0,.int 0 0,.ref 210,.int 96 0,.int 0 0,.ref 217,.int 98 0,.int 0 0,.ref 224,.int 104 0,.int 0 0,.ref 231,.int 109 0,.int 0 0,.ref 236,.int 112 0,.int 0 0,.ref 243,.int 115 0,.int 0 0,.ref 250,.int 118 0,.int 0 0,.ref 257,.int 121 0,.int 0 0,.ref 264,.int 125 0,.int 0 0,.ref 272,.int 129 0,.int 0 0,.ref 279,.int 134 0,.int 0 0,.ref 284,.int 136 0,.int 0 0,.ref 291,.int 140 0,.int 0 0,.ref 298,.int 148 0,.int 0 0,.ref 305]}))++[o1,
 o4,
 xS "thing" 324 "low" "high",
 o1,
 o6 "is_between" 10,
 o7 "is_between" 321 "is_between" 23 3 114 327 328,
 o8 "is_between" 10 "leastdeeds.wholes" 319 119,
 o1,
 o4,
 mx "words" 347 "thing",
 o1,
 o6 "is_word" 18,
 o7 "is_word" 344 "is_word" 34 2 121 349 350,
 o8 "is_word" 18 "leastdeeds.machines" 330 126,
 o1,
 o4,
 mx "places" 355 "thing",
 o1,
 o6 "is_place" 19,
 o7 "is_place" 352 "is_place" 36 2 128 357 358,
 o8 "is_place" 19 "leastdeeds.machines" 330 133,
 o1,
 o4,
 o5 "thing" 363,
 o1,
 o6 "is_cost" 20,
 o7 "is_cost" 360 "is_cost" 38 1 135 364 365,
 o8 "is_cost" 20 "leastdeeds.machines" 330 140,
 o1,
 o4,
 mx "long" 370 "thing",
 o1,
 o6 "is_tuple_of" 21,
 o7 "is_tuple_of" 367 "is_tuple_of" 40 2 142 372 373,
 o8 "is_tuple_of" 21 "leastdeeds.machines" 330 147,
 o1,
 o4,
 o6 "is_table" 22,
 kC "is_table" 375 42 2 149 378,
 o8 "is_table" 22 "leastdeeds.machines" 330 152,
 o1,
 o4,
 o6 "is_double_table" 23,
 kC "is_double_table" 381 44 2 154 384,
 o8 "is_double_table" 23 "leastdeeds.machines" 330 157,
 o1,
 o4,
 rW "words" 390 "places" "parts" "at" "table" "price",
 o1,
 o6 "is_turn" 24,
 o7 "is_turn" 387 "is_turn" 46 3 159 396 397,
 o8 "is_turn" 24 "leastdeeds.machines" 330 164,
 o1,
 o4,
 Gu "words" 402 "places" "parts" "at" "other" "table" "price",
 o1,
 o6 "is_join" 25,
 o7 "is_join" 399 "is_join" 51 3 166 409 410,
 o8 "is_join" 25 "leastdeeds.machines" 330 171,
 o1,
 o4,
 rW "words" 415 "places" "parts" "at" "other" "price",
 o1,
 o6 "is_move" 26,
 o7 "is_move" 412 "is_move" 58 3 173 421 422,
 o8 "is_move" 26 "leastdeeds.machines" 330 178,
 o1,
 o4,
 rW "words" 427 "places" "parts" "at" "word" "price",
 o1,
 o6 "is_put" 27,
 o7 "is_put" 424 "is_put" 63 3 180 433 434,
 o8 "is_put" 27 "leastdeeds.machines" 330 185,
 JY P 436 165,
 o1,
 o4,
 Gs "words" 448 "places" "thing" "sort" "is_sort",
 o1,
 o6 "is_deed" 29,
 o7 "is_deed" 445 "is_deed" 69 3 188 453 454,
 o8 "is_deed" 29 "leastdeeds.machines" 330 193,
 o1,
 o4,
 o6 "is_machine" 30,
 kC "is_machine" 456 77 1 195 459,
 o8 "is_machine" 30 "leastdeeds.machines" 330 198,
 o1,
 o4,
 o5 "thing" 465,
 o1,
 o6 "need_machine" 31,
 o7 "need_machine" 462 "need_machine" 86 1 200 466 467,
 o8 "need_machine" 31 "leastdeeds.machines" 330 205,
 o1,
 o4,
 o6 "beginnings" 32,
 kC "beginnings" 469 89 1 207 472,
 o8 "beginnings" 32 "leastdeeds.machines" 330 210,
 o1,
 o4,
 mx "machine" 478 "thing",
 o1,
 o6 "is_deed_number" 33,
 o7 "is_deed_number" 475 "is_deed_number" 96 2 212 480 481,
 o8 "is_deed_number" 33 "leastdeeds.machines" 330 217,
 o1,
 o4,
 BL "machine" 486 "row" "place" "thing",
 o1,
 o6 "need_numbers" 34,
 o7 "need_numbers" 483 "need_numbers" 98 2 219 490 491,
 o8 "need_numbers" 34 "leastdeeds.machines" 330 224,
 o1,
 o4,
 mx "machine" 496 "row",
 o1,
 o6 "need_row" 35,
 o7 "need_row" 493 "need_row" 104 2 226 498 499,
 o8 "need_row" 35 "leastdeeds.machines" 330 231,
 o1,
 o4,
 o6 "summed_cost" 36,
 kC "summed_cost" 501 109 2 233 504,
 o8 "summed_cost" 36 "leastdeeds.machines" 330 236,
 o1,
 o4,
 rW "deed" 512 "standing" "sort" "at" "table" "price",
 o1,
 o6 "turned" 38,
 o7 "turned" 509 "turned" 112 2 238 518 519,
 o8 "turned" 38 "leastdeeds.runs" 507 243,
 o1,
 o4,
 Gu "deed" 524 "standing" "sort" "at" "other" "table" "price",
 o1,
 o6 "joined" 39,
 o7 "joined" 521 "joined" 115 2 245 531 532,
 o8 "joined" 39 "leastdeeds.runs" 507 250,
 o1,
 o4,
 rW "deed" 537 "standing" "sort" "at" "other" "price",
 o1,
 o6 "moved" 40,
 o7 "moved" 534 "moved" 118 2 252 543 544,
 o8 "moved" 40 "leastdeeds.runs" 507 257,
 o1,
 o4,
 rW "deed" 549 "standing" "sort" "at" "word" "price",
 o1,
 o6 "put_in" 41,
 o7 "put_in" 546 "put_in" 121 2 259 555 556,
 o8 "put_in" 41 "leastdeeds.runs" 507 264,
 JY P 558 244,
 o1,
 o4,
 BL "deed" 570 "standing" "new_word" "at",
 o1,
 o6 "done" 43,
 o7 "done" 567 "done" 125 2 267 574 575,
 o8 "done" 43 "leastdeeds.runs" 507 272,
 o1,
 o4,
 Gs "machine" 580 "row" "beginning" "standings" "number",
 o1,
 o6 "all_standing" 44,
 o7 "all_standing" 577 "all_standing" 129 3 274 585 586,
 o8 "all_standing" 44 "leastdeeds.runs" 507 279,
 o1,
 o4,
 o6 "ends_of" 45,
 kC "ends_of" 588 134 2 281 591,
 o8 "ends_of" 45 "leastdeeds.runs" 507 284,
 o1,
 o4,
 mx "machine" 597 "row",
 o1,
 o6 "behaviour" 46,
 o7 "behaviour" 594 "behaviour" 136 2 286 599 600,
 o8 "behaviour" 46 "leastdeeds.runs" 507 291,
 o1,
 o4,
 JX "machine" 607 "one" "other" "one_ends" "other_ends" "start" "one_end" "other_end",
 o1,
 o6 "parted" 48,
 o7 "parted" 604 "parted" 140 3 293 615 616,
 o8 "parted" 48 "leastdeeds.alike" 602 298,
 o1,
 o9,
 {cls:=.type "dict",data:=.dict #[eN P "__module__" 627 (.str "leastdeeds.shop" 618),eN P "__qualname__" 629 (.str "Shop" 628),eN P "__firstlineno__" 631 (.int 148 630),eN P "__init__" 640 (.ref 313),eN P "row" 647 (.ref 320),eN P "cost" 654 (.ref 327),eN P "behaviour" 661 (.ref 334),eN P "least" 668 (.ref 341),eN P "put" 677 (.ref 348),eN P "out" 685 (.ref 355),eN P "back" 692 (.ref 362),eN P "change" 700 (.ref 369),eN P "give" 709 (.ref 376),eN P "__static_attributes__" 713 (.ref 377)] 14},
 o1,
 {cls:=.none,data:=.fields #[.int 150 0,.int 4 0,.ref 312,.int 156 0,.int 4 0,.ref 319,.int 159 0,.int 4 0,.ref 326,.int 162 0,.int 4 0,.ref 333,.int 165 0,.int 4 0,.ref 340,.int 168 0,.int 4 0,.ref 347,.int 177 0,.int 4 0,.ref 354,.int 182 0,.int 4 0,.ref 361,.int 187 0,.int 4 0,.ref 368,.int 191 0,.int 4 0,.ref 375]},
 o2 "Shop" 622 148 303 625,
 o3 305 302 "leastdeeds.shop" 618,
 o1,
 o4,
 xS "self" 635 "machine" "row",
 o1,
 kQ "__init__" "Shop.__init__" 0 50,
 o7 "__init__" 632 "Shop.__init__" 150 3 307 638 639,
 kO "__init__" "Shop.__init__" 0 50 "leastdeeds.shop" 618 312,
 o1,
 o4,
 o5 "self" 644,
 o1,
 kQ "row" "Shop.row" 1 50,
 o7 "row" 641 "Shop.row" 156 1 314 645 646,
 kO "row" "Shop.row" 1 50 "leastdeeds.shop" 618 319,
 o1,
 o4,
 o5 "self" 651,
 o1,
 kQ "cost" "Shop.cost" 2 50,
 o7 "cost" 648 "Shop.cost" 159 1 321 652 653,
 kO "cost" "Shop.cost" 2 50 "leastdeeds.shop" 618 326,
 o1,
 o4,
 o5 "self" 658,
 o1,
 kQ "behaviour" "Shop.behaviour" 3 50,
 o7 "behaviour" 655 "Shop.behaviour" 162 1 328 659 660,
 kO "behaviour" "Shop.behaviour" 3 50 "leastdeeds.shop" 618 333,
 o1,
 o4,
 o5 "self" 665,
 o1,
 kQ "least" "Shop.least" 4 50,
 o7 "least" 662 "Shop.least" 165 1 335 666 667,
 kO "least" "Shop.least" 4 50 "leastdeeds.shop" 618 340,
 o1,
 o4,
 xS "self" 672 "place" "number",
 o1,
 kQ "put" "Shop.put" 5 50,
 o7 "put" 669 "Shop.put" 168 3 342 675 676,
 kO "put" "Shop.put" 5 50 "leastdeeds.shop" 618 347,
 o1,
 o4,
 mx "self" 681 "place",
 o1,
 kQ "out" "Shop.out" 6 50,
 o7 "out" 678 "Shop.out" 177 2 349 683 684,
 kO "out" "Shop.out" 6 50 "leastdeeds.shop" 618 354,
 o1,
 o4,
 o5 "self" 689,
 o1,
 kQ "back" "Shop.back" 7 50,
 o7 "back" 686 "Shop.back" 182 1 356 690 691,
 kO "back" "Shop.back" 7 50 "leastdeeds.shop" 618 361,
 o1,
 o4,
 mx "self" 696 "row",
 o1,
 kQ "change" "Shop.change" 8 50,
 o7 "change" 693 "Shop.change" 187 2 363 698 699,
 kO "change" "Shop.change" 8 50 "leastdeeds.shop" 618 368,
 o1,
 o4,
 xS "self" 704 "row" "start",
 o1,
 kQ "give" "Shop.give" 9 50,
 o7 "give" 701 "Shop.give" 191 2 370 707 708,
 kO "give" "Shop.give" 9 50 "leastdeeds.shop" 618 375,
 xS "earlier" 710 "machine" "standing",
 o30 P,
 o31,
 {cls:=.type "getset_descriptor",data:=.fields #[.str "__dict__" 714,.ref 379,.builtin "function.__dict__",.builtin "function.__dict__#set"]},
 JZ 716 379,
 pY 379,
 pX 379]
noncomputable def J7 (P:Nq):List Obj:=((J8 P).set 1 ({cls:=.none,data:=.fields #[.int 1 0,.int 0 0,.ref 20,.int 5 0,.int 0 0,.ref 27,.int 7 0,.int 0 0,.ref 40,.int 12 0,.int 0 0,.ref 59,.int 14 0,.int 0 0,.ref 71,.int 16 0,.int 0 0,.ref 83,.int 18 0,.int 0 0,.ref 95,.int 20 0,.int 0 0,.ref 107,.int 23 0,.int 0 0,.ref 119,.int 34 0,.int 0 0,.ref 126,.int 36 0,.int 0 0,.ref 133,.int 38 0,.int 0 0,.ref 140,.int 40 0,.int 0 0,.ref 147,.int 42 0,.int 0 0,.ref 152,.int 44 0,.int 0 0,.ref 157,.int 46 0,.int 0 0,.ref 164,.int 51 0,.int 0 0,.ref 171,.int 58 0,.int 0 0,.ref 178,.int 63 0,.int 0 0,.ref 185,.int 69 0,.int 0 0,.ref 193,.int 77 0,.int 0 0,.ref 198,.int 86 0,.int 0 0,.ref 205,.int 89 0,.int 0 0,.ref 210,.int 96 0,.int 0 0,.ref 217,.int 98 0,.int 0 0,.ref 224,.int 104 0,.int 0 0,.ref 231,.int 109 0,.int 0 0,.ref 236,.int 112 0,.int 0 0,.ref 243,.int 115 0,.int 0 0,.ref 250,.int 118 0,.int 0 0,.ref 257,.int 121 0,.int 0 0,.ref 264,.int 125 0,.int 0 0,.ref 272,.int 129 0,.int 0 0,.ref 279,.int 134 0,.int 0 0,.ref 284,.int 136 0,.int 0 0,.ref 291,.int 140 0,.int 0 0,.ref 298,.int 148 0,.int 0 0,.ref 305,.int 196 0,.int 0 0,.ref 389,.int 205 0,.int 0 0,.ref 396,.int 210 0,.int 0 0,.ref 403,.int 213 0,.int 0 0,.ref 410,.int 226 0,.int 0 0,.ref 415,.int 240 0,.int 0 0,.ref 420,.int 256 0,.int 0 0,.ref 425,.int 268 0,.int 0 0,.ref 432,.int 279 0,.int 0 0,.ref 437,.int 286 0,.int 0 0,.ref 444,.int 297 0,.int 0 0,.ref 451,.int 301 0,.int 0 0,.ref 458,.int 303 0,.int 0 0,.ref 465,.int 313 0,.int 0 0,.ref 470]}))++[o1,
 o4,
 rW "cell" 726 "at" "primes" "one" "two" "three",
 o1,
 o6 "_law_spread" 52,
 o7 "_law_spread" 723 "_law_spread" 196 2 384 732 733,
 o8 "_law_spread" 52 ib 721 389,
 o1,
 o4,
 BL "script" 738 "cells" "k" "cell",
 o1,
 o6 "_law_open" 53,
 o7 "_law_open" 735 "_law_open" 205 1 391 742 743,
 o8 "_law_open" 53 ib 721 396,
 o1,
 o4,
 o5 "pen" 748,
 o1,
 o6 "_law_anew" 54,
 o7 "_law_anew" 745 "_law_anew" 210 1 398 749 750,
 o8 "_law_anew" 54 ib 721 403,
 o1,
 o4,
 Gs "pen" 755 "many" "at" "cell" "found",
 o1,
 o6 "_law_take" 55,
 o7 "_law_take" 752 "_law_take" 213 2 405 760 761,
 o8 "_law_take" 55 ib 721 410,
 o1,
 o4,
 o6 "_law_same" 56,
 kC "_law_same" 763 226 2 412 766,
 o8 "_law_same" 56 ib 721 415,
 o1,
 o4,
 o6 "_law_tab" 57,
 kC "_law_tab" 769 240 2 417 772,
 o8 "_law_tab" 57 ib 721 420,
 o1,
 o4,
 o6 "_law_deed" 58,
 kC "_law_deed" 775 256 3 422 778,
 o8 "_law_deed" 58 ib 721 425,
 o1,
 o4,
 JX "pen" 784 "words" "places" "most" "deeds" "k" "again" "deed",
 o1,
 o6 "_law_machine" 59,
 o7 "_law_machine" 781 "_law_machine" 268 4 427 792 793,
 o8 "_law_machine" 59 ib 721 432,
 o1,
 o4,
 o6 "_law_row" 60,
 kC "_law_row" 795 279 3 434 798,
 o8 "_law_row" 60 ib 721 437,
 o1,
 o4,
 Gu "pen" 804 "machine" "rows" "way" "row" "at" "number",
 o1,
 o6 "_law_change" 61,
 o7 "_law_change" 801 "_law_change" 286 3 439 811 812,
 o8 "_law_change" 61 ib 721 444,
 o1,
 o4,
 mx "shop" 817 "told",
 o1,
 o6 "_law_do" 62,
 o7 "_law_do" 814 "_law_do" 297 2 446 819 820,
 o8 "_law_do" 62 ib 721 451,
 o1,
 o4,
 o1,
 o1,
 o6 "_law_orders" 63,
 o7 "_law_orders" 822 "_law_orders" 301 0 453 825 826,
 o8 "_law_orders" 63 ib 721 458,
 o1,
 o4,
 BL "shop" 831 "turn" "found" "at",
 o1,
 o6 "_law_look_by" 64,
 o7 "_law_look_by" 828 "_law_look_by" 303 2 460 835 836,
 o8 "_law_look_by" 64 ib 721 465,
 o1,
 o4,
 o6 "_law_alone" 65,
 kC "_law_alone" 838 313 3 467 841,
 o8 "_law_alone" 65 ib 721 470]
noncomputable def kh:Nq->LX:=fun P=>[(2,{cls:=.none,data:=.dict #[]}),
 (3,{cls:=.type "dict",data:=.dict (eN P "__name__" 165 (.str ib 721)::kg3 P).toArray 69}),
 (475,kC "law" 844 317 1 472 847),
 (476,o8 "law" 66 ib 721 475)]++List.map (fun a=>(a,(J7 P).getD (a-11) o1)) [20,21,30,31,47,48,50,51,62,63,74,75,86,87,98,99,110,111,119,120,126,127,133,134,140,141,147,148,152,153,157,158,164,165,171,172,178,179,185,186,187,193,194,198,199,205,206,210,211,217,218,224,225,231,232,236,237,243,244,250,251,257,258,264,265,266,272,273,279,280,284,285,291,292,298,299,312,313,319,320,326,327,333,334,347,348,354,355,361,362,368,369,375,376,378,379,389,390,396,397,403,404,410,411,415,416,420,421,425,426,432,433,437,438,444,445,451,452,458,459,465,466,470,471]
noncomputable def GZ:List Addr:=[2,3,475,476]++[20,21,30,31,47,48,50,51,62,63,74,75,86,87,98,99,110,111,119,120,126,127,133,134,140,141,147,148,152,153,157,158,164,165,171,172,178,179,185,186,187,193,194,198,199,205,206,210,211,217,218,224,225,231,232,236,237,243,244,250,251,257,258,264,265,266,272,273,279,280,284,285,291,292,298,299,312,313,319,320,326,327,333,334,347,348,354,355,361,362,368,369,375,376,378,379,389,390,396,397,403,404,410,411,415,416,420,421,425,426,432,433,437,438,444,445,451,452,458,459,465,466,470,471]
theorem KW:∀P,GZ=(kh P).map (·.1):=fun _=>by kernel_rfl
noncomputable def kq:Ms:=PySem.W.view PySem.Challenge.pw_leastdeeds_k52_two_shops_by_turns [0,2,3,4,5,6,7,8,10,12,13,14,15,16,17,18,19,20,21,22,23,24,25,26,27,28,29,30,31,32,33,34,35,36,38,39,40,41,42,43,44,45,46,48,50,52,53,54,55,56,57,58,59,60,61,62,63,64,65,66]
abbrev kH:PySem.W.Hook:=PySem.W.kHook kh GZ KW
noncomputable def n5:List Str:=["SORTS","NEW_WORDS"]
abbrev vF:=PySem.Challenge.rw_leastdeeds_k52_two_shops_by_turns.row
abbrev kX:L4->Bool:=fun s=>PySem.W.xlAt kq [] s&&PySem.W.recOk (PySem.W.RowW.records vF.toRowW) s
noncomputable def B2 (P:Nq)(os:MV):MY:=⟨HD.treeOf ((((PySem.W.boot_heap P).objs.toList.set 3 ({cls:=.type "dict",data:=.dict (eN P "__name__" 165 (.str "leastdeeds.errors" 194)::J6 P).toArray 17})))++J9 P) 0 .nil,114,{},#[],{},319,os⟩
noncomputable def B1 (P:Nq)(os:MV):MY:=⟨HD.treeOf ((((PySem.W.boot_heap P).objs.toList.set 3 ({cls:=.type "dict",data:=.dict (eN P "__name__" 165 (.str "leastdeeds.shop" 618)::J5 P).toArray 54})))++J8 P) 0 .nil,384,{},#[],{},721,os⟩
noncomputable def B0 (P:Nq)(os:MV):MY:=⟨HD.treeOf ((((PySem.W.boot_heap P).objs.toList.set 3 ({cls:=.type "dict",data:=.dict (eN P "__name__" 165 (.str ib 721)::J4 P).toArray 68})))++J7 P) 0 .nil,472,{},#[],{},844,os⟩
noncomputable def kE:Env:={scope:=PySem.Challenge.pw_leastdeeds_k52_two_shops_by_turns.main.scope,locals:=mainNs,globals:=mainNs,cells:=[],code:=.ref 13,frame:=some 14}
noncomputable def kP (w:Mv)(os:MV):=HD.uE treeTable PySem.Challenge.pw_leastdeeds_k52_two_shops_by_turns w 11 (some (.ref 6)) 12 (HD.vY w.params os) (PySem.W.topStub PySem.Challenge.pw_leastdeeds_k52_two_shops_by_turns)
noncomputable def BW (w:Mv)(os:MV):=(kP w os).bind fun x=>HD.j7 treeTable PySem.Challenge.pw_leastdeeds_k52_two_shops_by_turns w 11 (some (.ref 6)) 1535 x.1 (PySem.W.piecesOf ((PySem.W.behindTheImports PySem.Challenge.pw_leastdeeds_k52_two_shops_by_turns).take 9) kE (.body (PySem.W.behindTheImports PySem.Challenge.pw_leastdeeds_k52_two_shops_by_turns) kE) ⟨0,0,0,0⟩ [PySem.W.topFrame ⟨0,0,0,0⟩])
noncomputable def BS (w:Mv)(os:MV):Option (Flow×MY×Code×Pos):=some (.next,B2 w.params os,(.body (PySem.W.behindTheImports PySem.Challenge.pw_leastdeeds_k52_two_shops_by_turns) kE),⟨20,0,21,8⟩)
noncomputable def BV (w:Mv)(os:MV):=HD.j7 treeTable PySem.Challenge.pw_leastdeeds_k52_two_shops_by_turns w 11 (some (.ref 6)) 1623 (B2 w.params os) (PySem.W.piecesOf (((PySem.W.behindTheImports PySem.Challenge.pw_leastdeeds_k52_two_shops_by_turns).drop 9).take 42) kE (.body (PySem.W.behindTheImports PySem.Challenge.pw_leastdeeds_k52_two_shops_by_turns) kE) ⟨20,0,21,8⟩ [PySem.W.topFrame ⟨0,0,0,0⟩])
noncomputable def BR (w:Mv)(os:MV):Option (Flow×MY×Code×Pos):=some (.next,B1 w.params os,(.body (PySem.W.behindTheImports PySem.Challenge.pw_leastdeeds_k52_two_shops_by_turns) kE),⟨148,0,194,20⟩)
noncomputable def BU (w:Mv)(os:MV):=HD.j7 treeTable PySem.Challenge.pw_leastdeeds_k52_two_shops_by_turns w 11 (some (.ref 6)) 429 (B1 w.params os) (PySem.W.piecesOf ((((PySem.W.behindTheImports PySem.Challenge.pw_leastdeeds_k52_two_shops_by_turns).drop 9).drop 42).take 15) kE (.body (PySem.W.behindTheImports PySem.Challenge.pw_leastdeeds_k52_two_shops_by_turns) kE) ⟨148,0,194,20⟩ [PySem.W.topFrame ⟨0,0,0,0⟩])
noncomputable def BQ (w:Mv)(os:MV):Option (Flow×MY×Code×Pos):=some (.next,B0 w.params os,(.body (PySem.W.behindTheImports PySem.Challenge.pw_leastdeeds_k52_two_shops_by_turns) kE),⟨313,0,316,48⟩)
noncomputable def kR (w:Mv)(os:MV):=HD.gH treeTable PySem.Challenge.pw_leastdeeds_k52_two_shops_by_turns w 11 (some (.ref 6)) 3746 (B0 w.params os) (PySem.W.restOf ((((PySem.W.behindTheImports PySem.Challenge.pw_leastdeeds_k52_two_shops_by_turns).drop 9).drop 42).drop 15) kE (.body (PySem.W.behindTheImports PySem.Challenge.pw_leastdeeds_k52_two_shops_by_turns) kE) ⟨313,0,316,48⟩ [PySem.W.topFrame ⟨0,0,0,0⟩])
abbrev GR (P:Nq)(s:MY):=HD.kc PySem.Challenge.pw_leastdeeds_k52_two_shops_by_turns kq n5 kX true (PySem.W.boot_heap P) (fun s=>GZ.map s.heap.get?) s.abs
noncomputable def BZ (w:Mv)(os:MV):=(kR w os).map fun s=>(GR w.params s).1
noncomputable def BY (w:Mv)(os:MV):=(kR w os).map fun s=>(GR w.params s).2.1
noncomputable def BX (w:Mv)(os:MV):=(kR w os).map fun s=>(GR w.params s).2.2
noncomputable def B5 (w:Mv):=some true
noncomputable def B4 (w:Mv):=some (PySem.W.openGood kq n5)
noncomputable def B3 (w:Mv):=some ((kh w.params).map fun p=>some p.2)
noncomputable def _root_.PySem.W.Fast.tw18062509965067290058:Ms:=PySem.Challenge.pw_leastdeeds_k52_two_shops_by_turns
theorem _root_.PySem.W.Fast.te18062509965067290058:PySem.Challenge.pw_leastdeeds_k52_two_shops_by_turns=PySem.W.Fast.tw18062509965067290058:=rfl
noncomputable def _root_.PySem.W.Fast.tw10592403910469716961:Nq->LX:=K52.kh
theorem _root_.PySem.W.Fast.te10592403910469716961:K52.kh=PySem.W.Fast.tw10592403910469716961:=rfl
noncomputable def _root_.PySem.W.Fast.tw5649914944474526444:Nq->MV->MY:=K52.B2
theorem _root_.PySem.W.Fast.te5649914944474526444:K52.B2=PySem.W.Fast.tw5649914944474526444:=rfl
noncomputable def _root_.PySem.W.Fast.tw13355244017368632860:Nq->MV->MY:=K52.B1
theorem _root_.PySem.W.Fast.te13355244017368632860:K52.B1=PySem.W.Fast.tw13355244017368632860:=rfl
noncomputable def _root_.PySem.W.Fast.tw12504919135949658507:Nq->MV->MY:=K52.B0
theorem _root_.PySem.W.Fast.te12504919135949658507:K52.B0=PySem.W.Fast.tw12504919135949658507:=rfl
theorem Lb:BZ=BZ:=rfl
name_quick kq1_52 for BZ by Lb
theorem La:BY=BY:=rfl
name_quick kq2_52 for BY by La
theorem Ld:B4=B4:=rfl
name_quick kg2_52 for B4 by Ld
theorem K9:BX=BX:=rfl
name_quick kq3_52 for BX by K9
theorem Lc:B3=B3:=rfl
name_quick kg3_52 for B3 by Lc
theorem K8:BW=BW:=rfl
name_quick kua52 for BW by K8
theorem K0:BS=BS:=rfl
name_quick kva52 for BS by K0
theorem K5:BV=BV:=rfl
name_quick kub52 for BV by K5
theorem KZ:BR=BR:=rfl
name_quick kvb52 for BR by KZ
theorem K1:BU=BU:=rfl
name_quick kuc52 for BU by K1
theorem KY:BQ=BQ:=rfl
name_quick kvc52 for BQ by KY
theorem yk:∀(w:Mv) (os:MV),PySem.W.Fast.kua52 (w.withFollow "special-get-raises" false) os=PySem.W.Fast.kva52 (w.withFollow "special-get-raises" false) os:=fun w os=>by kernel_rfl
theorem AF:∀(w:Mv) (os:MV),PySem.W.Fast.kua52 (w.withFollow "special-get-raises" true) os=PySem.W.Fast.kva52 (w.withFollow "special-get-raises" true) os:=fun w os=>by kernel_rfl
theorem ka0:∀(w:Mv) (os:MV),BW w os=BS w os:=fun w os=>by
 rw [PySem.W.Fast.kua52_eq,PySem.W.Fast.kva52_eq]
 exact PySem.W.byRow2 "special-get-raises" (P:=fun w=>PySem.W.Fast.kua52 w os=PySem.W.Fast.kva52 w os) (fun w=>yk w os) (fun w=>AF w os) w
theorem yj:∀(w:Mv) (os:MV),PySem.W.Fast.kub52 (w.withFollow "special-get-raises" false) os=PySem.W.Fast.kvb52 (w.withFollow "special-get-raises" false) os:=fun w os=>by kernel_rfl
theorem AE:∀(w:Mv) (os:MV),PySem.W.Fast.kub52 (w.withFollow "special-get-raises" true) os=PySem.W.Fast.kvb52 (w.withFollow "special-get-raises" true) os:=fun w os=>by kernel_rfl
theorem ka1:∀(w:Mv) (os:MV),BV w os=BR w os:=fun w os=>by
 rw [PySem.W.Fast.kub52_eq,PySem.W.Fast.kvb52_eq]
 exact PySem.W.byRow2 "special-get-raises" (P:=fun w=>PySem.W.Fast.kub52 w os=PySem.W.Fast.kvb52 w os) (fun w=>yj w os) (fun w=>AE w os) w
theorem yi:∀(w:Mv) (os:MV),PySem.W.Fast.kuc52 (w.withFollow "special-get-raises" false) os=PySem.W.Fast.kvc52 (w.withFollow "special-get-raises" false) os:=fun w os=>by kernel_rfl
theorem AD:∀(w:Mv) (os:MV),PySem.W.Fast.kuc52 (w.withFollow "special-get-raises" true) os=PySem.W.Fast.kvc52 (w.withFollow "special-get-raises" true) os:=fun w os=>by kernel_rfl
theorem ka2:∀(w:Mv) (os:MV),BU w os=BQ w os:=fun w os=>by
 rw [PySem.W.Fast.kuc52_eq,PySem.W.Fast.kvc52_eq]
 exact PySem.W.byRow2 "special-get-raises" (P:=fun w=>PySem.W.Fast.kuc52 w os=PySem.W.Fast.kvc52 w os) (fun w=>yi w os) (fun w=>AD w os) w
theorem yg:∀(w:Mv) (os:MV),PySem.W.Fast.kq1_52 (w.withFollow "special-get-raises" false) os=B5 (w.withFollow "special-get-raises" false):=fun w os=>by kernel_rfl
theorem AB:∀(w:Mv) (os:MV),PySem.W.Fast.kq1_52 (w.withFollow "special-get-raises" true) os=B5 (w.withFollow "special-get-raises" true):=fun w os=>by kernel_rfl
theorem kl1:∀(w:Mv) (os:MV),BZ w os=B5 w:=fun w os=>by
 rw [PySem.W.Fast.kq1_52_eq]
 exact PySem.W.byRow2 "special-get-raises" (P:=fun w=>PySem.W.Fast.kq1_52 w os=B5 w) (fun w=>yg w os) (fun w=>AB w os) w
theorem yf:∀(w:Mv) (os:MV),PySem.W.Fast.kq2_52 (w.withFollow "special-get-raises" false) os=PySem.W.Fast.kg2_52 (w.withFollow "special-get-raises" false):=fun w os=>by kernel_rfl
theorem AA:∀(w:Mv) (os:MV),PySem.W.Fast.kq2_52 (w.withFollow "special-get-raises" true) os=PySem.W.Fast.kg2_52 (w.withFollow "special-get-raises" true):=fun w os=>by kernel_rfl
theorem kl2:∀(w:Mv) (os:MV),BY w os=B4 w:=fun w os=>by
 rw [PySem.W.Fast.kq2_52_eq,PySem.W.Fast.kg2_52_eq]
 exact PySem.W.byRow2 "special-get-raises" (P:=fun w=>PySem.W.Fast.kq2_52 w os=PySem.W.Fast.kg2_52 w) (fun w=>yf w os) (fun w=>AA w os) w
theorem yd:∀(w:Mv) (os:MV),PySem.W.Fast.kq3_52 (w.withFollow "special-get-raises" false) os=PySem.W.Fast.kg3_52 (w.withFollow "special-get-raises" false):=fun w os=>by kernel_rfl
theorem Az:∀(w:Mv) (os:MV),PySem.W.Fast.kq3_52 (w.withFollow "special-get-raises" true) os=PySem.W.Fast.kg3_52 (w.withFollow "special-get-raises" true):=fun w os=>by kernel_rfl
theorem kl3:∀(w:Mv) (os:MV),BX w os=B3 w:=fun w os=>by
 rw [PySem.W.Fast.kq3_52_eq,PySem.W.Fast.kg3_52_eq]
 exact PySem.W.byRow2 "special-get-raises" (P:=fun w=>PySem.W.Fast.kq3_52 w os=PySem.W.Fast.kg3_52 w) (fun w=>yd w os) (fun w=>Az w os) w
theorem kp:∀(w:Mv) (os:MV),(kP w os).map (·.2)=some ⟨denote treeTable (.body (PySem.W.behindTheImports PySem.Challenge.pw_leastdeeds_k52_two_shops_by_turns) kE),(.body (PySem.W.behindTheImports PySem.Challenge.pw_leastdeeds_k52_two_shops_by_turns) kE),⟨0,0,0,0⟩,[PySem.W.topFrame ⟨0,0,0,0⟩]⟩:=fun w os=>by kernel_rfl
theorem IW:PySem.W.LeftO vF.prog kq n5 kX kH.obs kH.val 7346:=HD.tJ (m0:=11) (ann:=some (.ref 6)) (PySem.W.boot_open (by rfl) (by decide) (fun _=>rfl)) (fun w=>by kernel_rfl) fun w os=>HD.yE (J:=9) (kp w os) (by kernel_rfl) (ka0 w os) (HD.sM (J:=42) (ka1 w os) (HD.sM (J:=15) (ka2 w os) (HD.yD (kl1 w os) (kl2 w os) (kl3 w os))))
end K52
namespace L2
open PySem PySem.Spec PyProof.Rows
abbrev Key:=Sum Int Str
noncomputable def qI:Key->LY->Bool
 |.inl k,v=>Value.isInt k v
 |.inr x,v=>Value.isStrOf x v
noncomputable def KU (w:Mv):Key->Int
 |.inl k=>hashInt k
 |.inr x=>hashStr w x
theorem cK:∀{k:Key}{v:LY},qI k v=true->(∃i t,k=Sum.inl i/\v=Value.int i t)\/(∃x t,k=Sum.inr x/\v=Value.str x t)
 | .inl i, v, h => by
   obtain ⟨t,e⟩:=Value.isInt_shape (k:=i) (v:=v) h
   exact .inl ⟨i,t,rfl,e⟩
 | .inr x, v, h => by
   obtain ⟨t,e⟩:=Value.isStrOf_shape (x:=x) (v:=v) h
   exact .inr ⟨x,t,rfl,e⟩
theorem jq (x:Str)(t:Tok):qI (.inr x) (.str x t)=true:=by simp [qI,Value.isStrOf]
theorem GY (a b:Int):decide ((Sum.inl a:Key)=Sum.inl b)=(a==b):=by
 by_cases e:a=b
 ·subst e;simp
 ·have h:¬ (Sum.inl a:Key)=Sum.inl b:=fun q=>e (Sum.inl.inj q)
  rw [decide_eq_false h]
  exact (MP.mpr e).symm
theorem GU (a b:Str):decide ((Sum.inr a:Key)=Sum.inr b)=decide (a=b):=by
 by_cases e:a=b
 ·subst e;simp
 ·have h:¬ (Sum.inr a:Key)=Sum.inr b:=fun q=>e (Sum.inr.inj q)
  rw [decide_eq_false h,decide_eq_false e]
theorem GX (a:Int)(b:Str):decide ((Sum.inl a:Key)=Sum.inr b)=false:=decide_eq_false (fun q=>nomatch q)
theorem GV (a:Str)(b:Int):decide ((Sum.inr a:Key)=Sum.inl b)=false:=decide_eq_false (fun q=>nomatch q)
noncomputable def jQ (prog:Ms)(w:Mv):PySem.KeyKind prog w Key where
 is:=qI
 hash:=KU w
 inj:=fun v a b ha hb=>by
  rcases cK ha with ⟨i,t,rfl,rfl⟩|⟨x,t,rfl,rfl⟩
  ·rcases cK hb with ⟨j,u,rfl,e⟩|⟨y,u,rfl,e⟩
   ·injection e with e1 _;rw [e1]
   ·exact nomatch e
  ·rcases cK hb with ⟨j,u,rfl,e⟩|⟨y,u,rfl,e⟩
   ·exact nomatch e
   ·injection e with e1 _;rw [e1]
 byValue:=fun k v h=>by
  rcases cK h with ⟨i,t,rfl,rfl⟩|⟨x,t,rfl,rfl⟩<;>rfl
 pyHash:=fun hv h=>by
  rcases cK hv with ⟨i,t,rfl,rfl⟩|⟨x,t,rfl,rfl⟩
  ·exact wpAny_pyHash_int h
  ·exact wpAny_pyHash_str h
 eqBool:=fun hu hv h=>by
  rcases cK hu with ⟨i,t,rfl,rfl⟩|⟨x,t,rfl,rfl⟩
  ·rcases cK hv with ⟨j,u,rfl,rfl⟩|⟨y,u,rfl,rfl⟩
   ·rw [GY] at h;exact wpAny_eqBool_int h
   ·rw [GX] at h;exact SeqAt.EqAt.int_str i t y u _ _ _ _ h
  ·rcases cK hv with ⟨j,u,rfl,rfl⟩|⟨y,u,rfl,rfl⟩
   ·rw [GV] at h;exact SeqAt.EqAt.str_int x t j u _ _ _ _ h
   ·rw [GU] at h;exact wpAny_eqBool_str h
 «strs»:=fun k x t v h=>by
  rcases cK h with ⟨i,u,rfl,e⟩|⟨y,u,rfl,e⟩
  ·exact nomatch e
  ·injection e with e1 _
   subst e1
   cases v<;>rfl
end L2
namespace L2
open PySem PySem.Spec PyProof.Rows
inductive V where
 |non|bl (b:Bool)|int (i:Int)|str (x:Str)|byt (b:Array UInt8)|flt (b:UInt64)|ref (a:Addr)|ty (n:String)
 deriving DecidableEq
noncomputable def RelV:V->LY->Prop
 |.non,u=>u=Value.none
 |.bl b,u=>u=Value.bool b
 |.int i,u=>∃t,u=Value.int i t
 |.str x,u=>∃t,u=Value.str x t
 |.byt b,u=>∃t,u=Value.bytes b t
 |.flt b,u=>∃t,u=Value.float b t
 |.ref a,u=>u=Value.ref a
 |.ty n,u=>u=Value.type n
abbrev Vals:List V->List LY->Prop:=N6 RelV
theorem Vals.length {xs:List V}{us:List LY}(r:Vals xs us):xs.length=us.length:=Paired.length r
theorem Vals.get:∀{xs:List V}{us:List LY}{i:Nat}{x:V},Vals xs us->xs[i]?=some x->∃u,us[i]?=some u/\RelV x u
 |_,_,_,_,.nil,e=>by simp at e
 |_,_,0,_,.cons r _,e=>by simp at e;subst e;exact ⟨_,rfl,r⟩
 | _, _, i + 1, x, .cons _ t, e => by
   obtain ⟨u,h1,h2⟩:=Vals.get (i:=i) (x:=x) t (by simpa using e)
   exact ⟨u,by simpa using h1,h2⟩
theorem Vals.set {x:V}{u:LY}(r:RelV x u):∀{xs:List V}{us:List LY} (i:Nat),Vals xs us->Vals (xs.set i x) (us.set i u)
 |_,_,_,.nil=>.nil
 |_,_,0,.cons _ t=>.cons r t
 |_,_,i+1,.cons q t=>.cons q (Vals.set r i t)
theorem Vals.append:∀{xs ys:List V}{us ws:List LY},Vals xs us->Vals ys ws->Vals (xs++ys) (us++ws)
 |_,_,_,_,.nil,s=>s
 |_,_,_,_,.cons r t,s=>.cons r (Vals.append t s)
theorem Vals.take:∀{xs:List V}{us:List LY} (n:Nat),Vals xs us->Vals (xs.take n) (us.take n)
 |_,_,0,_=>.nil
 |_,_,_+1,.nil=>.nil
 |_,_,n+1,.cons r t=>.cons r (Vals.take n t)
theorem Vals.drop:∀{xs:List V}{us:List LY} (n:Nat),Vals xs us->Vals (xs.drop n) (us.drop n)
 |_,_,0,r=>r
 |_,_,_+1,.nil=>.nil
 |_,_,n+1,.cons _ t=>Vals.drop n t
noncomputable def jG:Option V->Option LY->Prop
 |some v,some u=>RelV v u
 |none,none=>True
 |_,_=>False
noncomputable def KV {κ:Type}:List (κ×V)->List (κ×LY)->Prop:=N6 fun (p:κ×V) (q:κ×LY)=>p.1=q.1/\RelV p.2 q.2
noncomputable def kV:Key->V
 |.inl i=>.int i
 |.inr x=>.str x
inductive HO where
 |lst (xs:List V)
 |tup (xs:List V)
 |dK (kvs:List (Key×V))|dT (kvs:List (List Key×V))
 |set (S:Int->Bool) (n:Nat)
 |ins (C dx:Addr) (fs:List (Str×V))
 |own (x:Addr)
 |xd (fs:List (Str×V))
 |met (f x:Addr)
 |rng (lo hi:Int)
 |frz (o:Obj) (u:HO)
 |tbl (ps:Array LY)
 |ext (φ:Heap->Prop)
abbrev Hp:=Addr->Option HO
noncomputable def upd (H:Hp)(a:Addr)(o:HO):Hp:=fun b=>if b=a then some o else H b
theorem bw {H:Hp}{a:Addr}{o:HO}:upd H a o a=some o:=by unfold upd;rw [if_pos rfl]
theorem ax {H:Hp}{a b:Addr}{o:HO}(h:b≠a):upd H a o b=H b:=by unfold upd;rw [if_neg h]
theorem aO {H:Hp}{a b:Addr}{o:HO}(h:H a=some o)(h':H b=none):a≠b:=by
 intro e;subst e;rw [h] at h';cases h'
section
variable (P:Ms)(w:Mv)
noncomputable def b8 (H:Hp)(h:Heap)(a:Addr):HO->Prop
 |.lst xs=>xs.length<=sizeLine/\∃(its:List LY) (n:Nat),Vals xs its/\h.get? a=some {cls:=.type "list",data:=.seq its.toArray n}
 |.tup xs=>xs.length<=sizeLine/\∃its:List LY,Vals xs its/\IsTup h a its.toArray
 |.dK kvs=>kvs.length<=sizeLine/\(a==sysModules)=false/\∃vs,KV kvs vs/\h.DictOf (jQ P w) a vs
 |.dT kvs=>kvs.length<=sizeLine/\(a==sysModules)=false/\∃xs:List (List Key×Addr×LY),
  N6 (fun (p:List Key×V) (q:List Key×Addr×LY)=>p.1=q.1/\H q.2.1=some (.tup (p.1.map kV))/\RelV p.2 q.2.2) kvs xs/\
  ∃o es ep,h.get? a=some o/\o.ExactDict/\o.data=.dict es ep/\es.toList=xs.map (entryOfKey (tupleKind (jQ P w)))/\(xs.map (·.1)).Nodup
 |.set S n=>h.SetOf (intKind P w) a S n
 |.ins C dx fs=>H dx=some (.own a)/\fs.length<=1000/\dx≠a/\h.get? a=some (PySem.W.instObj C dx)/\
  ∃mA,h.Ns1 dx mA/\(∀f,jG (fs.lookup f) (mA f))/\PySem.Within mA (fs.map (·.1))
 |.own _=>∃o,h.get? a=some o
 |.xd fs=>∃mA,h.Ns1 a mA/\∀f,jG (fs.lookup f) (mA f)
 |.rng lo hi=>∃t u v,h.get? a=some {cls:=.type "range",data:=.fields #[.int lo t,.int hi u,.int 1 v]}
 |.frz o u=>h.get? a=some o/\b8 H h a u
 |.tbl ps=>h.get? a=some {cls:=.none,data:=.fields ps}
 |.met f x=>h.get? a=some (PySem.W.methodObj (.ref f) (.ref x))
 |.ext φ=>φ h/\(∃o,h.get? a=some o)/\∀h1 h2:Heap,φ h1->(∀o,h1.get? a=some o->h2.get? a=some o)->φ h2
noncomputable def dP (H:Hp)(h:Heap):Prop:=∀a o,H a=some o->b8 P w H h a o
end
section
variable {P:Ms}{w:Mv}{H H':Hp}{h h':Heap}{a:Addr}{o:HO}
theorem b8.lt (x:b8 P w H h a o):a<h.objs.size:=by
 cases o with
 |lst xs=>obtain ⟨_,_,_,_,e⟩:=x;exact Mi e
 |tup xs=>obtain ⟨_,_,_,p⟩:=x;exact p.lt
 |dK kvs=>obtain ⟨_,_,_,_,o,_,_,e,_⟩:=x;exact Mi e
 |dT kvs=>obtain ⟨_,_,_,_,o,_,_,e,_⟩:=x;exact Mi e
 |set S n=>obtain ⟨o,_,_,_,e,_⟩:=x;exact Mi e
 |ins C dx fs=>obtain ⟨_,_,_,e,_⟩:=x;exact Mi e
 |own y=>obtain ⟨_,e⟩:=x;exact Mi e
 |xd fs=>obtain ⟨_,⟨_,_,_,e,_⟩,_⟩:=x;exact Mi e
 |rng lo hi=>obtain ⟨_,_,_,e⟩:=x;exact Mi e
 |frz ob u=>obtain ⟨e,_⟩:=x;exact Mi e
 |tbl ps=>exact Mi (show h.get? a=some _ from x)
 |met f y=>exact Mi (show h.get? a=some _ from x)
 |ext φ=>obtain ⟨_,⟨_,e⟩,_⟩:=x;exact Mi e
theorem N6.mapP {α β:Type}{F G:α->β->Prop}:∀{l₁:List α}{l₂:List β},N6 F l₁ l₂->(∀a b,F a b->G a b)->N6 G l₁ l₂
 |_,_,.nil,_=>.nil
 |_,_,.cons r t,f=>.cons (f _ _ r) (N6.mapP t f)
theorem b8.stay (x:b8 P w H h a o)(k:∀b u,(b=a\/H b=some (.own a))->h.get? b=some u->h'.get? b=some u)
 (ho:∀b,H b=some (.own a)->H' b=some (.own a)) (ht:∀b xs,H b=some (.tup xs)->H' b=some (.tup xs)):b8 P w H' h' a o:=by
 induction o with
 |lst xs=>obtain ⟨z,its,n,r,e⟩:=x;exact ⟨z,its,n,r,k _ _ (.inl rfl) e⟩
 |tup xs=>obtain ⟨z,its,r,ob,e,c⟩:=x;exact ⟨z,its,r,ob,k _ _ (.inl rfl) e,c⟩
 |dK kvs=>obtain ⟨z,y,vs,r,ob,es,ep,e,c⟩:=x;exact ⟨z,y,vs,r,ob,es,ep,k _ _ (.inl rfl) e,c⟩
 | dT kvs =>
   obtain ⟨z,y,xs,r,ob,es,ep,e,c⟩:=x
   exact ⟨z,y,xs,N6.mapP r fun p q z=>⟨z.1,ht _ _ z.2.1,z.2.2⟩,ob,es,ep,k _ _ (.inl rfl) e,c⟩
 |set S n=>obtain ⟨ob,es,ep,t,e,c⟩:=x;exact ⟨ob,es,ep,t,k _ _ (.inl rfl) e,c⟩
 | ins C dx fs =>
   obtain ⟨d,z,ne,e,mA,⟨od,es,ep,e2,c⟩,r⟩:=x
   exact ⟨ho _ d,z,ne,k _ _ (.inl rfl) e,mA,⟨od,es,ep,k _ _ (.inr d) e2,c⟩,r⟩
 |own y=>obtain ⟨ob,e⟩:=x;exact ⟨ob,k _ _ (.inl rfl) e⟩
 |xd fs=>obtain ⟨mA,⟨od,es,ep,e,c⟩,r⟩:=x;exact ⟨mA,⟨od,es,ep,k _ _ (.inl rfl) e,c⟩,r⟩
 |rng lo hi=>obtain ⟨t,u,v,e⟩:=x;exact ⟨t,u,v,k _ _ (.inl rfl) e⟩
 |frz ob u ih=>obtain ⟨e,q⟩:=x;exact ⟨k _ _ (.inl rfl) e,ih q⟩
 | tbl ps =>
   have e:h.get? a=some {cls:=.none,data:=.fields ps}:=x
   show h'.get? a=some {cls:=.none,data:=.fields ps}
   exact k a _ (.inl rfl) e
 | met f y =>
   have e:h.get? a=some (PySem.W.methodObj (.ref f) (.ref y)):=x
   show h'.get? a=some (PySem.W.methodObj (.ref f) (.ref y))
   exact k a _ (.inl rfl) e
 |ext φ=>obtain ⟨p,⟨o,e⟩,st⟩:=x;exact ⟨st _ _ p fun o q=>k _ _ (.inl rfl) q,⟨o,k _ _ (.inl rfl) e⟩,st⟩
theorem dP.lt (x:dP P w H h)(e:H a=some o):a<h.objs.size:=(x a o e).lt
theorem dP.fresh (x:dP P w H h)(e:h.objs.size<=a):H a=none:=by
 cases q:H a with
 |none=>rfl
 |some u=>exact absurd (Mj (x.lt q) e) (Nk _)
theorem dP.kept (x:dP P w H h)(k:∀b u,h.get? b=some u->h'.get? b=some u):dP P w H h':=fun a o e=>
 (x a o e).stay (fun b u _ q=>k b u q) (fun _ q=>q) fun _ _ q=>q
theorem dP.laid (x:dP P w H h)(k:∀b u,h.get? b=some u->h'.get? b=some u)(hp:h.objs.size<=a)(new:b8 P w (upd H a o) h' a o):dP P w (upd H a o) h':=fun b u e=>by
 have hn:=x.fresh hp
 by_cases hb:b=a
 ·subst hb;rw [bw] at e;cases e;exact new
 ·rw [ax hb] at e
  exact (x b u e).stay (fun c v _ q=>k c v q) (fun c q=>by rw [ax (aO q hn)];exact q) fun c xs q=>by rw [ax (aO q hn)];exact q
end
noncomputable def Rd (H:Hp)(a:Addr)(u:HO):Prop:=H a=some u\/∃o,H a=some (.frz o u)
theorem Rd.ok {P:Ms}{w:Mv}{H:Hp}{h:Heap}{a:Addr}{u:HO}(r:Rd H a u)(x:dP P w H h):b8 P w H h a u:=by
 rcases r with r|⟨o,r⟩
 ·exact x a u r
 ·obtain ⟨_,q⟩:=x a _ r
  exact q
noncomputable def Ct:Option HO->Prop
 |some (.lst _)=>True
 |some (.dK _)=>True
 |some (.dT _)=>True
 |some (.set _ _)=>True
 |some (.ins _ _ _)=>True
 |some (.ext _)=>True
 |_=>False
section
variable {P:Ms}{w:Mv}{H:Hp}{h h':Heap}{x e:Addr}{o':HO}
theorem dP.write (ok:dP P w H h)(mu:Ct (H x))(he:e=x\/H e=some (.own x))(k:∀b u,b≠e->h.get? b=some u->h'.get? b=some u)(heo:∃u,h'.get? e=some u)
 (new:b8 P w (upd H x o') h' x o'):dP P w (upd H x o') h':=fun b u q=>by
 have nown:∀c y,H c=some (.own y)->c≠x:=fun c y r z=>by subst z;rw [r] at mu;exact mu
 have ntup:∀c xs,H c=some (.tup xs)->c≠x:=fun c xs r z=>by subst z;rw [r] at mu;exact mu
 by_cases hb:b=x
 ·subst hb;rw [bw] at q;cases q;exact new
 ·rw [ax hb] at q
  by_cases hbe:b=e
  ·have q':H b=some (.own x):=by
    rcases he with z|z
    ·exact absurd (hbe.trans z) hb
    ·rw [hbe];exact z
   rw [q] at q';cases q'
   obtain ⟨v,hv⟩:=heo
   exact ⟨v,by rw [hbe];exact hv⟩
  ·refine (ok b u q).stay (fun c v hc r=>k c v ?_ r) (fun c r=>by rw [ax (nown c b r)];exact r) fun c xs r=>by rw [ax (ntup c xs r)];exact r
   rcases hc with rfl|hc
   ·exact hbe
   ·rintro rfl
    rcases he with z|z
    ·exact nown c b hc z
    ·rw [hc] at z;cases z;exact hb rfl
end
structure Un (fs ex:List Addr) (H H':Hp) (h h':Heap):Prop where
 keep:∀b o,h.get? b=some o->H b=none->b∉fs->b∉ex->h'.get? b=some o
 slot:∀b o,h.get? b=some o->H b=none->b∈fs->b∉ex->∃sl,h'.get? b=some {o with slots:=sl}
 free:∀b o,h.get? b=some o->H b=none->b∉ex->H' b=none
 there:∀b o,h.get? b=some o->b∉ex->∃o',h'.get? b=some o'
 tups:∀b xs,H b=some (.tup xs)->H' b=some (.tup xs)
 frzs:∀b o u,H b=some (.frz o u)->H' b=some (.frz o u)
 tbls:∀b ps,H b=some (.tbl ps)->∃more,H' b=some (.tbl (ps++more))
section
variable {fs fs' ex ex':List Addr}{H H1 H2:Hp}{h h1 h2 h':Heap}{a x e:Addr}{o:HO}
theorem Un.any (u:Un fs ex H H1 h h1){b:Addr}{ob:Obj}(q:h.get? b=some ob)(n:H b=none)(hx:b∉ex):∃sl,h1.get? b=some {ob with slots:=sl}:=by
 by_cases hb:b∈fs
 ·exact u.slot b ob q n hb hx
 ·exact ⟨ob.slots,u.keep b ob q n hb hx⟩
theorem Un.kept (k:∀b u,h.get? b=some u->h'.get? b=some u):Un fs ex H H h h':=
 ⟨fun b ob q _ _ _=>k b ob q,fun b ob q _ _ _=>⟨ob.slots,k b ob q⟩,fun _ _ _ n _=>n,fun b ob q _=>⟨ob,k b ob q⟩,fun _ _ q=>q,fun _ _ _ q=>q,fun _ ps q=>⟨#[],by rw [q];simp⟩⟩
theorem Un.refl:Un fs ex H H h h:=Un.kept fun _ _ q=>q
theorem Un.laid (k:∀b u,h.get? b=some u->h'.get? b=some u)(hp:h.objs.size<=a)(hn:H a=none):Un fs ex H (upd H a o) h h' where
 keep:=fun b u q _ _ _=>k b u q
 slot:=fun b u q _ _ _=>⟨u.slots,k b u q⟩
 free:=fun b u q n _=>by rw [ax (MO (Mj (Mi q) hp))];exact n
 there:=fun b u q _=>⟨u,k b u q⟩
 tups:=fun b xs q=>by rw [ax (aO q hn)];exact q
 frzs:=fun b u xs q=>by rw [ax (aO q hn)];exact q
 tbls:=fun b ps q=>⟨#[],by rw [ax (aO q hn),q];simp⟩
theorem Un.write (mu:Ct (H x))(he:e=x\/H e=some (.own x))(k:∀b u,b≠e->h.get? b=some u->h'.get? b=some u)(heo:∃u,h'.get? e=some u):Un fs ex H (upd H x o) h h':=by
 have hx:∀b,H b=none->b≠x:=fun b n z=>by subst z;rw [n] at mu;exact mu
 have hb:∀b,H b=none->b≠e:=fun b n z=>by
  subst z
  rcases he with r|r
  ·exact hx b n r
  ·rw [n] at r;cases r
 have hm:∀b u,H b=some u->¬ Ct (some u)->b≠x:=fun b u q nm z=>by subst z;rw [q] at mu;exact nm mu
 refine ⟨fun b u q n _ _=>k b u (hb b n) q,fun b u q n _ _=>⟨u.slots,k b u (hb b n) q⟩,fun b u q n _=>by rw [ax (hx b n)];exact n,fun b u q _=>?_,
  fun b xs q=>by rw [ax (hm b _ q fun z=>z)];exact q,fun b u xs q=>by rw [ax (hm b _ q fun z=>z)];exact q,fun b ps q=>⟨#[],by rw [ax (hm b _ q fun z=>z),q];simp⟩⟩
 by_cases hbe:b=e
 ·subst hbe;exact heo
 ·exact ⟨u,k b u hbe q⟩
end
noncomputable def Bx (h:Heap)(H:Hp):List Addr:=(List.range h.objs.size).filter fun a=>(H a).isSome
noncomputable def ki (h:Heap)(H:Hp):Heap:=PySem.W.hideAll h (Bx h H)
theorem yt (h:Heap)(H:Hp):(ki h H).objs.size=h.objs.size:=PySem.W.hideAll_size _ _
theorem AK {h:Heap}{H:Hp}{b:Addr}{o:Obj}(e:h.get? b=some o)(n:H b=none):(ki h H).get? b=some o:=
 PySem.W.hideAll_get _ e fun hm=>by
  have q:(H b).isSome=true:=(List.mem_filter.mp hm).2
  rw [n] at q;simp at q
theorem D3 {h:Heap}{H:Hp}{b:Addr}{o:Obj}(e:(ki h H).get? b=some o):h.get? b=some o/\H b=none:=by
 have e':h.get? b=some o:=PySem.W.of_hideAll (Bx h H) e
 refine ⟨e',?_⟩
 cases q:H b with
 |none=>rfl
 | some x =>
   have hm:b∈Bx h H:=List.mem_filter.mpr ⟨List.mem_range.mpr (Mi e'),by simp [q]⟩
   have z:(ki h H).get? b=none:=PySem.W.hideAll_none (Bx h H) hm
   rw [z] at e;cases e
end L2
namespace L2
open PySem PySem.Spec PyProof.Rows
structure Mod (K:LX) (mg:Str->Option LY) (base:Heap):Prop where
 kin:K.In base
 glob:base.Ns mainGlobals mg
 blt:∃mb,base.Ns builtinsNs mb/\∀x:Str,x≠"__name__"->mb x=bootBuiltins x
 nolimit:base.NoLimit
structure Cx where
 prog:Ms
 w:Mv
 K:LX
 mg:Str->Option LY
 base:Heap
 A:MZ
 N:List Str
 s₀:L4
 H₀:Hp
 env:Env
 outer:List Env
 stack:List Env
 ex:List Addr
 fn:Str->Bool
 calm:Bool
 pn:List (Addr×Obj)
 xe:LY->L4->Prop
noncomputable def fk (l:List Env):List Addr:=l.filterMap (·.frame)
abbrev Cx.fs (X:Cx):List Addr:=fk X.outer
noncomputable def qr (sc:Scope)(x:Str):Prop:=sc.names.lookup x=some .local\/sc.names.lookup x=some .cell\/sc.names.lookup x=some .free
noncomputable def Loc (sc:Scope)(x:Str):Prop:=sc.names.lookup x=some .local\/sc.names.lookup x=some .cell
noncomputable def Look (env:Env)(h:Heap)(m:Str->Option LY)(x:Str)(u:LY):Prop:=
 (env.kindOf x=some .local/\m x=some u)\/((env.kindOf x=some .cell\/env.kindOf x=some .free)/\∃c,env.cells.lookup x=some c/\h.IsCell c (some u))
structure Cx.Ok (X:Cx):Prop where
 mod:Mod X.K X.mg X.base
 kind:X.env.scope.kind=.function
 glob:X.env.globals=mainGlobals
 blt:X.env.builtins=builtinsNs
 above:X.s₀.heap.objs.size<=X.env.locals
 inj:∀x y c,X.env.cells.lookup x=some c->X.env.cells.lookup y=some c->x=y
 has:∀x,(X.env.kindOf x=some .cell\/X.env.kindOf x=some .free)->∃c,X.env.cells.lookup x=some c
 cab:∀x c,X.fn x=true->X.env.cells.lookup x=some c->X.s₀.heap.objs.size<=c
 hd:X.calm=true->X.A.handled=none
 frames:X.A.frames=some X.stack
 stk:X.stack=X.outer\/(X.stack=X.env::X.outer/\X.env.frame=some X.env.locals)
 exf:∀b∈X.ex,b≠X.env.locals/\∀x c,X.env.cells.lookup x=some c->c≠b
 bs:∀b o,X.base.get? b=some o->X.s₀.heap.get? b=some o/\X.H₀ b=none
 bsz:X.base.objs.size<=X.s₀.heap.objs.size
 noex:∀b o,X.base.get? b=some o->b∉X.ex
 exfs:∀b∈X.ex,b∉X.fs
 funs:X.s₀.heap.FunFrames X.base X.outer
 frf:∀b∈X.fs,X.H₀ b=none
structure Inv (X:Cx) (pins:List (Addr×Obj)) (σ:List (Option V)) (H:Hp) (s:L4):Prop where
 ok:X.Ok
 os:s.os=X.s₀.os
 bare:AllBare s.gens
 base:Un X.fs X.ex X.H₀ H X.s₀.heap s.heap
 loc:∃m,s.heap.Ns X.env.locals m/\∀(i:Nat) (x:Str) (v:V),X.N[i]?=some x->σ[i]?=some (some v)->qr X.env.scope x->∃u,RelV v u/\Look X.env s.heap m x u
 cell:∀x c,X.env.cells.lookup x=some c->∃v,s.heap.IsCell c v
 free:H X.env.locals=none
 freeC:∀x c,X.env.cells.lookup x=some c->H c=none
 pin:∀p∈X.pn++pins,s.heap.get? p.1=some p.2/\H p.1=none/\p.1≠X.env.locals/\p.1∉X.fs/\∀v,p.2.data≠.cell v
 hok:dP X.prog X.w H s.heap
 len:σ.length=X.N.length
section
variable {X:Cx}{pins:List (Addr×Obj)}{σ:List (Option V)}{H H':Hp}{s:L4}{h':Heap}
theorem Cx.Ok.nofr (ok:X.Ok){b:Addr}{o:Obj}(e:X.base.get? b=some o):b∉X.fs:=fun hb=>by
 have:=(ok.funs.mem hb).1
 rw [e] at this;cases this
theorem Inv.bs (I:Inv X pins σ H s):∀b o,X.base.get? b=some o->s.heap.get? b=some o/\H b=none:=fun b o e=>
 ⟨I.base.keep b o (I.ok.bs b o e).1 (I.ok.bs b o e).2 (I.ok.nofr e) (I.ok.noex b o e),I.base.free b o (I.ok.bs b o e).1 (I.ok.bs b o e).2 (I.ok.noex b o e)⟩
theorem Inv.bk (I:Inv X pins σ H s):∀b o,X.base.get? b=some o->s.heap.get? b=some o:=fun b o e=>(I.bs b o e).1
theorem Inv.mod (I:Inv X pins σ H s):Mod X.K X.mg X.base:=I.ok.mod
theorem Inv.kIn (I:Inv X pins σ H s):X.K.In s.heap:=I.ok.mod.kin.keeps I.bk
theorem Inv.lt (I:Inv X pins σ H s):X.env.locals<s.heap.objs.size:=let ⟨_,hn,_⟩:=I.loc;hn.lt
theorem Inv.sz (I:Inv X pins σ H s):X.s₀.heap.objs.size<=s.heap.objs.size:=Mb I.ok.above (Nat.le_of_lt I.lt)
theorem Inv.nofs (I:Inv X pins σ H s){a:Addr}(h:s.heap.objs.size<=a):a∉X.fs:=fun hb=>by
 obtain ⟨_,o,ho,_⟩:=I.ok.funs.mem hb
 exact absurd (Mj (Mi ho) (Mb I.sz h)) (Nk _)
theorem Inv.cne (I:Inv X pins σ H s):∀x c,X.env.cells.lookup x=some c->c≠X.env.locals:=fun x c e z=>by
 obtain ⟨v,o,ho,hd⟩:=I.cell x c e
 obtain ⟨m,⟨o',es,ep,ho',hd',_⟩,_⟩:=I.loc
 rw [z,ho'] at ho;cases ho;rw [hd'] at hd;cases hd
theorem Inv.funs (I:Inv X pins σ H s):s.heap.FunFrames X.base X.outer:=by
 have all:∀(l:List Env),(∀b∈fk l,b∈X.fs)->X.s₀.heap.FunFrames X.base l->s.heap.FunFrames X.base l:=by
  intro l
  induction l with
  |nil=>intro _ _;trivial
  | cons env r ih =>
    intro hs hl
    obtain ⟨hk,⟨L,o,hf,hn,ho,hd⟩,hr⟩:=hl
    have hL:L∈X.fs:=hs L (by unfold fk;rw [N5,hf];exact My)
    obtain ⟨sl,e⟩:=I.base.slot L o ho (I.ok.frf L hL) hL fun z=>I.ok.exfs L z hL
    exact ⟨hk,⟨L,_,hf,hn,e,hd⟩,ih (fun b hb=>hs b (by unfold fk;rw [N5,hf];exact Mh _ hb)) hr⟩
 exact all X.outer (fun _ hb=>hb) I.ok.funs
theorem Inv.stack (I:Inv X pins σ H s):s.heap.FunFrames X.base X.stack:=by
 rcases I.ok.stk with e|⟨e,hf⟩
 ·rw [e];exact I.funs
 ·rw [e]
  obtain ⟨m,hn,_⟩:=I.loc
  refine .cons (by rw [I.ok.kind];decide) hf hn ?_ I.funs
  exact Heap.get?_none_of_le (Mb I.ok.bsz I.ok.above)
theorem Inv.stkSub (I:Inv X pins σ H s):∀b∈fk X.stack,b∈X.env.locals::X.fs:=fun b hb=>by
 rcases I.ok.stk with e|⟨e,hf⟩
 ·rw [e] at hb;exact Mh _ hb
 ·rw [e] at hb
  unfold fk at hb
  rw [N5,hf] at hb
  exact hb
theorem Inv.stkFree (I:Inv X pins σ H s):∀b∈fk X.stack,H b=none:=fun b hb=>by
 rcases MJ.mp (I.stkSub b hb) with e|hb
 ·rw [e];exact I.free
 ·obtain ⟨_,o,ho,_⟩:=I.ok.funs.mem hb
  exact I.base.free b o ho (I.ok.frf b hb) fun z=>I.ok.exfs b z hb
theorem Inv.step {g':Array GenState}{t':Nat}{d':Drawn}{ch:List Addr}(I:Inv X pins σ H s)
 (hch:∀b∈ch,(b∈X.ex\/X.s₀.heap.objs.size<=b)/\b≠X.env.locals/\(∀x c,X.env.cells.lookup x=some c->c≠b)/\∀p∈X.pn++pins,p.1≠b)
 (keep:∀b o,b≠X.env.locals->b∉X.fs->b∉ch->s.heap.get? b=some o->H b=none->h'.get? b=some o)
 (slot:∀b o,b≠X.env.locals->b∈X.fs->b∉ch->s.heap.get? b=some o->H b=none->∃sl,h'.get? b=some {o with slots:=sl}) (free:∀b o,b∉ch->s.heap.get? b=some o->H b=none->H' b=none)
 (there:∀b o,b∉ch->s.heap.get? b=some o->∃o',h'.get? b=some o')
 (tups:∀b xs,H b=some (.tup xs)->H' b=some (.tup xs)) (frzs:∀b o u,H b=some (.frz o u)->H' b=some (.frz o u)) (tbls:∀b ps,H b=some (.tbl ps)->∃more,H' b=some (.tbl (ps++more)))
 (ns:∀m,s.heap.Ns X.env.locals m->h'.Ns X.env.locals m) (hok:dP X.prog X.w H' h') (hg:AllBare g') :
 Inv X pins σ H' {s with heap:=h',gens:=g',drawn:=d',toks:=t'}:=by
 have neL:∀b o,X.s₀.heap.get? b=some o->b≠X.env.locals:=fun b o e=>MO (Mj (Mi e) I.ok.above)
 have neC:∀b o,X.s₀.heap.get? b=some o->b∉X.ex->b∉ch:=fun b o e hx hb=>by
  rcases (hch b hb).1 with z|z
  ·exact hx z
  ·exact absurd (Mj (Mi e) z) (Nk _)
 have cellK:∀x c,X.env.cells.lookup x=some c->∀v,s.heap.IsCell c v->h'.IsCell c v:=fun x c e v ⟨o,ho,hd⟩=>by
  have nch:c∉ch:=fun z=>(hch c z).2.2.1 x c e rfl
  by_cases hc:c∈X.fs
  ·obtain ⟨sl,q⟩:=slot c o (I.cne x c e) hc nch ho (I.freeC x c e)
   exact ⟨_,q,hd⟩
  ·exact ⟨o,keep c o (I.cne x c e) hc nch ho (I.freeC x c e),hd⟩
 refine ⟨I.ok,I.os,hg,⟨fun b o e n hb hx=>?_,fun b o e n hb hx=>?_,fun b o e n hx=>?_,fun b o e hx=>?_,fun b xs e=>tups b xs (I.base.tups b xs e),fun b o xs e=>frzs b o xs (I.base.frzs b o xs e),fun b ps e=>?_⟩,?_,fun x c e=>?_,?_,fun x c e=>?_,fun p hp=>?_,hok,I.len⟩
 ·exact keep b o (neL b o e) hb (neC b o e hx) (I.base.keep b o e n hb hx) (I.base.free b o e n hx)
 ·obtain ⟨sl,e1⟩:=I.base.slot b o e n hb hx
  obtain ⟨sl',e2⟩:=slot b _ (neL b o e) hb (neC b o e hx) e1 (I.base.free b o e n hx)
  exact ⟨sl',e2⟩
 ·obtain ⟨o',e1⟩:=I.base.there b o e hx
  exact free b o' (neC b o e hx) e1 (I.base.free b o e n hx)
 ·obtain ⟨o',e1⟩:=I.base.there b o e hx
  exact there b o' (neC b o e hx) e1
 ·obtain ⟨m1,e1⟩:=I.base.tbls b ps e
  obtain ⟨m2,e2⟩:=tbls b _ e1
  exact ⟨m1++m2,by rw [e2,Array.append_assoc]⟩
 ·obtain ⟨m,hn,hl⟩:=I.loc
  refine ⟨m,ns m hn,fun i x v e1 e2 e3=>?_⟩
  obtain ⟨u,r,l⟩:=hl i x v e1 e2 e3
  refine ⟨u,r,?_⟩
  rcases l with l|⟨k,c,e,z⟩
  ·exact .inl l
  ·exact .inr ⟨k,c,e,cellK x c e _ z⟩
 ·obtain ⟨v,z⟩:=I.cell x c e
  exact ⟨v,cellK x c e v z⟩
 ·obtain ⟨m,⟨o,_,_,ho,_⟩,_⟩:=I.loc
  exact free _ o (fun z=>(hch _ z).2.1 rfl) ho I.free
 ·obtain ⟨v,o,ho,hd⟩:=I.cell x c e
  exact free c o (fun z=>(hch c z).2.2.1 x c e rfl) ho (I.freeC x c e)
 ·obtain ⟨e,n,ne,nf,d⟩:=I.pin p hp
  have nch:p.1∉ch:=fun z=>(hch p.1 z).2.2.2 p hp rfl
  exact ⟨keep p.1 p.2 ne nf nch e n,free p.1 p.2 nch e n,ne,nf,d⟩
theorem Inv.un {t':Nat}(I:Inv X pins σ H s)(u:Un X.fs [] H H' s.heap h')(hok:dP X.prog X.w H' h'):Inv X pins σ H' {s with heap:=h',toks:=t'}:=by
 obtain ⟨m,⟨o,es,ep,ho,r⟩,_⟩:=id I.loc
 obtain ⟨sl,hL⟩:=u.any ho I.free (by simp)
 exact I.step (g':=s.gens) (d':=s.drawn) (ch:=[]) (fun _ z=>nomatch z) (fun b o _ hb _ e n=>u.keep b o e n hb (by simp)) (fun b o _ hb _ e n=>u.slot b o e n hb (by simp)) (fun b o _ e n=>u.free b o e n (by simp)) (fun b o _ e=>u.there b o e (by simp)) u.tups u.frzs u.tbls (fun m' hm=>by
  obtain ⟨o',es',ep',ho',r'⟩:=hm
  rw [ho] at ho';cases ho'
  exact ⟨_,es',ep',hL,r'⟩) hok I.bare
theorem Inv.call {g':Array GenState}{t':Nat}{d':Drawn}{ch:List Addr}(I:Inv X pins σ H s)(u:Un (fk X.stack) ch H H' s.heap h')(hok:dP X.prog X.w H' h')(hg:AllBare g')
 (hch:∀b∈ch,(b∈X.ex\/X.s₀.heap.objs.size<=b)/\b≠X.env.locals/\(∀x c,X.env.cells.lookup x=some c->c≠b)/\∀p∈X.pn++pins,p.1≠b) :
 Inv X pins σ H' {s with heap:=h',gens:=g',drawn:=d',toks:=t'}:=by
 obtain ⟨m,⟨o,es,ep,ho,r⟩,_⟩:=id I.loc
 obtain ⟨sl,hL⟩:=u.any ho I.free fun z=>(hch _ z).2.1 rfl
 exact I.step (ch:=ch) hch (fun b o hL hb hc e n=>u.keep b o e n (fun z=>(MJ.mp (I.stkSub b z)).elim hL hb) hc) (fun b o _ _ hc e n=>u.any e n hc) (fun b o hc e n=>u.free b o e n hc) (fun b o hc e=>u.there b o e hc) u.tups u.frzs u.tbls (fun m' hm=>by
  obtain ⟨o',es',ep',ho',r'⟩:=hm
  rw [ho] at ho';cases ho'
  exact ⟨_,es',ep',hL,r'⟩) hok hg
theorem Inv.turned {t':Nat}{it:Addr}(I:Inv X pins σ H s)(k:∀b o,b≠it->s.heap.get? b=some o->h'.get? b=some o)(hn:H it=none)(hL:it≠X.env.locals)
 (h1:it∈X.ex\/X.s₀.heap.objs.size<=it) (h2:∀x c,X.env.cells.lookup x=some c->c≠it) (h3:∀p∈X.pn++pins,p.1≠it):Inv X pins σ H {s with heap:=h',toks:=t'}:=by
 have nit:∀b u,H b=some u->b≠it:=fun b u e z=>by rw [z,hn] at e;cases e
 refine I.step (g':=s.gens) (d':=s.drawn) (ch:=[it]) (fun b hb=>?_) (fun b o _ _ hc e _=>k b o (fun z=>hc (by simp [z])) e) (fun b o _ _ hc e _=>⟨o.slots,k b o (fun z=>hc (by simp [z])) e⟩) (fun _ _ _ _ n=>n)
  (fun b o hc e=>⟨o,k b o (fun z=>hc (by simp [z])) e⟩) (fun _ _ e=>e) (fun _ _ _ e=>e) (fun b ps e=>⟨#[],by rw [e];simp⟩) (fun m hm=>?_) (fun b u e=>?_) I.bare
 ·have e:b=it:=by simpa using hb
  subst e
  exact ⟨h1,hL,h2,h3⟩
 ·obtain ⟨o,es,ep,ho,r⟩:=hm
  exact ⟨o,es,ep,k _ o (Ng hL) ho,r⟩
 ·refine (I.hok b u e).stay (fun c v hc q=>k c v ?_ q) (fun _ q=>q) fun _ _ q=>q
  rcases hc with z|z
  ·rw [z];exact nit b u e
  ·exact nit c _ z
theorem Inv.tok (I:Inv X pins σ H s)(t:Nat):Inv X pins σ H {s with toks:=t}:=I.un (h':=s.heap) (t':=t) Un.refl I.hok
theorem Inv.kept {t':Nat}(I:Inv X pins σ H s)(k:∀b u,s.heap.get? b=some u->h'.get? b=some u):Inv X pins σ H {s with heap:=h',toks:=t'}:=I.un (Un.kept k) (I.hok.kept k)
theorem Inv.laid {a:Addr}{o:HO}{t':Nat}(I:Inv X pins σ H s)(k:∀b u,s.heap.get? b=some u->h'.get? b=some u)(hp:s.heap.objs.size<=a)(new:b8 X.prog X.w (upd H a o) h' a o) :
 Inv X pins σ (upd H a o) {s with heap:=h',toks:=t'}:=I.un (Un.laid k hp (I.hok.fresh hp)) (I.hok.laid k hp new)
theorem Inv.write {x e:Addr}{o:HO}{t':Nat}(I:Inv X pins σ H s)(mu:Ct (H x))(he:e=x\/H e=some (.own x))(k:∀b u,b≠e->s.heap.get? b=some u->h'.get? b=some u)(heo:∃u,h'.get? e=some u)
 (new:b8 X.prog X.w (upd H x o) h' x o):Inv X pins σ (upd H x o) {s with heap:=h',toks:=t'}:=I.un (Un.write mu he k heo) (I.hok.write mu he k heo new)
theorem Inv.pins_of {pins':List (Addr×Obj)}(I:Inv X pins σ H s)(h:∀p∈pins',s.heap.get? p.1=some p.2/\H p.1=none/\p.1≠X.env.locals/\p.1∉X.fs/\∀v,p.2.data≠.cell v):Inv X pins' σ H s:=
 ⟨I.ok,I.os,I.bare,I.base,I.loc,I.cell,I.free,I.freeC,fun p hp=>(MQ.mp hp).elim (fun z=>I.pin p (NY _ z)) (h p),I.hok,I.len⟩
theorem rZ {N:List Str}(hN:N.Nodup){i j:Nat}{x:Str}(a:N[i]?=some x)(b:N[j]?=some x):i=j:=by
 obtain ⟨h1,e1⟩:=LZ.mp a
 obtain ⟨h2,e2⟩:=LZ.mp b
 exact (List.getElem_inj hN).mp (e1.trans e2.symm)
theorem pK {M:Model}{A:MZ}{E:LY->L4->Prop}{i:Nat}{x:Str}{v:V}{u:LY}{Q:Unit->L4->Prop}(I:Inv X pins σ H s)(hN:X.N.Nodup)(hi:X.N[i]?=some x)(hx:Loc X.env.scope x)(r:RelV v u)
 (h:∀s',Inv X pins (σ.set i (some v)) H s'->(∃a,Heap.SameBut a s.heap s'.heap/\(a=X.env.locals\/X.env.cells.lookup x=some a))->Q () s') (hf:X.fn x=true\/X.env.scope.names.lookup x=some .local:=by first|exact .inl rfl|exact .inr rfl|assumption):wpAny M A (storeName X.env x u) Q E s:=by
 obtain ⟨m,hn,hl⟩:=id I.loc
 have hcls:(X.env.scope.kind==.class||(X.env.scope.kind==.module&&X.env.locals != X.env.globals))=false:=by rw [I.ok.kind];rfl
 have hiσ:i<σ.length:=by rw [I.len];exact (LZ.mp hi).1
 have cne:=I.cne
 have tracked:∀{a:Addr}{h':Heap},(∃o,s.heap.get? a=some o/\H a=none)->Heap.SameBut a s.heap h'->dP X.prog X.w H h':=fun {a h'} ha hs b ob e=>by
  obtain ⟨_,_,hfree⟩:=ha
  refine (I.hok b ob e).stay (fun c w' hc q=>(hs.2 c ?_).trans q) (fun _ q=>q) fun _ _ q=>q
  rintro rfl
  rcases hc with rfl|hc
  ·rw [hfree] at e;cases e
  ·rw [hfree] at hc;cases hc
 rcases hx with hk|hk
 ·refine wpAny_storeName_local hk hn (fun h' hn' hs=>?_) hcls
  obtain ⟨oL,_,_,hoL,_⟩:=id hn
  refine h _ ⟨I.ok,I.os,I.bare,⟨fun b o e n hb hx=>?_,fun b o e n hb hx=>?_,I.base.free,fun b o e hx=>?_,I.base.tups,I.base.frzs,I.base.tbls⟩,⟨_,hn',fun j y v' e1 e2 e3=>?_⟩,fun y c e=>?_,I.free,I.freeC,fun p hp=>?_,tracked ⟨oL,hoL,I.free⟩ hs,by simpa using I.len⟩ ⟨_,hs,.inl rfl⟩
  ·exact (hs.2 b (MO (Mj (Mi e) I.ok.above))).trans (I.base.keep b o e n hb hx)
  ·obtain ⟨sl,e1⟩:=I.base.slot b o e n hb hx
   exact ⟨sl,(hs.2 b (MO (Mj (Mi e) I.ok.above))).trans e1⟩
  ·obtain ⟨o',e1⟩:=I.base.there b o e hx
   exact ⟨o',(hs.2 b (MO (Mj (Mi e) I.ok.above))).trans e1⟩
  ·by_cases hj:j=i
   ·subst hj
    rw [hi] at e1;cases e1
    rw [Mn hiσ] at e2
    cases e2
    exact ⟨u,r,.inl ⟨hk,by simp⟩⟩
   ·rw [Mc (Ng hj)] at e2
    obtain ⟨u',r',q⟩:=hl j y v' e1 e2 e3
    refine ⟨u',r',?_⟩
    rcases q with ⟨k,e⟩|⟨k,c,e,z⟩
    ·refine .inl ⟨k,?_⟩
     have:y≠x:=fun e=>hj (rZ hN e1 (e ▸ hi))
     simp [this,e]
    ·exact .inr ⟨k,c,e,z.sameBut hs (cne y c e)⟩
  ·obtain ⟨w',z⟩:=I.cell y c e
   exact ⟨w',z.sameBut hs (cne y c e)⟩
  ·obtain ⟨e,n,ne,nf,d⟩:=I.pin p hp
   exact ⟨(hs.2 p.1 ne).trans e,n,ne,nf,d⟩
 ·have hfn:X.fn x=true:=by
   rcases hf with z|z
   ·exact z
   ·rw [z] at hk;cases hk
  obtain ⟨c,hc⟩:=I.ok.has x (.inl hk)
  obtain ⟨w',z⟩:=I.cell x c hc
  refine wpAny_storeName_cell I.ok.kind hk hc z (fun h' hc' hs=>?_)
  obtain ⟨oc,hoc,hocd⟩:=id z
  refine h {s with heap:=h'} ⟨I.ok,I.os,I.bare,⟨fun b o e n hb hx=>?_,fun b o e n hb hx=>?_,I.base.free,fun b o e hx=>?_,I.base.tups,I.base.frzs,I.base.tbls⟩,⟨m,hn.sameBut hs (Ng (cne x c hc)),fun j y v' e1 e2 e3=>?_⟩,fun y c' e=>?_,I.free,I.freeC,fun p hp=>?_,tracked ⟨oc,hoc,I.freeC x c hc⟩ hs,by simpa using I.len⟩ ⟨c,hs,.inr hc⟩
  ·exact (hs.2 b (MO (Mj (Mi e) (I.ok.cab x c hfn hc)))).trans (I.base.keep b o e n hb hx)
  ·obtain ⟨sl,e1⟩:=I.base.slot b o e n hb hx
   exact ⟨sl,(hs.2 b (MO (Mj (Mi e) (I.ok.cab x c hfn hc)))).trans e1⟩
  ·obtain ⟨o',e1⟩:=I.base.there b o e hx
   exact ⟨o',(hs.2 b (MO (Mj (Mi e) (I.ok.cab x c hfn hc)))).trans e1⟩
  ·by_cases hj:j=i
   ·subst hj
    rw [hi] at e1;cases e1
    rw [Mn hiσ] at e2
    cases e2
    exact ⟨u,r,.inr ⟨.inl hk,c,hc,hc'⟩⟩
   ·rw [Mc (Ng hj)] at e2
    obtain ⟨u',r',q⟩:=hl j y v' e1 e2 e3
    refine ⟨u',r',?_⟩
    rcases q with q|⟨k,c',e,z'⟩
    ·exact .inl q
    ·refine .inr ⟨k,c',e,z'.sameBut hs ?_⟩
     rintro rfl
     exact hj (rZ hN e1 (I.ok.inj _ _ _ e hc ▸ hi))
  ·by_cases hcc:c'=c
   ·subst hcc;exact ⟨_,hc'⟩
   ·obtain ⟨w2,z2⟩:=I.cell y c' e
    exact ⟨w2,z2.sameBut hs hcc⟩
  ·obtain ⟨e,n,ne,nf,d⟩:=I.pin p hp
   refine ⟨(hs.2 p.1 ?_).trans e,n,ne,nf,d⟩
   intro q
   rw [q,hoc] at e
   have q':oc=p.2:=L9 e
   exact d w' (by rw [<- q'];exact hocd)
theorem zA {M:Model}{A:MZ}{E:LY->L4->Prop}{i:Nat}{x:Str}{v:V}{u:LY}{Q:Unit->L4->Prop}(I:Inv X pins σ H s)(hN:X.N.Nodup)(hi:X.N[i]?=some x)(hx:Loc X.env.scope x)(r:RelV v u)
 (h:∀s',Inv X pins (σ.set i (some v)) H s'->Q () s') (hf:X.fn x=true\/X.env.scope.names.lookup x=some .local:=by first|exact .inl rfl|exact .inr rfl|assumption):wpAny M A (storeName X.env x u) Q E s:=
 pK I hN hi hx r (fun s' I' _=>h s' I') hf
theorem Inv.call' {s':L4}{ch:List Addr}(I:Inv X pins σ H s)(ho:s'.os=s.os)(u:Un (fk X.stack) ch H H' s.heap s'.heap)(hok:dP X.prog X.w H' s'.heap)(hg:AllBare s'.gens)
 (hch:∀b∈ch,(b∈X.ex\/X.s₀.heap.objs.size<=b)/\b≠X.env.locals/\(∀x c,X.env.cells.lookup x=some c->c≠b)/\∀p∈X.pn++pins,p.1≠b):Inv X pins σ H' s':=by
 obtain ⟨h',g',d',t',o'⟩:=s'
 have e:o'=s.os:=ho
 subst e
 exact I.call (g':=g') (t':=t') (d':=d') u hok hg hch
end
abbrev XK:=LY->Option Addr->Hp->Prop
abbrev St:=List (Option V)
abbrev VK:=V->Hp->Prop
abbrev TE:=St->Hp->VK->Prop
abbrev TT:=St->Hp->(Bool->Hp->Prop)->Prop
abbrev TA:=St->Hp->(List V->Hp->Prop)->Prop
structure Ends where
 nx:St->Hp->Prop
 rt:VK
 bk:St->Hp->Prop:=fun _ _=>False
 ct:St->Hp->Prop:=fun _ _=>False
abbrev TS:=Ends->St->Hp->Prop
noncomputable def EP (X:Cx)(pins:List (Addr×Obj))(σ:St)(Q:VK)(u:LY)(s':L4):Prop:=∃v H',Inv X pins σ H' s'/\RelV v u/\Q v H'
noncomputable def TP (X:Cx)(pins:List (Addr×Obj))(σ:St)(Q:Bool->Hp->Prop)(b:Bool)(s':L4):Prop:=∃H',Inv X pins σ H' s'/\Q b H'
noncomputable def AP (X:Cx)(pins:List (Addr×Obj))(σ:St)(Q:List V->Hp->Prop)(us:List LY)(s':L4):Prop:=∃vs H',Inv X pins σ H' s'/\Vals vs us/\Q vs H'
noncomputable def SP (X:Cx)(pins:List (Addr×Obj))(D:Ends)(f:Flow)(s':L4):Prop:=
 match f with
 |.next=>∃σ' H',Inv X pins σ' H' s'/\D.nx σ' H'
 |.brk=>∃σ' H',Inv X pins σ' H' s'/\D.bk σ' H'
 |.cont=>∃σ' H',Inv X pins σ' H' s'/\D.ct σ' H'
 |.ret u=>∃v σ' H',Inv X pins σ' H' s'/\RelV v u/\D.rt v H'
noncomputable def PE (X:Cx)(e:Expr)(t:TE):Prop:=
 ∀(pins:List (Addr×Obj)) (s:L4) (σ:St) (H:Hp) (Q:VK),Inv X pins σ H s->t σ H Q->wpAny (model X.prog X.w) X.A (eval e X.env) (EP X pins σ Q) X.xe s
noncomputable def PT (X:Cx)(e:Expr)(t:TT):Prop:=
 ∀(pins:List (Addr×Obj)) (s:L4) (σ:St) (H:Hp) (Q:Bool->Hp->Prop),Inv X pins σ H s->t σ H Q->wpAny (model X.prog X.w) X.A (isTrue e X.env (eval e X.env)) (TP X pins σ Q) X.xe s
noncomputable def PW (X:Cx)(e:Expr)(t:TT):Prop:=
 ∀(whole:Sem LY) (pins:List (Addr×Obj)) (s:L4) (σ:St) (H:Hp) (Q:Bool->Hp->Prop),Inv X pins σ H s->t σ H Q->wpAny (model X.prog X.w) X.A (isTrue e X.env whole) (TP X pins σ Q) X.xe s
theorem PW.pt {X:Cx}{e:Expr}{t:TT}(h:PW X e t):PT X e t:=h _
noncomputable def PA (X:Cx)(es:List Expr)(t:TA):Prop:=
 ∀(pos:Pos) (pins:List (Addr×Obj)) (s:L4) (σ:St) (H:Hp) (Q:List V->Hp->Prop),Inv X pins σ H s->t σ H Q->wpAny (model X.prog X.w) X.A (spliced (backTo pos (starEach es X.env))) (AP X pins σ Q) X.xe s
noncomputable def PS (X:Cx)(st:Stmt)(t:TS):Prop:=
 ∀(pins:List (Addr×Obj)) (s:L4) (σ:St) (H:Hp) (D:Ends),Inv X pins σ H s->t D σ H->wpAny (model X.prog X.w) X.A (exec st X.env) (SP X pins D) X.xe s
noncomputable def lI (X:Cx)(st:List Stmt)(t:TS):Prop:=
 ∀(pins:List (Addr×Obj)) (s:L4) (σ:St) (H:Hp) (D:Ends),Inv X pins σ H s->t D σ H->wpAny (model X.prog X.w) X.A (execs st X.env) (SP X pins D) X.xe s
theorem aP {α:Type}{t:Sem α}{Q Q':α->L4->Prop}{M:Model}{A:MZ}{E:LY->L4->Prop}{s:L4}(h:wpAny M A t Q E s)(hQ:∀a s,Q a s->Q' a s):wpAny M A t Q' E s:=wpAny_mono h hQ fun _ _ x=>x
end L2
namespace L2
open PySem PySem.Spec PyProof.Rows
section
variable {X:Cx}
theorem bin {a b:Expr}{ta tb:TE}(ha:PE X a ta)(hb:PE X b tb){pins:List (Addr×Obj)}{s:L4}{σ:St}{H:Hp}{R:V->V->Hp->Prop}(I:Inv X pins σ H s)(h:ta σ H fun x H1=>tb σ H1 fun y H2=>R x y H2)
 {α:Type}{Q:α->L4->Prop}{f:LY->LY->Sem α}
 (hf:∀v u s2 x y H2,Inv X pins σ H2 s2->RelV x v->RelV y u->R x y H2->wpAny (model X.prog X.w) X.A (f v u) Q X.xe s2) :
 wpAny (model X.prog X.w) X.A (eval a X.env) (fun v s₁=>wpAny (model X.prog X.w) X.A (eval b X.env) (fun u s₂=>wpAny (model X.prog X.w) X.A (f v u) Q X.xe s₂) X.xe s₁) X.xe s:=by
 refine aP (ha pins s σ H _ I h) fun v s1 ⟨x,H1,I1,r1,q1⟩=>?_
 refine aP (hb pins s1 σ H1 _ I1 q1) fun u s2 ⟨y,H2,I2,r2,q2⟩=>?_
 exact hf v u s2 x y H2 I2 r1 r2 q2
noncomputable def zx (i:Nat):TE:=fun σ H Q=>∃v,σ[i]?=some (some v)/\Q v H
noncomputable def tC (v:V):TE:=fun _ H Q=>Q v H
theorem nS {i:Nat}{x:Str}{pos:Pos}(hN:X.N[i]?=some x)(hv:qr X.env.scope x)(hd:(x==("__debug__":Str))=false:=by decide)(hcd:(x==("__classdict__":Str))=false:=by decide):PE X (.Name x pos) (zx i):=by
 intro pins s σ H Q I h
 obtain ⟨v,e,h⟩:=h
 obtain ⟨m,hn,hl⟩:=I.loc
 obtain ⟨u,r,l⟩:=hl i x v hN e hv
 have fin:EP X pins σ Q u s:=⟨v,H,I,r,h⟩
 rcases l with ⟨hk,hm⟩|⟨hk,c,hc,hcell⟩
 ·exact wpAny_Name (wpAny_loadName_local I.ok.kind hk hn hm fin) hd
 ·rcases hk with hk|hk
  ·exact wpAny_Name (wpAny_loadName_cell I.ok.kind hk hc hcell fin) hd
  ·exact wpAny_Name (wpAny_loadName_free I.ok.kind hk hc hcell fin hcd) hd
theorem xC {i j pos}:PE X (.Constant (.int i) j pos) (tC (.int i)):=fun _ _ _ H _ I h=>wpAny_Constant_int ⟨.int i,H,I.tok _,⟨_,rfl⟩,h⟩
theorem II {b j pos}:PE X (.Constant (.bool b) j pos) (tC (.bl b)):=fun _ _ _ H _ I h=>Constant_bool ⟨.bl b,H,I,rfl,h⟩
theorem F6 {j pos}:PE X (.Constant .none j pos) (tC .non):=fun _ _ _ H _ I h=>Constant_none ⟨.non,H,I,rfl,h⟩
theorem F2 {x j pos}:PE X (.Constant (.str x) j pos) (tC (.str x)):=fun _ _ _ H _ I h=>Calls.Constant_str ⟨.str x,H,I.tok _,⟨_,rfl⟩,h⟩
noncomputable def Gl (X:Cx)(x:Str):Prop:=X.env.kindOf x=some .globalImplicit
theorem fK {E:LY->L4->Prop}{pins:List (Addr×Obj)}{s:L4}{σ:St}{H:Hp}{x:Str}{u:LY}{pos:Pos}{Q:LY->L4->Prop}(I:Inv X pins σ H s)(hg:Gl X x)(hm:X.mg x=some u)(h:Q u s)
 (hd:(x==("__debug__":Str))=false:=by decide):wpAny (model X.prog X.w) X.A (eval (.Name x pos) X.env) Q E s:=
 Calls.Name_function_global I.ok.kind hg (Calls.loadGlobal_global (by rw [I.ok.glob];exact I.mod.glob.keeps I.bk) hm h) hd
theorem gk {E:LY->L4->Prop}{pins:List (Addr×Obj)}{s:L4}{σ:St}{H:Hp}{x:Str}{u:LY}{pos:Pos}{Q:LY->L4->Prop}(I:Inv X pins σ H s)(hg:Gl X x)(hm:X.mg x=none)(hv:bootBuiltins x=some u)(h:Q u s)
 (hn:x≠"__name__":=by decide) (hd:(x==("__debug__":Str))=false:=by decide):wpAny (model X.prog X.w) X.A (eval (.Name x pos) X.env) Q E s:=by
 obtain ⟨mb,h1,h2⟩:=I.mod.blt
 exact Calls.Name_function_global I.ok.kind hg (Calls.loadGlobal_builtin (by rw [I.ok.glob];exact I.mod.glob.keeps I.bk) hm (by rw [I.ok.blt];exact h1.keeps I.bk) ((h2 x hn).trans hv) h) hd
theorem jM {x:Str}{v:V}{u:LY}{pos:Pos}(hg:Gl X x)(hm:X.mg x=some u)(r:RelV v u)(hd:(x==("__debug__":Str))=false:=by decide):PE X (.Name x pos) (tC v):=
 fun _ _ _ H _ I h=>fK I hg hm ⟨v,H,I,r,h⟩ hd
theorem DR {x:Str}{v:V}{u:LY}{pos:Pos}(hg:Gl X x)(hm:X.mg x=none)(hv:bootBuiltins x=some u)(r:RelV v u)(hn:x≠"__name__":=by decide)(hd:(x==("__debug__":Str))=false:=by decide):PE X (.Name x pos) (tC v):=
 fun _ _ _ H _ I h=>gk I hg hm hv ⟨v,H,I,r,h⟩ hn hd
variable {a b:Expr}{ta tb:TE}{pos:Pos}
variable {tA tB':TT}{rest:List Expr}
noncomputable def iX (t u:TT):TT:=fun σ H Q=>t σ H fun c H1=>if c=true then u σ H1 Q else Q false H1
noncomputable def hX (t u:TT):TT:=fun σ H Q=>t σ H fun c H1=>if c=true then Q true H1 else u σ H1 Q
noncomputable def bP (t:TT):TT:=fun σ H Q=>t σ H fun c H1=>Q (!c) H1
theorem DC (ha:PT X a tA):PW X (.BoolOp .And [a] pos) tA:=by
 intro wh pins s σ H Q I h
 refine isTrue_and (aP (ha pins s σ H Q I h) fun c s1 e=>?_)
 cases c with
 |true=>exact isTrue_and_nil e
 |false=>exact e
theorem FU (ha:PT X a tA):PW X (.BoolOp .Or [a] pos) tA:=by
 intro wh pins s σ H Q I h
 refine isTrue_or (aP (ha pins s σ H Q I h) fun c s1 e=>?_)
 cases c with
 |false=>exact isTrue_or_nil e
 |true=>exact e
theorem FV (ha:PT X a tA)(hb:PW X (.BoolOp .And (b::rest) pos) tB'):PW X (.BoolOp .And (a::b::rest) pos) (iX tA tB'):=by
 intro wh pins s σ H Q I h
 refine isTrue_and (aP (ha pins s σ H _ I h) fun c s1 ⟨H1,I1,q1⟩=>?_)
 cases c with
 |true=>exact hb wh pins s1 σ H1 Q I1 q1
 |false=>exact ⟨H1,I1,q1⟩
theorem IB (ha:PT X a tA)(hb:PW X (.BoolOp .Or (b::rest) pos) tB'):PW X (.BoolOp .Or (a::b::rest) pos) (hX tA tB'):=by
 intro wh pins s σ H Q I h
 refine isTrue_or (aP (ha pins s σ H _ I h) fun c s1 ⟨H1,I1,q1⟩=>?_)
 cases c with
 |true=>exact ⟨H1,I1,q1⟩
 |false=>exact hb wh pins s1 σ H1 Q I1 q1
theorem FW (ha:PT X a tA):PT X (.UnaryOp .Not a pos) (bP tA):=by
 intro pins s σ H Q I h
 exact isTrue_not (ha pins s σ H (fun c H1=>Q (!c) H1) I h)
noncomputable def Ip (ta tb:TE):TE:=fun σ H Q=>ta σ H fun x H1=>∃c,x=.bl c/\if c=true then tb σ H1 Q else Q (.bl false) H1
noncomputable def Km (ta tb:TE):TE:=fun σ H Q=>ta σ H fun x H1=>∃c,x=.bl c/\if c=true then Q (.bl true) H1 else tb σ H1 Q
noncomputable def Ik (ta:TE):TE:=fun σ H Q=>ta σ H fun x H1=>∃c,x=.bl c/\Q (.bl (!c)) H1
theorem F4 {op}{t:TE}(h:PE X a t):PE X (.BoolOp op [a] pos) t:=fun pins s σ H Q I hw=>BoolOp_one (h pins s σ H Q I hw)
theorem Ga (ha:PE X a ta)(hb:PE X (.BoolOp .And (b::rest) pos) tb):PE X (.BoolOp .And (a::b::rest) pos) (Ip ta tb):=by
 intro pins s σ H Q I h
 refine BoolOp_and (aP (ha pins s σ H _ I h) fun v s1 ⟨x,H1,I1,r1,q1⟩=>?_)
 obtain ⟨c,rfl,q1⟩:=q1
 cases r1
 refine tqp ?_
 cases c with
 |true=>exact hb pins s1 σ H1 Q I1 q1
 |false=>exact ⟨.bl false,H1,I1,rfl,q1⟩
theorem ID (ha:PE X a ta)(hb:PE X (.BoolOp .Or (b::rest) pos) tb):PE X (.BoolOp .Or (a::b::rest) pos) (Km ta tb):=by
 intro pins s σ H Q I h
 refine BoolOp_or (aP (ha pins s σ H _ I h) fun v s1 ⟨x,H1,I1,r1,q1⟩=>?_)
 obtain ⟨c,rfl,q1⟩:=q1
 cases r1
 refine tqp ?_
 cases c with
 |false=>exact hb pins s1 σ H1 Q I1 q1
 |true=>exact ⟨.bl true,H1,I1,rfl,q1⟩
theorem F5 (ha:PE X a ta):PE X (.UnaryOp .Not a pos) (Ik ta):=by
 intro pins s σ H Q I h
 refine UnaryOp_ (aP (ha pins s σ H _ I h) fun v s1 ⟨x,H1,I1,r1,q1⟩=>?_)
 obtain ⟨c,rfl,q1⟩:=q1
 cases r1
 exact not_of (tqp ⟨.bl (!c),H1,I1,rfl,q1⟩)
noncomputable def tIf (t:TT)(ta tb:TE):TE:=fun σ H Q=>t σ H fun c H1=>if c=true then ta σ H1 Q else tb σ H1 Q
theorem rP {c:Expr}(hc:PT X c tA)(ha:PE X a ta)(hb:PE X b tb):PE X (.IfExp c a b pos) (tIf tA ta tb):=by
 intro pins s σ H Q I h
 refine wpAny_IfExp (aP (hc pins s σ H _ I h) fun d s1 ⟨H1,I1,q1⟩=>?_)
 cases d with
 |true=>exact ha pins s1 σ H1 Q I1 q1
 |false=>exact hb pins s1 σ H1 Q I1 q1
end
end L2
namespace L2
open PySem PySem.Spec PyProof.Rows
noncomputable def bV (K:LX)(H:Hp)(a:Addr)(xs:List V):Prop:=
 Rd H a (.lst xs)\/
  ∃(o:Obj) (its:Array LY) (n:Nat),K.lookup a=some o/\o.cls=.type "list"/\o.dict=none/\o.data=.seq its n/\its.size<=sizeLine/\Vals xs its.toList
noncomputable def cZ (K:LX)(H:Hp)(a:Addr)(xs:List V):Prop:=
 Rd H a (.tup xs)\/
  ∃(o:Obj) (its:Array LY) (n:Nat),K.lookup a=some o/\o.cls=.type "tuple"/\o.data=.seq its n/\its.size<=sizeLine/\Vals xs its.toList
noncomputable def Lw:LY->Option V
 |.none=>some .non
 |.bool b=>some (.bl b)
 |.int i _=>some (.int i)
 |.str x _=>some (.str x)
 |.bytes b _=>some (.byt b)
 |.float b _=>some (.flt b)
 |.ref a=>some (.ref a)
 |.type n=>some (.ty n)
 |_=>none
theorem RelV.abs {x:V}{u:LY}(r:RelV x u):Lw u=some x:=by
 cases x with
 |non=>cases r;rfl
 |bl _=>cases r;rfl
 |int _=>obtain ⟨t,rfl⟩:=r;rfl
 |str _=>obtain ⟨t,rfl⟩:=r;rfl
 |byt _=>obtain ⟨t,rfl⟩:=r;rfl
 |flt _=>obtain ⟨t,rfl⟩:=r;rfl
 |ref _=>cases r;rfl
 |ty _=>cases r;rfl
theorem RelV.inj {x y:V}{u:LY}(r:RelV x u)(q:RelV y u):x=y:=L9 (r.abs.symm.trans q.abs)
theorem Vals.inj:∀{xs ys:List V}{us:List LY},Vals xs us->Vals ys us->xs=ys
 |_,_,_,.nil,.nil=>rfl
 |_,_,_,.cons r t,.cons r' t'=>by rw [r.inj r',Vals.inj t t']
section
variable {X:Cx}{pins:List (Addr×Obj)}{σ:St}{H:Hp}{s:L4}{a:Addr}{xs ys:List V}
theorem bV.of {K:LX}(h:H a=some (.lst xs)):bV K H a xs:=.inl (.inl h)
theorem cZ.of {K:LX}(h:H a=some (.tup xs)):cZ K H a xs:=.inl (.inl h)
theorem Inv.list (I:Inv X pins σ H s)(h:bV X.K H a xs):∃its:List LY,Vals xs its/\PlainL s.heap a its.toArray/\xs.length<=sizeLine:=by
 rcases h with h|⟨o,its,n,hk,hc,hd,hs,hz,r⟩
 ·obtain ⟨z,its,n,r,e⟩:=h.ok I.hok
  exact ⟨its,r,⟨_,n,e,rfl,rfl,rfl⟩,z⟩
 ·refine ⟨its.toList,r,⟨o,n,I.kIn a o hk,hc,hd,by simpa using hs⟩,?_⟩
  have e:=r.length
  simp only [NK] at e
  omega
theorem Inv.tuple (I:Inv X pins σ H s)(h:cZ X.K H a xs):∃its:List LY,Vals xs its/\IsTup s.heap a its.toArray/\xs.length<=sizeLine:=by
 rcases h with h|⟨o,its,n,hk,hc,hs,hz,r⟩
 ·obtain ⟨z,its,r,p⟩:=h.ok I.hok
  exact ⟨its,r,p,z⟩
 ·refine ⟨its.toList,r,⟨o,I.kIn a o hk,hc,n,by simpa using hs⟩,?_⟩
  have e:=r.length
  simp only [NK] at e
  omega
theorem Inv.list_inj (I:Inv X pins σ H s)(h:bV X.K H a xs)(h':bV X.K H a ys):xs=ys:=by
 obtain ⟨its,r,⟨o,n,e,_,_,d⟩,_⟩:=I.list h
 obtain ⟨its',r',⟨o',n',e',_,_,d'⟩,_⟩:=I.list h'
 rw [e] at e';cases e'
 rw [d] at d'
 injection d' with d1 _
 have:its=its':=by simpa using congrArg Array.toList d1
 subst this
 exact r.inj r'
theorem Inv.tuple_inj (I:Inv X pins σ H s)(h:cZ X.K H a xs)(h':cZ X.K H a ys):xs=ys:=by
 obtain ⟨its,r,⟨o,e,_,n,d⟩,_⟩:=I.tuple h
 obtain ⟨its',r',⟨o',e',_,n',d'⟩,_⟩:=I.tuple h'
 rw [e] at e';cases e'
 rw [d] at d'
 injection d' with d1 _
 have:its=its':=by simpa using congrArg Array.toList d1
 subst this
 exact r.inj r'
end
section
variable {X:Cx}{st:Stmt}{rest:List Stmt}{t u:TS}{e:Expr}{te:TE}{pos:Pos}
noncomputable def Bz:TS:=fun D σ H=>D.nx σ H
noncomputable def Kk (t u:TS):TS:=fun D σ H=>t {D with nx:=u D} σ H
theorem ue:lI X [] Bz:=fun _ _ σ H _ I h=>wpAny_execs_nil ⟨σ,H,I,h⟩
theorem mS (h1:PS X st t)(h2:lI X rest u):lI X (st::rest) (Kk t u):=by
 intro pins s σ H D I h
 refine wpAny_execs_cons (aP (h1 pins s σ H {D with nx:=u D} I h) fun f s1 q=>?_)
 cases f with
 | next =>
   obtain ⟨σ',H',I',q⟩:=q
   exact h2 pins s1 σ' H' D I' q
 |ret v=>exact q
 |brk=>exact q
 |cont=>exact q
theorem DJ:PS X (.Pass pos) Bz:=fun _ _ σ H _ I h=>wpAny_Pass ⟨σ,H,I,h⟩
theorem Inv.quiet {pins:List (Addr×Obj)}{σ:St}{H:Hp}{s:L4}(I:Inv X pins σ H s):interactive X.env=false:=by simp [interactive,I.ok.kind]
noncomputable def Im (te:TE):TS:=fun D σ H=>te σ H fun _ H1=>D.nx σ H1
theorem lN (he:PE X e te)(hs:swapsWith e none pos.line X.env=pure false:=by rfl):PS X (.Expr e pos) (Im te):=by
 intro pins s σ H D I h
 exact wpAny_Expr_any (aP (he pins s σ H _ I h) fun v s1 ⟨x,H1,I1,r1,q1⟩=>⟨σ,H1,I1,q1⟩) I.quiet hs
noncomputable def Kl (te:TE):TS:=fun D σ H=>te σ H D.rt
theorem xt (he:PE X e te):PS X (.Return (some e) pos) (Kl te):=by
 intro pins s σ H D I h
 exact wpAny_Return_some (aP (he pins s σ H _ I h) fun v s1 ⟨x,H1,I1,r1,q1⟩=>⟨x,σ,H1,I1,r1,q1⟩)
noncomputable def Ii:TS:=fun D _ H=>D.rt .non H
theorem DH:PS X (.Return none pos) Ii:=fun _ _ σ H _ I h=>wpAny_Return_none ⟨.non,σ,H,I,rfl,h⟩
noncomputable def Kp (c:TT)(t u:TS):TS:=fun D σ H=>c σ H fun b H1=>if b=true then t D σ H1 else u D σ H1
theorem IC {c:Expr}{a b:List Stmt}{tc:TT}(hc:PT X c tc)(ha:lI X a t)(hb:lI X b u):PS X (.If c a b pos) (Kp tc t u):=by
 intro pins s σ H D I h
 refine wpAny_If (aP (hc pins s σ H _ I h) fun d s1 ⟨H1,I1,q1⟩=>?_)
 cases d with
 |true=>exact ha pins s1 σ H1 D I1 q1
 |false=>exact hb pins s1 σ H1 D I1 q1
end
abbrev TG:=V->St->Hp->(St->Hp->Prop)->Prop
abbrev oB:=List V->St->Hp->(St->Hp->Prop)->Prop
noncomputable def PG (X:Cx)(target:Expr)(t:TG):Prop:=
 ∀(pins:List (Addr×Obj)) (s:L4) (σ:St) (H:Hp) (v:V) (u:LY) (Q:St->Hp->Prop),Inv X pins σ H s->RelV v u->t v σ H Q->
  wpAny (model X.prog X.w) X.A (assign target X.env u) (fun _ s'=>∃σ' H',Inv X pins σ' H' s'/\Q σ' H') X.xe s
noncomputable def tu (X:Cx)(ts:List Expr)(t:oB):Prop:=
 ∀(pins:List (Addr×Obj)) (s:L4) (σ:St) (H:Hp) (vs:List V) (us:List LY) (Q:St->Hp->Prop),Inv X pins σ H s->Vals vs us->t vs σ H Q->
  wpAny (model X.prog X.w) X.A (assignInOrder ((assignEach ts X.env).map (·.2)) us) (fun _ s'=>∃σ' H',Inv X pins σ' H' s'/\Q σ' H') X.xe s
abbrev Bb:=V->V->V->Hp->(Hp->Prop)->Prop
noncomputable def HU (X:Cx)(t:Bb):Prop:=
 ∀(pins:List (Addr×Obj)) (s:L4) (σ:St) (H:Hp) (o i v:V) (ov iv u:LY) (Q:Hp->Prop),Inv X pins σ H s->RelV o ov->RelV i iv->RelV v u->t o i v H Q->
  wpAny (model X.prog X.w) X.A (setItem ov iv u) (fun _ s'=>∃H',Inv X pins σ H' s'/\Q H') X.xe s
section
variable {X:Cx}{pos:Pos}
noncomputable def I8 (i:Nat):TG:=fun v σ H Q=>Q (σ.set i (some v)) H
theorem ui {i:Nat}{x:Str}(hN:X.N.Nodup)(hi:X.N[i]?=some x)(hx:Loc X.env.scope x)(hf:X.fn x=true\/X.env.scope.names.lookup x=some .local:=by first|exact .inl rfl|exact .inr rfl|assumption):PG X (.Name x pos) (I8 i):=by
 intro pins s σ H v u Q I r h
 exact wpAny_assign_Name (zA I hN hi hx r (fun s' I'=>⟨_,H,I',h⟩) hf)
noncomputable def ah:oB:=fun vs σ H Q=>vs=[]/\Q σ H
noncomputable def ae (t:TG)(u:oB):oB:=fun vs σ H Q=>∃v r,vs=v::r/\t v σ H fun σ' H'=>u r σ' H' Q
theorem ug:tu X [] ah:=by
 intro pins s σ H vs us Q I r h
 obtain ⟨e,h⟩:=h
 subst e
 cases r
 exact assignInOrder_nil ⟨σ,H,I,h⟩
theorem mV {e:Expr}{es:List Expr}{t:TG}{u:oB}(h1:PG X e t)(h2:tu X es u)
 (hs:(assignEach (e::es) X.env).map (·.2)=assign e X.env::(assignEach es X.env).map (·.2):=by rfl):tu X (e::es) (ae t u):=by
 intro pins s σ H vs us Q I r h
 obtain ⟨v,vr,e1,h⟩:=h
 subst e1
 cases r with
 | cons r rr =>
   rw [hs]
   refine assignInOrder_cons (aP (h1 pins s σ H _ _ _ I r h) fun _ s1 ⟨σ1,H1,I1,q1⟩=>?_)
   exact h2 pins s1 σ1 H1 _ _ Q I1 rr q1
noncomputable def cv (K:LX)(n:Nat)(t:oB):TG:=fun v σ H Q=>∃a xs,v=.ref a/\cZ K H a xs/\xs.length=n/\t xs σ H Q
theorem xy {es:List Expr}{k:Nat}{t:oB}{n:Nat}(hc:X.calm=true)(h:tu X es t)
 (hn:(assignEach es X.env).length=n:=by rfl) (hst:(assignEach es X.env).findIdx? (·.1)=none:=by rfl):PG X (.Tuple es k pos) (cv X.K n t):=by
 intro pins s σ H v u Q I r hw
 obtain ⟨a,xs,e1,hq,hl,hw⟩:=hw
 subst e1
 cases r
 obtain ⟨its,rv,ht,hz⟩:=I.tuple hq
 refine assign_Tuple_tuple (I.ok.hd hc) ht (by simp [hn,<- hl,rv.length]) hst fun h' hx=>?_
 have I1:Inv X pins σ H {s with heap:=h'}:=I.kept (t':=s.toks) fun b o e=>hx b o (MO (Mi e)) e
 exact h pins _ σ H xs _ Q I1 (by simpa using rv) hw
noncomputable def Lh (to ti:TE)(t:Bb):TG:=fun v σ H Q=>to σ H fun o H1=>ti σ H1 fun i H2=>t o i v H2 fun H3=>Q σ H3
theorem xA {o i:Expr}{to ti:TE}{t:Bb}(ho:PE X o to)(hi:PE X i ti)(hs:HU X t)
 (ha:∀v,assign (.Subscript o i pos) X.env v=(do
  let ov <- holding [v] (eval o X.env)
  let iv <- holding [v,ov] (eval i X.env)
  standAt pos
  holding [v,ov,iv] (setItem ov iv v)
  release [v,ov,iv] []):=by intro _;rfl):PG X (.Subscript o i pos) (Lh to ti t):=by
 intro pins s σ H v u Q I r h
 rw [ha]
 refine tqa (tqo (aP (ho pins s σ H _ I h) fun ov s1 ⟨x,H1,I1,r1,q1⟩=>?_))
 refine tqa (tqo (aP (hi pins s1 σ H1 _ I1 q1) fun iv s2 ⟨y,H2,I2,r2,q2⟩=>?_))
 refine tqa (wpAny_standAt (tqa (tqo (aP (hs pins s2 σ H2 x y v ov iv u _ I2 r1 r2 r q2) fun _ s3 ⟨H3,I3,q3⟩=>?_))))
 exact wpAny_release ⟨σ,H3,I3,q3⟩
noncomputable def Kt (te:TE)(g:TG):TS:=fun D σ H=>te σ H fun x H1=>g x σ H1 D.nx
theorem nQ {tg e:Expr}{te:TE}{g:TG}(he:PE X e te)(hg:PG X tg g)(hs:swapsWithSole [tg] e pos.line X.env=pure false:=by rfl)(hw:swappedStores [tg] e X.env=pure none:=by rfl)
 (h1:(assignEach [tg] X.env).map (·.2)=[assign tg X.env]:=by rfl):PS X (.Assign [tg] e pos) (Kt te g):=by
 intro pins s σ H D I h
 refine wpAny_Assign_stores (aP (he pins s σ H _ I h) fun v s1 ⟨x,H1,I1,r1,q1⟩=>?_) hs hw
 rw [h1]
 exact aP (hg pins s1 σ H1 x v _ I1 r1 q1) fun _ s2 q=>q
end
structure It where
 go:Nat->Hp->Prop
 yld:Nat->Hp->V->Hp->Prop
 stop:Nat->Hp->Prop
noncomputable def fh (X:Cx)(pins:List (Addr×Obj))(H:Hp)(b:Addr):Prop:=
 H b=none/\b≠X.env.locals/\b∉X.fs/\(b∈X.ex\/X.s₀.heap.objs.size<=b)/\(∀x c,X.env.cells.lookup x=some c->c≠b)/\∀p∈X.pn++pins,p.1≠b
theorem Inv.fpOk {X:Cx}{pins:List (Addr×Obj)}{σ:St}{H H':Hp}{s:L4}{b:Addr}(I:Inv X pins σ H s)(hb:s.heap.objs.size<=b)(hn:H' b=none):fh X pins H' b:=by
 refine ⟨hn,Nc (Mj I.lt hb),I.nofs hb,.inr (Mb I.sz hb),fun x c e z=>?_,fun p hp z=>?_⟩
 ·obtain ⟨v,q⟩:=I.cell x c e
  exact absurd (Mj q.lt (by rw [z];exact hb)) (Nk _)
 ·exact absurd (Mj (Mi (I.pin p hp).1) (by rw [z];exact hb)) (Nk _)
structure Turn (P:Ms) (w:Mv) (K:LX) (tg:Expr) (J:It) (fp:List Addr) (it:Addr) (tn:Nat->Heap->Prop):Prop where
 mem:it∈fp
 obj:∀i h,tn i h->∀b∈fp,∃o,h.get? b=some o/\∀v,o.data≠.cell v
 keep:∀i h h',tn i h->(∀b∈fp,∀o,h.get? b=some o->h'.get? b=some o)->tn i h'
 item:∀(X:Cx),X.prog=P->X.w=w->X.K=K->X.calm=true->∀(i:Nat) (pins:List (Addr×Obj)) (s:L4) (σ:St) (H:Hp) (E:LY->L4->Prop),Inv X pins σ H s->(∀b∈fp,fh X pins H b)->tn i s.heap->J.go i H->
  wpAny (model P w) X.A (pyNext (.ref it)) (fun r s1=>∃u,r=some u/\
   wpAny (model P w) X.A (letOwnedTupleGo tg (.ref it) u) (fun _ s2=>∃x H',Inv X pins σ H' s2/\RelV x u/\J.yld i H x H'/\tn (i+1) s2.heap/\∀b∈fp,H' b=none) E s1) E s
 done:∀(X:Cx),X.prog=P->X.w=w->X.K=K->X.calm=true->∀(i:Nat) (pins:List (Addr×Obj)) (s:L4) (σ:St) (H:Hp) (E:LY->L4->Prop),Inv X pins σ H s->(∀b∈fp,fh X pins H b)->tn i s.heap->J.stop i H->
  wpAny (model P w) X.A (pyNext (.ref it)) (fun r s1=>r=none/\Inv X pins σ H s1) E s
 self:∀(A:MZ) (i:Nat) (s:L4) (Q:LY->L4->Prop) (E:LY->L4->Prop),tn i s.heap->Q (.ref it) s->wpAny (model P w) A (pyIter (.ref it)) Q E s
abbrev TI:=St->Hp->(It->Hp->Prop)->Prop
noncomputable def Cs (X:Cx)(pins:List (Addr×Obj))(σ:St)(tg:Expr)(R:It->Hp->Prop)(itv:LY)(s2:L4):Prop:=
 ∃(it:Addr) (fp:List Addr) (tn:Nat->Heap->Prop) (J:It) (H':Hp),itv=.ref it/\Inv X pins σ H' s2/\Turn X.prog X.w X.K tg J fp it tn/\tn 0 s2.heap/\(∀b∈fp,fh X pins H' b)/\R J H'
noncomputable def PI (X:Cx)(tg iter:Expr)(wi:TI):Prop:=
 ∀(pins:List (Addr×Obj)) (s:L4) (σ:St) (H:Hp) (R:It->Hp->Prop),Inv X pins σ H s->wi σ H R->
  wpAny (model X.prog X.w) X.A (eval iter X.env) (fun v s1=>wpAny (model X.prog X.w) X.A (pyIter v) (Cs X pins σ tg R) X.xe s1) X.xe s
theorem qM {M:Model}{A:MZ}{E:LY->L4->Prop}{s:L4}{tg:Expr}{it:Addr}{u:LY}{o:Obj}{n:String}{vs:Array LY}{Q:Unit->L4->Prop}(ho:s.heap.get? it=some o)(hc:o.cls=.type n)(hd:o.data=.fields vs)
 (hn:["enumerate","zip","dict_itemiterator","dict_reverseitemiterator","odict_iterator","itertools.zip_longest","itertools.pairwise"].contains n=false) (hQ:Q () s):wpAny M A (letOwnedTupleGo tg (.ref it) u) Q E s:=by
 unfold letOwnedTupleGo
 cases tg<;>first
  |exact tqb hQ
  |(cases u<;>first
   |exact tqb hQ
   | (refine tqa (wpAny_load ho ?_)
      rw [hc,hd]
      show wpAny M A (if (["enumerate","zip","dict_itemiterator","dict_reverseitemiterator","odict_iterator","itertools.zip_longest","itertools.pairwise"].contains n&&vs[0]?==some (rawInt _))=true then _ else _) Q E s
      rw [if_neg (by intro h;rw [hn,Bool.false_and] at h;cases h)]
      exact tqb hQ))
noncomputable def HX (K:LX)(a:Addr):It:=
 ⟨fun i H=>∃xs x,bV K H a xs/\xs[i]?=some x,fun i H x H'=>H'=H/\∀xs,bV K H a xs->xs[i]?=some x,fun i H=>∃xs,bV K H a xs/\xs.length<=i⟩
noncomputable def HV (K:LX)(a:Addr):It:=
 ⟨fun i H=>∃xs x,cZ K H a xs/\xs[i]?=some x,fun i H x H'=>H'=H/\∀xs,cZ K H a xs->xs[i]?=some x,fun i H=>∃xs,cZ K H a xs/\xs.length<=i⟩
noncomputable def Cy (lo:Int)(n:Nat):It:=⟨fun i _=>i<n,fun i H x H'=>H'=H/\x=.int (lo+i),fun i _=>n<=i⟩
theorem wH {P:Ms}{w:Mv}{K:LX}{tg:Expr}(a it:Addr):Turn P w K tg (HX K a) [it] it (fun i h=>h.IsListIter it a i) where
 mem:=by simp
 obj:=fun i h st b hb=>by
  have e:b=it:=by simpa using hb
  subst e
  obtain ⟨o,e,c,d⟩:=st
  exact ⟨o,e,fun v z=>by rw [d] at z;cases z⟩
 keep:=fun i h h' st k=>st.at fun o e=>k it (by simp) o e
 item:=by
  intro X hP hw hK hc i pins s σ H E I hf st hg
  subst hP hw hK
  obtain ⟨xs,x,hq,hx⟩:=hg
  obtain ⟨its,rv,p,hz⟩:=I.list hq
  obtain ⟨u,hu,ru⟩:=rv.get hx
  obtain ⟨f0,f1,f2,f3,f4,f5⟩:=hf it (by simp)
  refine wpAny_pyNext_list_item st p.isList (x:=u) (by simpa using hu) fun h' st' sb=>?_
  have I1:Inv X pins σ H {s with heap:=h'}:=I.turned (t':=s.toks) (fun b o hb e=>(sb.2 b hb).trans e) f0 f1 f3 f4 f5
  obtain ⟨o,e,c,d⟩:=id st'
  exact ⟨u,rfl,qM (s:={s with heap:=h'}) e c d (by decide) ⟨x,H,I1,ru,⟨rfl,fun ys hy=>by rw [I.list_inj hy hq];exact hx⟩,st',fun b hb=>(hf b hb).1⟩⟩
 done:=by
  intro X hP hw hK hc i pins s σ H E I hf st hg
  subst hP hw hK
  obtain ⟨xs,hq,hx⟩:=hg
  obtain ⟨its,rv,p,hz⟩:=I.list hq
  obtain ⟨f0,f1,f2,f3,f4,f5⟩:=hf it (by simp)
  have hl:=rv.length
  exact wpAny_pyNext_list_end (I.ok.hd hc) st p.isList (by simp;omega) fun h' eb=>⟨rfl,I.turned (t':=s.toks) (fun b o hb e=>eb b o hb e) f0 f1 f3 f4 f5⟩
 self:=fun _ _ _ _ _ st h=>wpAny_pyIter_listiter st h
theorem uS {P:Ms}{w:Mv}{K:LX}{tg:Expr}(a it:Addr):Turn P w K tg (HV K a) [it] it (fun i h=>h.IsTupleIter it a i) where
 mem:=by simp
 obj:=fun i h st b hb=>by
  have e:b=it:=by simpa using hb
  subst e
  obtain ⟨o,e,c,d⟩:=st
  exact ⟨o,e,fun v z=>by rw [d] at z;cases z⟩
 keep:=fun i h h' st k=>st.at fun o e=>k it (by simp) o e
 item:=by
  intro X hP hw hK hc i pins s σ H E I hf st hg
  subst hP hw hK
  obtain ⟨xs,x,hq,hx⟩:=hg
  obtain ⟨its,rv,p,hz⟩:=I.tuple hq
  obtain ⟨u,hu,ru⟩:=rv.get hx
  obtain ⟨f0,f1,f2,f3,f4,f5⟩:=hf it (by simp)
  refine wpAny_pyNext_tuple_item st (show s.heap.IsTuple a its.toArray from p) (x:=u) (by simpa using hu) fun h' st' sb=>?_
  have I1:Inv X pins σ H {s with heap:=h'}:=I.turned (t':=s.toks) (fun b o hb e=>(sb.2 b hb).trans e) f0 f1 f3 f4 f5
  obtain ⟨o,e,c,d⟩:=id st'
  exact ⟨u,rfl,qM (s:={s with heap:=h'}) e c d (by decide) ⟨x,H,I1,ru,⟨rfl,fun ys hy=>by rw [I.tuple_inj hy hq];exact hx⟩,st',fun b hb=>(hf b hb).1⟩⟩
 done:=by
  intro X hP hw hK hc i pins s σ H E I hf st hg
  subst hP hw hK
  obtain ⟨xs,hq,hx⟩:=hg
  obtain ⟨its,rv,p,hz⟩:=I.tuple hq
  obtain ⟨f0,f1,f2,f3,f4,f5⟩:=hf it (by simp)
  have hl:=rv.length
  exact wpAny_pyNext_tuple_end (I.ok.hd hc) st (show s.heap.IsTuple a its.toArray from p) (by simp;omega) fun h' eb=>⟨rfl,I.turned (t':=s.toks) (fun b o hb e=>eb b o hb e) f0 f1 f3 f4 f5⟩
 self:=fun _ _ _ _ _ st h=>wpAny_pyIter_tupleiter st h
theorem uT {P:Ms}{w:Mv}{K:LX}{tg:Expr}(it:Addr)(lo:Int)(n:Nat):Turn P w K tg (Cy lo n) [it] it (fun i h=>IsRangeIter h it (lo+(i:Nat)*1) ((n:Int)-(i:Nat)) 1) where
 mem:=by simp
 obj:=fun i h st b hb=>by
  have e:b=it:=by simpa using hb
  subst e
  exact ⟨_,st,fun v z=>by
   have z':Data.fields _=Data.cell v:=z
   cases z'⟩
 keep:=fun i h h' st k=>k it (by simp) _ st
 item:=by
  intro X hP hw hK hc i pins s σ H E I hf st hg
  subst hP hw hK
  obtain ⟨f0,f1,f2,f3,f4,f5⟩:=hf it (by simp)
  have W:=Walks.range (prog:=X.prog) (w:=X.w) (I.ok.hd hc) it lo 1 n
  refine W.item i s _ _ hg st fun v h' tk hv st' kk=>?_
  obtain ⟨t,rfl⟩:=hv
  have I1:Inv X pins σ H {s with heap:=h',toks:=tk}:=I.turned (fun b o hb e=>kk b o (by simpa using hb) e) f0 f1 f3 f4 f5
  refine ⟨_,rfl,qM (s:={s with heap:=h',toks:=tk}) (n:="range_iterator") st' rfl rfl (by decide) ⟨.int (lo+i),H,I1,⟨t,?_⟩,⟨rfl,rfl⟩,st',fun b hb=>(hf b hb).1⟩⟩
  rw [Int.mul_one]
 done:=by
  intro X hP hw hK hc i pins s σ H E I hf st hg
  subst hP hw hK
  obtain ⟨f0,f1,f2,f3,f4,f5⟩:=hf it (by simp)
  exact wpAny_pyNext_range_end (I.ok.hd hc) st (by have:n<=i:=hg;omega) fun h' eb=>⟨rfl,I.turned (t':=s.toks) (fun b o hb e=>eb b o hb e) f0 f1 f3 f4 f5⟩
 self:=fun _ _ _ _ _ st h=>wpAny_pyIter_rangeiter st h
end L2
namespace L2
open PySem PySem.Spec PyProof.Rows
section
variable {X:Cx}{tg:Expr}
noncomputable def I0 (K:LX)(tl:TE):TI:=fun σ H R=>tl σ H fun x H1=>∃a,x=.ref a/\(∃xs,bV K H1 a xs)/\R (HX K a) H1
noncomputable def Lg (K:LX)(tl:TE):TI:=fun σ H R=>tl σ H fun x H1=>∃a,x=.ref a/\(∃xs,cZ K H1 a xs)/\R (HV K a) H1
theorem DM {l:Expr}{tl:TE}(hl:PE X l tl):PI X tg l (I0 X.K tl):=by
 intro pins s σ H R I h
 refine aP (hl pins s σ H _ I h) fun v s1 ⟨x,H1,I1,r1,q1⟩=>?_
 obtain ⟨a,e,⟨xs,hq⟩,q⟩:=q1
 subst e
 cases r1
 obtain ⟨its,rv,p,hz⟩:=I1.list hq
 refine wpAny_pyIter_list p.isList ?_
 refine ⟨s1.heap.objs.size,[s1.heap.objs.size],_,_,H1,rfl,I1.kept (t':=s1.toks) fun b o e=>L3 _ e,wH a _,⟨_,Mo _ rfl,rfl,rfl⟩,fun b hb=>?_,q⟩
 have e:b=s1.heap.objs.size:=by simpa using hb
 subst e
 exact I1.fpOk (L7 _) (I1.hok.fresh (L7 _))
theorem FZ {l:Expr}{tl:TE}(hl:PE X l tl):PI X tg l (Lg X.K tl):=by
 intro pins s σ H R I h
 refine aP (hl pins s σ H _ I h) fun v s1 ⟨x,H1,I1,r1,q1⟩=>?_
 obtain ⟨a,e,⟨xs,hq⟩,q⟩:=q1
 subst e
 cases r1
 obtain ⟨its,rv,p,hz⟩:=I1.tuple hq
 refine wpAny_pyIter_tuple (show s1.heap.IsTuple a its.toArray from p) ?_
 refine ⟨s1.heap.objs.size,[s1.heap.objs.size],_,_,H1,rfl,I1.kept (t':=s1.toks) fun b o e=>L3 _ e,uS a _,⟨_,Mo _ rfl,rfl,rfl⟩,fun b hb=>?_,q⟩
 have e:b=s1.heap.objs.size:=by simpa using hb
 subst e
 exact I1.fpOk (L7 _) (I1.hok.fresh (L7 _))
theorem zY {pins:List (Addr×Obj)}{σ:St}{H:Hp}{s:L4}{R:It->Hp->Prop}{E:LY->L4->Prop}{lo hi:Int}{t u v:Tok}{tk:Nat}(I:Inv X pins σ H s)(h1:-(2^62)<=lo)(h2:lo<2^62)(h3:-(2^62)<=hi)(h4:hi<2^62)
 (q:R (Cy lo (hi-lo).toNat) H):wpAny (model X.prog X.w) X.A (pyIter (.ref s.heap.objs.size)) (Cs X pins σ tg R) E {s with heap:=s.heap.push {cls:=.type "range",data:=.fields #[.int lo t,.int hi u,.int 1 v]},toks:=tk}:=by
 refine wpAny_pyIter_range (IsRange.new ..) (small_one h1 h2 h3 h4) ?_
 have I1:Inv X pins σ H {s with heap:=s.heap.push {cls:=.type "range",data:=.fields #[.int lo t,.int hi u,.int 1 v]},toks:=tk}:=I.kept fun b o e=>L3 _ e
 refine ⟨(s.heap.push {cls:=.type "range",data:=.fields #[.int lo t,.int hi u,.int 1 v]}).objs.size,[(s.heap.push {cls:=.type "range",data:=.fields #[.int lo t,.int hi u,.int 1 v]}).objs.size],_,_,H,rfl,
  I1.kept (t':=tk) fun b o e=>L3 _ e,uT _ lo (hi-lo).toNat,?_,fun b hb=>?_,q⟩
 ·have e1:lo+((0:Nat):Int)*1=lo:=by simp
  have e2:(((hi-lo).toNat:Nat):Int)-((0:Nat):Int)=Builtin.Range.rangeSize lo hi 1:=by rw [rangeSize_one];split<;>omega
  show IsRangeIter _ _ (lo+((0:Nat):Int)*1) ((((hi-lo).toNat:Nat):Int)-((0:Nat):Int)) 1
  rw [e1,e2]
  exact Mo _ rfl
 ·have e:b=(s.heap.push {cls:=.type "range",data:=.fields #[.int lo t,.int hi u,.int 1 v]}).objs.size:=by simpa using hb
  subst e
  exact I1.fpOk (L7 _) (I1.hok.fresh (L7 _))
noncomputable def IZ (ta:TA):TI:=fun σ H R=>ta σ H fun vs H1=>∃j:Int,vs=[.int j]/\-(2^62)<=j/\j<2^62/\R (Cy 0 j.toNat) H1
theorem xx {a:Expr}{ta:TA}{p pos:Pos}(hg:Gl X "range")(hm:X.mg "range"=none)(ha:PA X [a] ta)(hs:starEach [a] X.env=[(false,eval a X.env)]:=by rfl):PI X tg (.Call (.Name "range" p) [a] [] pos) (IZ ta):=by
 intro pins s σ H R I h
 refine Call_ (gk I hg hm boot_range (Nf (aP (ha pos pins s σ H _ I h) fun us s1 ⟨vs,H1,I1,r1,q1⟩=>?_) hs rfl))
 obtain ⟨j,e,q1,q2,q⟩:=q1
 subst e
 cases r1 with
 | cons r rr =>
   cases rr
   obtain ⟨t,rfl⟩:=r
   exact call_range_1 (zY I1 (by omega) (by omega) q1 q2 (by simpa using q))
noncomputable def Kq (wi:TI)(g:TG)(tb:TS):TS:=fun D σ H=>wi σ H fun J H1=>∃W:Nat->Nat->St->Hp->Prop,(∃m,W 0 m σ H1)/\∀i m σ H,W i m σ H->
 (J.stop i H/\D.nx σ H)\/(J.go i H/\∃N:St->Hp->Prop,(∀σ' H',N σ' H'->∃m',m'<m/\W (i+1) m' σ' H')/\∀x H',J.yld i H x H'->g x σ H' fun σ2 H2=>tb {D with nx:=N,ct:=N,bk:=D.nx} σ2 H2)
noncomputable def nR (fp:List Addr)(h:Heap):List (Addr×Obj):=fp.filterMap fun b=>(h.get? b).map fun o=>(b,o)
theorem iD {fp:List Addr}{h:Heap}{b:Addr}{o:Obj}(hb:b∈fp)(e:h.get? b=some o):(b,o)∈nR fp h:=List.mem_filterMap.mpr ⟨b,hb,by rw [e];rfl⟩
theorem xQ {fp:List Addr}{h:Heap}{p:Addr×Obj}(hp:p∈nR fp h):p.1∈fp/\h.get? p.1=some p.2:=by
 obtain ⟨b,hb,e⟩:=List.mem_filterMap.mp hp
 cases q:h.get? b with
 |none=>rw [q] at e;cases e
 | some o =>
   rw [q] at e
   have e':(b,o)=p:=L9 e
   subst e'
   exact ⟨hb,q⟩
theorem Inv.pinned {pins:List (Addr×Obj)}{σ:St}{H:Hp}{s:L4}{fp:List Addr}(I:Inv X pins σ H s)(hf:∀b∈fp,fh X pins H b)(ho:∀b∈fp,∃o,s.heap.get? b=some o/\∀v,o.data≠.cell v):Inv X (pins++nR fp s.heap) σ H s:=
 I.pins_of fun p hp=>(MQ.mp hp).elim (fun z=>I.pin p (MW _ z)) fun z=>by
  obtain ⟨hb,e⟩:=xQ z
  obtain ⟨f0,f1,f2,_⟩:=hf p.1 hb
  obtain ⟨o,e',d⟩:=ho p.1 hb
  rw [e] at e';cases e'
  exact ⟨e,f0,f1,f2,d⟩
theorem Inv.unpinned {pins pl:List (Addr×Obj)}{σ:St}{H:Hp}{s:L4}(I:Inv X (pins++pl) σ H s):Inv X pins σ H s:=I.pins_of fun p hp=>I.pin p (MW _ (NY _ hp))
theorem FX {iter:Expr}{body:List Stmt}{wi:TI}{g:TG}{tb:TS}{pos:Pos}(hp:PassesOwn (model X.prog X.w) X.A X.env X.xe)(hc:X.calm=true)(hi:PI X tg iter wi)(hg:PG X tg g)(hb:lI X body tb)
 (hs:∀x,foldedSetIterable iter X.env x=pure x:=by intro _;rfl):PS X (.For tg iter body [] pos) (Kq wi g tb):=by
 intro pins s σ H D I h
 refine wpAny_For (aP (hi pins s σ H _ I h) fun v s1 h1=>aP h1 fun itv s2 h2=>?_) hs
 obtain ⟨it,fp,tn,J,H2,e,I2,T,st2,f2,W,⟨m0,w0⟩,turn⟩:=h2
 subst e
 have stat:∀{H':Hp},(∀b∈fp,H' b=none)->∀b∈fp,fh X pins H' b:=fun hn b hb=>⟨hn b hb,(f2 b hb).2⟩
 refine codeAny_forLoop_any (fun n s'=>∃i σ' H',Inv X pins σ' H' s'/\tn i s'.heap/\(∀b∈fp,H' b=none)/\W i n σ' H') ?_ m0 ⟨0,σ,H2,I2,st2,fun b hb=>(f2 b hb).1,w0⟩
 rintro n s3 ⟨i,σ3,H3,I3,st3,fr3,w3⟩
 rcases turn i n σ3 H3 w3 with ⟨stop,qn⟩|⟨go,N,hN,step⟩
 ·refine wpAny_passesOwn hp (aP (T.done X rfl rfl rfl hc i pins s3 σ3 H3 X.xe I3 (stat fr3) st3 stop) fun r s4 ⟨hr,I4⟩=>?_)
  subst hr
  exact wpAny_execs_nil ⟨σ3,H3,I4,qn⟩
 ·refine wpAny_passesOwn hp (aP (T.item X rfl rfl rfl hc i pins s3 σ3 H3 X.xe I3 (stat fr3) st3 go) fun r s4 ⟨u,hr,h4⟩=>?_)
  subst hr
  refine wpAny_passesOwn hp (aP h4 fun _ s5 ⟨x,H5,I5,r5,y5,st5,fr5⟩=>?_)
  have I5':=I5.pinned (stat fr5) (T.obj _ _ st5)
  refine wpAny_passesOwn hp (aP (hg _ s5 σ3 H5 x u _ I5' r5 (step x H5 y5)) fun _ s6 ⟨σ6,H6,I6,q6⟩=>?_)
  refine wpAny_passesOwn hp (aP (hb _ s6 σ6 H6 _ I6 q6) fun f s7 q7=>?_)
  have again:∀{σ7:St}{H7:Hp},Inv X (pins++nR fp s5.heap) σ7 H7 s7->N σ7 H7->∃m,m<n/\∃i σ' H',Inv X pins σ' H' s7/\tn i s7.heap/\(∀b∈fp,H' b=none)/\W i m σ' H':=fun {σ7 H7} I7 n7=>by
   obtain ⟨m',hm,w7⟩:=hN σ7 H7 n7
   refine ⟨m',hm,i+1,σ7,H7,I7.unpinned,T.keep _ _ _ st5 fun b hb o e=>(I7.pin (b,o) (MW _ (MW _ (iD hb e)))).1,fun b hb=>?_,w7⟩
   obtain ⟨o,e,d⟩:=T.obj _ _ st5 b hb
   exact (I7.pin (b,o) (MW _ (MW _ (iD hb e)))).2.1
  cases f with
  |next=>obtain ⟨σ7,H7,I7,n7⟩:=q7;exact again I7 n7
  |cont=>obtain ⟨σ7,H7,I7,n7⟩:=q7;exact again I7 n7
  |brk=>obtain ⟨σ7,H7,I7,q7⟩:=q7;exact ⟨σ7,H7,I7.unpinned,q7⟩
  |ret v=>obtain ⟨x7,σ7,H7,I7,r7,q7⟩:=q7;exact ⟨x7,σ7,H7,I7.unpinned,r7,q7⟩
end
end L2
namespace L2
open PySem PySem.Spec PyProof.Rows
abbrev R2:=V->V->Hp->VK->Prop
noncomputable def bD (X:Cx)(f:LY->LY->Sem LY)(r:R2):Prop:=
 ∀(pins:List (Addr×Obj)) (s:L4) (σ:St) (H:Hp) (x y:V) (v u:LY) (Q:VK),Inv X pins σ H s->RelV x v->RelV y u->r x y H Q->
  wpAny (model X.prog X.w) X.A (f v u) (EP X pins σ Q) X.xe s
noncomputable def HQ (X:Cx)(f:LY->Sem LY)(r:V->Hp->VK->Prop):Prop:=
 ∀(pins:List (Addr×Obj)) (s:L4) (σ:St) (H:Hp) (x:V) (v:LY) (Q:VK),Inv X pins σ H s->RelV x v->r x H Q->
  wpAny (model X.prog X.w) X.A (f v) (EP X pins σ Q) X.xe s
noncomputable def cy (X:Cx)(f:LY)(r:List V->Hp->VK->Prop):Prop:=
 ∀(pins:List (Addr×Obj)) (s:L4) (σ:St) (H:Hp) (xs:List V) (us:List LY) (Q:VK),Inv X pins σ H s->Vals xs us->r xs H Q->
  wpAny (model X.prog X.w) X.A (call f us) (EP X pins σ Q) X.xe s
noncomputable def Ly (X:Cx)(r:V->Hp->(Bool->Hp->Prop)->Prop):Prop:=
 ∀(pins:List (Addr×Obj)) (s:L4) (σ:St) (H:Hp) (x:V) (v:LY) (Q:Bool->Hp->Prop),Inv X pins σ H s->RelV x v->r x H Q->
  wpAny (model X.prog X.w) X.A (truthy v) (TP X pins σ Q) X.xe s
noncomputable def wO (r:R2)(ta tb:TE):TE:=fun σ H Q=>ta σ H fun x H1=>tb σ H1 fun y H2=>r x y H2 Q
noncomputable def tUn (r:V->Hp->VK->Prop)(ta:TE):TE:=fun σ H Q=>ta σ H fun x H1=>r x H1 Q
noncomputable def rI (C:Int->Int->Prop)(g:Int->Int->V):R2:=fun x y H Q=>∃i j,x=.int i/\y=.int j/\C i j/\Q (g i j) H
noncomputable def pV (g:Int->Int->V):R2:=fun x y H Q=>∃i j,x=.int i/\y=.int j/\Q (g i j) H
noncomputable def rU (g:Int->V):V->Hp->VK->Prop:=fun x H Q=>∃i,x=.int i/\Q (g i) H
section
variable {X:Cx}{a b c:Expr}{ta tb tc:TE}{pos:Pos}
theorem A8 (ha:PE X a ta)(hb:PE X b tb){pins:List (Addr×Obj)}{s:L4}{σ:St}{H:Hp}{R:V->V->Hp->Prop}(I:Inv X pins σ H s)
 (h:ta σ H fun x H1=>tb σ H1 fun y H2=>R x y H2) {Q:LY->L4->Prop}{f:LY->LY->Sem LY}
 (hf:∀v u s2 x y H2,Inv X pins σ H2 s2->RelV x v->RelV y u->R x y H2->wpAny (model X.prog X.w) X.A (f v u) Q X.xe s2) :
 wpAny (model X.prog X.w) X.A (eval a X.env) (fun v s₁=>wpAny (model X.prog X.w) X.A (eval b X.env) (fun u s₂=>wpAny (model X.prog X.w) X.A (f v u) Q X.xe s₂) X.xe s₁) X.xe s:=by
 refine aP (ha pins s σ H _ I h) fun v s1 ⟨x,H1,I1,r1,q1⟩=>?_
 refine aP (hb pins s1 σ H1 _ I1 q1) fun u s2 ⟨y,H2,I2,r2,q2⟩=>?_
 exact hf v u s2 x y H2 I2 r1 r2 q2
theorem IE {op:Operator}{r:R2}(ho:bD X (binaryOp op) r)(ha:PE X a ta)(hb:PE X b tb):PE X (.BinOp a op b pos) (wO r ta tb):=by
 intro pins s σ H Q I h
 exact wpAny_BinOp (A8 ha hb I h fun v u s2 x y H2 I2 rx ry q=>ho pins s2 σ H2 x y v u Q I2 rx ry q)
theorem BH {op:UnaryOp}{r:V->Hp->VK->Prop}(ho:HQ X (unaryOp op) r)(ha:PE X a ta):PE X (.UnaryOp op a pos) (tUn r ta):=by
 intro pins s σ H Q I h
 exact UnaryOp_ (aP (ha pins s σ H _ I h) fun v s1 ⟨x,H1,I1,r1,q1⟩=>ho pins s1 σ H1 x v Q I1 r1 q1)
theorem BK {f:LY->LY->Sem LY}{C:Int->Int->Prop}{g:Int->Int->Int}
 (rule:∀(i j:Int) (t u:Tok) (s:L4) (Q:LY->L4->Prop) (E:LY->L4->Prop),C i j->Q (.int (g i j) s.toks) {s with toks:=s.toks+1}->wpAny (model X.prog X.w) X.A (f (.int i t) (.int j u)) Q E s) :
 bD X f (rI C fun i j=>.int (g i j)):=by
 intro pins s σ H x y v u Q I rx ry h
 obtain ⟨i,j,rfl,rfl,hc,q⟩:=h
 obtain ⟨t,rfl⟩:=rx
 obtain ⟨t',rfl⟩:=ry
 exact rule i j t t' s _ _ hc ⟨.int (g i j),H,I.tok _,⟨_,rfl⟩,q⟩
theorem Gn {f:LY->LY->Sem LY}{g:Int->Int->Int}
 (rule:∀(i j:Int) (t u:Tok) (s:L4) (Q:LY->L4->Prop) (E:LY->L4->Prop),Q (.int (g i j) s.toks) {s with toks:=s.toks+1}->wpAny (model X.prog X.w) X.A (f (.int i t) (.int j u)) Q E s) :
 bD X f (pV fun i j=>.int (g i j)):=by
 intro pins s σ H x y v u Q I rx ry h
 obtain ⟨i,j,rfl,rfl,q⟩:=h
 obtain ⟨t,rfl⟩:=rx
 obtain ⟨t',rfl⟩:=ry
 exact rule i j t t' s _ _ ⟨.int (g i j),H,I.tok _,⟨_,rfl⟩,q⟩
theorem vi {f:LY->LY->Sem LY}{g:Int->Int->Bool}
 (rule:∀(i j:Int) (t u:Tok) (s:L4) (Q:LY->L4->Prop) (E:LY->L4->Prop),Q (.bool (g i j)) s->wpAny (model X.prog X.w) X.A (f (.int i t) (.int j u)) Q E s) :
 bD X f (pV fun i j=>.bl (g i j)):=by
 intro pins s σ H x y v u Q I rx ry h
 obtain ⟨i,j,rfl,rfl,q⟩:=h
 obtain ⟨t,rfl⟩:=rx
 obtain ⟨t',rfl⟩:=ry
 exact rule i j t t' s _ _ ⟨.bl (g i j),H,I,rfl,q⟩
noncomputable def H9 (i j:Int):Prop:=0<j/\j<1073741824
noncomputable def H8 (i j:Int):Prop:=0<=j/\j<=1000000/\i.natAbs<2^64
noncomputable def Be (i j:Int):Prop:=(-(2^64)<i/\i<2^64)\/(-(2^64)<j/\j<2^64)
theorem Be.ok {i j:Int}(h:Be i j):IntMulOk i j:=by
 rcases h with ⟨h1,h2⟩|⟨h1,h2⟩
 ·exact .of_left (intBits_le_64 h1 h2)
 ·exact .of_right (intBits_le_64 h1 h2)
theorem Gm:bD X (binaryOp .Add) (pV fun i j=>.int (i+j)):=Gn fun _ _ _ _ _ _ _ q=>add_int q
theorem Ge:bD X (binaryOp .Sub) (pV fun i j=>.int (i-j)):=Gn fun _ _ _ _ _ _ _ q=>sub_int q
theorem Gh:bD X (binaryOp .Mult) (rI Be fun i j=>.int (i*j)):=BK fun _ _ _ _ _ _ _ hc q=>mul_int q hc.ok
theorem DZ:bD X (binaryOp .FloorDiv) (rI H9 fun i j=>.int (i / j)):=BK fun i j _ _ _ _ _ hc q=>by
 have h1:(0:Int)<j:=hc.1
 have h2:j<1073741824:=hc.2
 exact floordiv_int (by omega) (by rw [Int.fdiv_eq_ediv_of_nonneg i (by omega)];exact q) (.inl (PyProof.noPylong_small (by omega)))
theorem Gi:bD X (binaryOp .Mod) (rI (fun _ j=>0<j) fun i j=>.int (i % j)):=BK fun i j _ _ _ _ _ hc q=>by
 have h1:(0:Int)<j:=hc
 exact mod_int' (by omega) (by rw [Int.fmod_eq_emod_of_nonneg i (by omega)];exact q)
theorem Gg:bD X (binaryOp .Pow) (rI H8 fun i j=>.int (i^j.toNat)):=BK fun _ _ _ _ _ _ _ hc q=>pow_int_small hc.1 hc.2.1 hc.2.2 q
theorem unI {f:LY->Sem LY}{g:Int->Int}
 (rule:∀(i:Int) (t:Tok) (s:L4) (Q:LY->L4->Prop) (E:LY->L4->Prop),Q (.int (g i) s.toks) {s with toks:=s.toks+1}->wpAny (model X.prog X.w) X.A (f (.int i t)) Q E s) :
 HQ X f (rU fun i=>.int (g i)):=by
 intro pins s σ H x v Q I rx h
 obtain ⟨i,rfl,q⟩:=h
 obtain ⟨t,rfl⟩:=rx
 exact rule i t s _ _ ⟨.int (g i),H,I.tok _,⟨_,rfl⟩,q⟩
theorem wu:HQ X (unaryOp .USub) (rU fun i=>.int (-i)):=unI fun _ _ _ _ _ q=>neg_int q
end
noncomputable def Fo:V->V->Bool
 |.non,.non=>true|.non,.int _=>true|.int _,.non=>true|.non,.bl _=>true|.bl _,.non=>true|.non,.str _=>true|.str _,.non=>true
 |.int _,.int _=>true|.bl _,.bl _=>true|.str _,.str _=>true|.byt _,.byt _=>true
 |.int _,.str _=>true|.str _,.int _=>true|.bl _,.str _=>true|.str _,.bl _=>true
 |_,_=>false
noncomputable def rEq:R2:=fun x y H Q=>Fo x y=true/\Q (.bl (decide (x=y))) H
noncomputable def rNe:R2:=fun x y H Q=>Fo x y=true/\Q (.bl (!decide (x=y))) H
theorem uI {i j:Int}:decide (V.int i=V.int j)=(i==j):=by
 rw [NS]
 simp
theorem yB {i j:Bool}:decide (V.bl i=V.bl j)=(i==j):=by
 rw [NS]
 simp
theorem mf {i j:Str}:decide (V.str i=V.str j)=(i==j):=by
 rw [NS]
 simp
theorem uJ {i j:Array UInt8}:decide (V.byt i=V.byt j)=(i.toList==j.toList):=by
 rw [NS]
 cases i
 cases j
 simp
section
variable {X:Cx}{a b c:Expr}{ta tb tc:TE}{pos:Pos}
theorem ba {pins:List (Addr×Obj)}{σ:St}{H:Hp}{s:L4}{Q:VK}{k k':Bool}(I:Inv X pins σ H s)(q:Q (.bl k) H)(e:k=k'):EP X pins σ Q (.bool k') s:=by
 subst e
 exact ⟨.bl k,H,I,rfl,q⟩
theorem IS:bD X (compareOp .Eq) rEq:=by
 intro pins s σ H x y v u Q I rx ry h
 obtain ⟨hs,q⟩:=h
 cases x with
 | non =>
   cases rx
   cases y with
   |non=>cases ry;exact PySem.EqNone.eq_none_none (ba I q (by simp))
   |bl j=>cases ry;exact PySem.EqNone.eq_none_bool (ba I q (by simp))
   |int j=>obtain ⟨t',rfl⟩:=ry;exact PySem.EqNone.eq_none_int (ba I q (by simp))
   |str j=>obtain ⟨t',rfl⟩:=ry;exact PySem.EqNone.eq_none_str (ba I q (by simp))
   |_=>exact absurd (show false=true from hs) Mx
 | bl i =>
   cases rx
   cases y with
   |non=>cases ry;exact PySem.EqNone.eq_bool_none (ba I q (by simp))
   |bl j=>cases ry;exact eq_bool (ba I q yB)
   |str j=>obtain ⟨t',rfl⟩:=ry;exact PySem.EqMixed.eq_bool_str (ba I q (by simp))
   |_=>exact absurd (show false=true from hs) Mx
 | int i =>
   obtain ⟨t,rfl⟩:=rx
   cases y with
   |non=>cases ry;exact PySem.EqNone.eq_int_none (ba I q (by simp))
   |int j=>obtain ⟨t',rfl⟩:=ry;exact eq_int (ba I q uI)
   |str j=>obtain ⟨t',rfl⟩:=ry;exact PySem.EqMixed.eq_int_str (ba I q (by simp))
   |_=>exact absurd (show false=true from hs) Mx
 | str i =>
   obtain ⟨t,rfl⟩:=rx
   cases y with
   |non=>cases ry;exact PySem.EqNone.eq_str_none (ba I q (by simp))
   |bl j=>cases ry;exact PySem.EqMixed.eq_str_bool (ba I q (by simp))
   |int j=>obtain ⟨t',rfl⟩:=ry;exact PySem.EqMixed.eq_str_int (ba I q (by simp))
   |str j=>obtain ⟨t',rfl⟩:=ry;exact eq_str (ba I q mf)
   |_=>exact absurd (show false=true from hs) Mx
 | byt i =>
   obtain ⟨t,rfl⟩:=rx
   cases y with
   |byt j=>obtain ⟨t',rfl⟩:=ry;exact PySem.W.eq_bytes (ba I q uJ)
   |_=>exact absurd (show false=true from hs) Mx
 |_=>cases y<;>exact absurd (show false=true from hs) Mx
theorem IK:bD X (compareOp .NotEq) rNe:=by
 intro pins s σ H x y v u Q I rx ry h
 obtain ⟨hs,q⟩:=h
 cases x with
 | non =>
   cases rx
   cases y with
   |non=>cases ry;exact PySem.EqNone.ne_none_none (ba I q (by simp))
   |bl j=>cases ry;exact PySem.EqNone.ne_none_bool (ba I q (by simp))
   |int j=>obtain ⟨t',rfl⟩:=ry;exact PySem.EqNone.ne_none_int (ba I q (by simp))
   |str j=>obtain ⟨t',rfl⟩:=ry;exact PySem.EqNone.ne_none_str (ba I q (by simp))
   |_=>exact absurd (show false=true from hs) Mx
 | bl i =>
   cases rx
   cases y with
   |non=>cases ry;exact PySem.EqNone.ne_bool_none (ba I q (by simp))
   |bl j=>cases ry;exact ne_bool (ba I q (congrArg not yB))
   |str j=>obtain ⟨t',rfl⟩:=ry;exact PySem.EqMixed.ne_bool_str (ba I q (by simp))
   |_=>exact absurd (show false=true from hs) Mx
 | int i =>
   obtain ⟨t,rfl⟩:=rx
   cases y with
   |non=>cases ry;exact PySem.EqNone.ne_int_none (ba I q (by simp))
   |int j=>obtain ⟨t',rfl⟩:=ry;exact ne_int (ba I q (congrArg not uI))
   |str j=>obtain ⟨t',rfl⟩:=ry;exact PySem.EqMixed.ne_int_str (ba I q (by simp))
   |_=>exact absurd (show false=true from hs) Mx
 | str i =>
   obtain ⟨t,rfl⟩:=rx
   cases y with
   |non=>cases ry;exact PySem.EqNone.ne_str_none (ba I q (by simp))
   |bl j=>cases ry;exact PySem.EqMixed.ne_str_bool (ba I q (by simp))
   |int j=>obtain ⟨t',rfl⟩:=ry;exact PySem.EqMixed.ne_str_int (ba I q (by simp))
   |str j=>obtain ⟨t',rfl⟩:=ry;exact ne_str (ba I q (congrArg not mf))
   |_=>exact absurd (show false=true from hs) Mx
 | byt i =>
   obtain ⟨t,rfl⟩:=rx
   cases y with
   |byt j=>obtain ⟨t',rfl⟩:=ry;exact PySem.W.ne_bytes (ba I q (congrArg not uJ))
   |_=>exact absurd (show false=true from hs) Mx
 |_=>cases y<;>exact absurd (show false=true from hs) Mx
theorem IL:bD X (compareOp .Lt) (pV fun i j=>.bl (decide (i<j))):=vi fun _ _ _ _ _ _ _ q=>lt_int q
theorem IM:bD X (compareOp .LtE) (pV fun i j=>.bl (decide (i<=j))):=vi fun _ _ _ _ _ _ _ q=>le_int q
theorem IP:bD X (compareOp .Gt) (pV fun i j=>.bl (decide (j<i))):=vi fun _ _ _ _ _ _ _ q=>gt_int q
theorem IQ:bD X (compareOp .GtE) (pV fun i j=>.bl (decide (j<=i))):=vi fun _ _ _ _ _ _ _ q=>ge_int q
theorem xN:bD X (compareOp .In) (fun x y H Q=>∃i j,x=.str i/\y=.str j/\Q (.bl (!(Builtin.Str.occurrences j i 0 j.length 1).isEmpty)) H):=by
 intro pins s σ H x y v u Q I rx ry h
 obtain ⟨i,j,rfl,rfl,q⟩:=h
 obtain ⟨t,rfl⟩:=rx
 obtain ⟨t',rfl⟩:=ry
 exact in_str (ba I q rfl)
theorem Gj:bD X (compareOp .Is) (fun x y H Q=>y=.non/\Q (.bl (decide (x=.non))) H):=by
 intro pins s σ H x y v u Q I rx ry h
 obtain ⟨rfl,q⟩:=h
 cases ry
 refine is_none_gen (ba I q ?_)
 cases x<;>first
  |(cases rx;rfl)
  |(obtain ⟨t,rfl⟩:=rx;rfl)
theorem DY:bD X (compareOp .IsNot) (fun x y H Q=>y=.non/\Q (.bl (!decide (x=.non))) H):=by
 intro pins s σ H x y v u Q I rx ry h
 obtain ⟨rfl,q⟩:=h
 cases ry
 refine isnot_none_gen (ba I q ?_)
 cases x<;>first
  |(cases rx;rfl)
  |(obtain ⟨t,rfl⟩:=rx;rfl)
theorem rS:bD X (compareOp .NotIn) (fun x y H Q=>∃i j,x=.str i/\y=.str j/\Q (.bl (!(!(Builtin.Str.occurrences j i 0 j.length 1).isEmpty))) H):=by
 intro pins s σ H x y v u Q I rx ry h
 obtain ⟨i,j,rfl,rfl,q⟩:=h
 obtain ⟨t,rfl⟩:=rx
 obtain ⟨t',rfl⟩:=ry
 exact notIn_str (ba I q rfl)
theorem uj {op:CmpOp}{r:R2}(ho:bD X (compareOp op) r)(ha:PE X a ta)(hb:PE X b tb)(hm:behindInMarks op b=false):PE X (.Compare a [op] [b] pos) (wO r ta tb):=by
 intro pins s σ H Q I h
 exact wpAny_Compare1 (A8 ha hb I h fun v u s2 x y H2 I2 rx ry q=>ho pins s2 σ H2 x y v u Q I2 rx ry q) hm
noncomputable def By (t:TE):TT:=fun σ H Q=>t σ H fun x H'=>∃k,x=.bl k/\Q k H'
theorem oP {op:CmpOp}{r:R2}(ho:bD X (compareOp op) r)(ha:PE X a ta)(hb:PE X b tb)(hm:behindInMarks op b=false):PT X (.Compare a [op] [b] pos) (By (wO r ta tb)):=by
 intro pins s σ H Q I h
 refine wpAny_isTrue_Compare1 (aP (ha pins s σ H _ I h) fun v s1 ⟨x,H1,I1,r1,q1⟩=>aP (hb pins s1 σ H1 _ I1 q1) fun u s2 ⟨y,H2,I2,r2,q2⟩=>
  aP (ho pins s2 σ H2 x y v u _ I2 r1 r2 q2) fun c s3 ⟨z,H3,I3,r3,k,e,q3⟩=>?_) hm
 subst e
 cases r3
 exact tqp ⟨H3,I3,q3⟩
noncomputable def rf (r r':R2)(ta tb tc:TE):TE:=fun σ H Q=>ta σ H fun x H1=>tb σ H1 fun y H2=>r x y H2 fun z H3=>∃k,z=.bl k/\
 (if k=true then tc σ H3 fun w' H4=>r' y w' H4 Q else Q (.bl false) H3)
theorem Af {op op':CmpOp}{r r':R2}(ho:bD X (compareOp op) r)(ho':bD X (compareOp op') r')(ha:PE X a ta)(hb:PE X b tb)(hc:PE X c tc)
 (hm:lastMarks [op,op'] [b,c]=false:=by with_unfolding_all rfl):PE X (.Compare a [op,op'] [b,c] pos) (rf r r' ta tb tc):=by
 intro pins s σ H Q I h
 refine Compare_chain (aP (ha pins s σ H _ I h) fun v s1 ⟨x,H1,I1,r1,q1⟩=>chain_link (aP (hb pins s1 σ H1 _ I1 q1) fun u s2 ⟨y,H2,I2,r2,q2⟩=>
  aP (ho pins s2 σ H2 x y v u _ I2 r1 r2 q2) fun d s3 ⟨z,H3,I3,r3,k,e,q3⟩=>?_)) hm
 subst e
 cases r3
 refine tqp ?_
 cases k with
 |false=>exact ite_ff ⟨.bl false,H3,I3,rfl,q3⟩
 |true=>exact ite_tt (chain_last (aP (hc pins s3 σ H3 _ I3 q3) fun w' s4 ⟨z',H4,I4,r4,q4⟩=>ho' pins s4 σ H4 y z' u w' Q I4 r2 r4 q4))
theorem Ab {op op':CmpOp}{r r':R2}(ho:bD X (compareOp op) r)(ho':bD X (compareOp op') r')(ha:PE X a ta)(hb:PE X b tb)(hc:PE X c tc)
 (hm:lastMarks [op,op'] [b,c]=false:=by with_unfolding_all rfl):PT X (.Compare a [op,op'] [b,c] pos) (By (rf r r' ta tb tc)):=by
 intro pins s σ H Q I h
 refine isTrue_chain (aP (ha pins s σ H _ I h) fun v s1 ⟨x,H1,I1,r1,q1⟩=>test_link (aP (hb pins s1 σ H1 _ I1 q1) fun u s2 ⟨y,H2,I2,r2,q2⟩=>
  aP (ho pins s2 σ H2 x y v u _ I2 r1 r2 q2) fun d s3 ⟨z,H3,I3,r3,k,e,q3⟩=>?_)) hm
 subst e
 cases r3
 refine tqp ?_
 cases k with
 | false =>
   obtain ⟨k',e',q'⟩:=q3
   cases e'
   exact ite_ff ⟨H3,I3,q'⟩
 | true =>
   refine ite_tt (test_last (aP (hc pins s3 σ H3 _ I3 q3) fun w' s4 ⟨z',H4,I4,r4,q4⟩=>aP (ho' pins s4 σ H4 y z' u w' _ I4 r2 r4 q4) fun d' s5 ⟨z2,H5,I5,r5,k2,e2,q5⟩=>?_))
   subst e2
   cases r5
   exact tqp ⟨H5,I5,q5⟩
noncomputable def Ba (K:LX)(x:V)(H:Hp)(k:Bool):Prop:=
 match x with
 |.non=>k=false
 |.bl b=>k=b
 |.int i=>k=(i != 0)
 |.str y=>y.length<=sizeLine/\k=((y.length:Int) != 0)
 |.byt y=>y.size<=sizeLine/\k=((y.size:Int) != 0)
 |.ref p=>(∃xs,bV K H p xs/\k=!xs.isEmpty)\/(∃xs,cZ K H p xs/\k=!xs.isEmpty)\/∃kvs,H p=some (.dK kvs)/\k=!kvs.isEmpty
 |_=>False
theorem vI {κ:Type}{kvs:List (κ×V)}{vs:List (κ×LY)}(r:KV kvs vs):(!vs.isEmpty)=!kvs.isEmpty:=by
 cases r<;>rfl
theorem og {xs:List V}{its:List LY}(r:Vals xs its):(!its.toArray.isEmpty)=!xs.isEmpty:=by
 cases r<;>simp
theorem jb:(sizeLine:Nat)<2^63:=by rw [sizeLine_eq];decide
theorem Fe:Ly X (fun x H Q=>∃k,Ba X.K x H k/\Q k H):=by
 intro pins s σ H x v Q I rx h
 obtain ⟨k,e,q⟩:=h
 have hl:=jb
 have hs:sizeLine=16777216:=sizeLine_eq
 cases x with
 | non =>
   cases rx
   have e':k=false:=e
   subst e'
   exact truthy_none ⟨H,I,q⟩
 | bl b =>
   cases rx
   have e':k=b:=e
   subst e'
   exact tqp ⟨H,I,q⟩
 | int i =>
   obtain ⟨t,rfl⟩:=rx
   have e':k=(i != 0):=e
   subst e'
   exact PySem.P.truthy_int ⟨H,I,q⟩
 | str y =>
   obtain ⟨t,rfl⟩:=rx
   obtain ⟨hy,e'⟩:y.length<=sizeLine/\k=((y.length:Int) != 0):=e
   subst e'
   exact PySem.P.truthy_str (by omega) ⟨H,I.tok _,q⟩
 | byt y =>
   obtain ⟨t,rfl⟩:=rx
   obtain ⟨hy,e'⟩:y.size<=sizeLine/\k=((y.size:Int) != 0):=e
   subst e'
   exact PySem.W.truthy_bytes (by omega) ⟨H,I.tok _,q⟩
 | ref p =>
   cases rx
   have e':(∃xs,bV X.K H p xs/\k=!xs.isEmpty)\/(∃xs,cZ X.K H p xs/\k=!xs.isEmpty)\/∃kvs,H p=some (.dK kvs)/\k=!kvs.isEmpty:=e
   rcases e' with ⟨xs,hx,e'⟩|⟨xs,hx,e'⟩|⟨kvs,hx,e'⟩
   ·subst e'
    obtain ⟨its,r,pl,hz⟩:=I.list hx
    have hlen:=r.length
    exact wpAny_truthy_list pl.isList (by simp only [L8];omega) ⟨H,I.tok _,by rw [og r];exact q⟩
   ·subst e'
    obtain ⟨its,r,pl,hz⟩:=I.tuple hx
    have hlen:=r.length
    exact truthy_tuple pl (by simp only [L8];omega) ⟨H,I.tok _,by rw [og r];exact q⟩
   ·subst e'
    obtain ⟨hz,hS,vs,r,m⟩:kvs.length<=sizeLine/\(p==sysModules)=false/\∃vs,KV kvs vs/\s.heap.DictOf (jQ X.prog X.w) p vs:=I.hok p _ hx
    have hlen:kvs.length=vs.length:=Paired.length r
    exact wpAny_truthy_dict hS m (by omega) ⟨H,I.tok _,by rw [vI r];exact q⟩
 |_=>exact (show False from e).elim
theorem Aa (ha:PE X a ta)(he:∀whole,isTrue a X.env whole=(do let v <- whole;standAt a.pos;holding [v] (truthy v))) :
 PT X a (fun σ H Q=>ta σ H fun x H'=>∃k,Ba X.K x H' k/\Q k H'):=by
 intro pins s σ H Q I h
 exact isTrue_plain (aP (ha pins s σ H _ I h) fun v s1 ⟨x,H1,I1,r1,q1⟩=>Fe pins s1 σ H1 x v Q I1 r1 q1) (he _)
theorem vh:bD X (binaryOp .Add) (fun x y H Q=>∃i j,x=.str i/\y=.str j/\i.length+j.length<=sizeLine/\Q (.str (i++j)) H):=by
 intro pins s σ H x y v u Q I rx ry h
 obtain ⟨i,j,rfl,rfl,hz,q⟩:=h
 obtain ⟨t,rfl⟩:=rx
 obtain ⟨t',rfl⟩:=ry
 exact add_str (fun t' tk=>⟨.str (i++j),H,I.tok _,⟨_,rfl⟩,q⟩) hz
theorem vals1 {x:V}{us:List LY}(r:Vals [x] us):∃u,us=[u]/\RelV x u:=by
 cases r with
 |cons r1 r2=>cases r2;exact ⟨_,rfl,r1⟩
theorem vals2 {x y:V}{us:List LY}(r:Vals [x,y] us):∃u w',us=[u,w']/\RelV x u/\RelV y w':=by
 cases r with
 | cons r1 r2 =>
   cases r2 with
   |cons r3 r4=>cases r4;exact ⟨_,_,rfl,r1,r3⟩
end
end L2
namespace L2
open PySem PySem.Spec PyProof.Rows
structure ni (h:Heap) (x dx C:Addr) (mA:Str->Option LY):Prop where
 obj:h.get? x=some (PySem.W.instObj C dx)
 ns:h.Ns1 dx mA
 ne:dx≠x
theorem yb {h:Heap}{dx:Addr}{mA:Str->Option LY}(n:h.Ns1 dx mA):∃od,h.get? dx=some od/\∀name,PySem.W.lookIn name od=some (mA name):=by
 obtain ⟨o,es,ep,ho,hd,hk,_,hm⟩:=n
 refine ⟨o,ho,fun name=>?_⟩
 have e:=hm name
 unfold nsFind findBy at e
 rw [<- Array.find?_toList] at e
 unfold PySem.W.lookIn
 rw [hd]
 dsimp only
 split
 ·rename_i y q
  rw [q] at e
  exact congrArg some e
 ·rename_i q
  rw [q] at e
  have a:es.toList.any (·.refKey)=false:=by
   rw [List.any_eq_false]
   intro y hy
   obtain ⟨z,t,hkey⟩:=hk y (Array.mem_toList_iff.mp hy)
   simp [DictEntry.refKey,hkey]
  have a':¬ es.toList.any (·.refKey)=true:=by rw [a];exact Mx
  rw [if_neg a']
  exact congrArg some e
theorem ni.look {h:Heap}{x dx C:Addr}{mA:Str->Option LY}(I:ni h x dx C mA):∃od,PySem.W.InstAt h x (PySem.W.instObj C dx) C (some od)/\∀name,PySem.W.lookIn name od=some (mA name):=
 let ⟨od,ho,hl⟩:=yb I.ns
 ⟨od,⟨I.obj,rfl,rfl,ho⟩,hl⟩
section
variable {prog:Ms}{w:Mv}{A:MZ}{E:LY->L4->Prop}{s:L4}{K:LX}{x dx C f:Addr}{mA:Str->Option LY}{name:Str}{v:LY}
theorem get_map {expr:Bool}{Q:LY->L4->Prop}(X:K.In s.heap)(I:ni s.heap x dx C mA)(hg:PySem.W.plainGet K C name=true)(hh:PySem.W.hasDictIn K C=true)
 (ha:PySem.W.findIn K (.ref C) name=some none) (hv:mA name=some v) (hv':PySem.W.handedIn v=true) (h:Q v {s with toks:=s.toks+1}) :
 wpAny (model prog w) A (getAttr (.ref x) name expr) Q E s:=by
 obtain ⟨od,J,hl⟩:=I.look
 exact PySem.W.get_value X J (PySem.W.plainGet_of hg).1 (PySem.W.findObj_own hh ha rfl (by rw [hl,hv])) hv' h
theorem AL {pl:Sem Bool}{Q:LY×List LY->L4->Prop}(X:K.In s.heap)(I:ni s.heap x dx C mA)(hg:PySem.W.plainGet K C name=true)
 (hf:PySem.W.findIn K (.ref C) name=some (some (.ref f))) (ht:PySem.W.isFn K (.ref f)=true) (hv:mA name=none) (h:Q (.ref f,[.ref x]) s) :
 wpAny (model prog w) A (getMethod (.ref x) name pl) Q E s:=by
 obtain ⟨od,J,hl⟩:=I.look
 exact PySem.W.method_fn X J (PySem.W.plainGet_of hg).1 (PySem.W.plainGet_of hg).2 hf (beq_iff_eq.mp ht) (by show (PySem.W.lookIn name od).map (·.isSome)=some false;rw [hl,hv];rfl) h
theorem Dp {ns:List Str}{Q:Unit->L4->Prop}(X:K.In s.heap)(I:ni s.heap x dx C mA)
 (hs:PySem.W.findIn K (.ref C) "__setattr__"=some (some (.builtin "object.__setattr__"))) (hp:PySem.W.plainOver K C=true) (ht:PySem.W.takerIn K C name=some none) (hh:PySem.W.hasDictIn K C=true)
 (hw:PySem.Within mA ns) (hsz:ns.length<=sizeLine)
 (h:∀h',ni h' x dx C (fun y=>if y=name then some v else mA y)->Heap.SameBut dx s.heap h'->Q () {s with heap:=h',toks:=s.toks+2}) :
 wpAny (model prog w) A (setAttr (.ref x) name v) Q E s:=by
 obtain ⟨od,J,hl⟩:=I.look
 refine PySem.W.set_plain X J hs (PySem.W.osa_open (s:={s with toks:=s.toks+1}) (r:=none) X J hp ht fun b=>?_)
 obtain ⟨cd,hc,hd'⟩:=PySem.W.any_some hh
 have hx:s.heap.get? x=some ⟨.ref C,some dx,.plain,#[]⟩:=I.obj
 refine tqa (tqb (tqa (tqa (wpAny_loadPart hx (tqa (PySem.W.Looks.here (s:={s with toks:=s.toks+1}) (PySem.W.looks_clsIn X hc) ?_))))))
 rw [hd']
 refine tqb (a:=some dx) (tqa (tqb (tqa ?_)))
 refine wpAny_nsSet1 (s:={s with toks:=s.toks+1}) I.ns fun h' hn2 hs2=>?_
 obtain ⟨oD,esD,epD,hoD,hdD,hcD⟩:=hn2.count (PySem.Within.cons name v hw)
 refine tqa (wpAny_lookBehind hoD (by rw [hdD];exact pastItsLine_dict (Mb hcD (by rw [MT];omega))) ?_)
 exact tqb (h _ ⟨(hs2.2 _ (Ng I.ne)).trans I.obj,hn2,I.ne⟩ hs2)
theorem Aq {R:Result->L4->Prop}{vs:List LY}{kw:List (Str×LY)}(X:K.In s.heap)(hm:PySem.W.makesIn K C=true)
 (hi:PySem.W.findIn K (.ref C) "__init__"=some (some (.ref f))) (hf:PySem.W.typeIn K (.ref f)=some (.type "function"))
 (h:codeAny (model prog w) (A.under (.builtin "type.__call__" ⟨.ref C::vs,kw⟩)) (.call (.ref f) ⟨.ref (s.heap.objs.size+1)::vs,kw⟩) (PySem.W.InitBack (s.heap.objs.size+1) R)
  {s with heap:=(s.heap.push PySem.W.emptyDict).push (PySem.W.instObj C s.heap.objs.size)}) :
 codeAny (model prog w) A (.call (.ref C) ⟨vs,kw⟩) R s:=by
 obtain ⟨hh,g,d,t,os⟩:=s
 exact PySem.W.make_core (PySem.W.makes_of X hm) (PySem.W.looks_findIn X hi) (fun self=>PySem.W.bind_fn X self hf) (.inl rfl) h
end
noncomputable def cF (f:Str)(v:V):List (Str×V)->List (Str×V)
 |[]=>[(f,v)]
 |(g,x)::r=>if g=f then (g,v)::r else (g,x)::cF f v r
theorem my (f g:Str)(v:V):∀fs:List (Str×V),(cF f v fs).lookup g=if g=f then some v else fs.lookup g
 | [] => by
   show List.lookup g [(f,v)]=_
   by_cases h:g=f
   ·have hb:(g==f)=true:=beq_iff_eq.mpr h
    simp only [List.lookup,hb,if_pos h]
   ·have hb:(g==f)=false:=MP.mpr h
    simp only [List.lookup,hb,if_neg h]
 | (k, x) :: r => by
   have ih:=my f g v r
   rw [show cF f v ((k,x)::r)=(if k=f then (k,v)::r else (k,x)::cF f v r) from rfl]
   by_cases hk:k=f
   ·rw [if_pos hk]
    by_cases h:g=k
    ·have hb:(g==k)=true:=beq_iff_eq.mpr h
     simp only [List.lookup,hb,if_pos (h.trans hk)]
    ·have hb:(g==k)=false:=MP.mpr h
     simp only [List.lookup,hb,if_neg (fun e:g=f=>h (e.trans hk.symm))]
   ·rw [if_neg hk]
    by_cases h:g=k
    ·have hb:(g==k)=true:=beq_iff_eq.mpr h
     simp only [List.lookup,hb,if_neg (fun e:g=f=>hk (h.symm.trans e))]
    ·have hb:(g==k)=false:=MP.mpr h
     simp only [List.lookup,hb]
     exact ih
theorem kW (f:Str)(v:V):∀fs:List (Str×V),f∈(cF f v fs).map (·.1)/\∀g,g∈fs.map (·.1)->g∈(cF f v fs).map (·.1)
 |[]=>⟨by simp [cF],fun g h=>by simp at h⟩
 | (k, x) :: r => by
   obtain ⟨i1,i2⟩:=kW f v r
   rw [show cF f v ((k,x)::r)=(if k=f then (k,v)::r else (k,x)::cF f v r) from rfl]
   by_cases hk:k=f
   ·rw [if_pos hk]
    subst hk
    exact ⟨by simp,fun g h=>by simpa using h⟩
   ·rw [if_neg hk]
    refine ⟨?_,fun g h=>?_⟩
    ·rw [Nd]
     exact Mh _ i1
    ·rw [Nd] at h ⊢
     rcases MJ.mp h with e|e
     ·exact List.mem_cons.mpr (.inl e)
     ·exact Mh _ (i2 g e)
theorem mz (f:Str)(v:V):∀fs:List (Str×V),(cF f v fs).length<=fs.length+1
 |[]=>by simp [cF]
 | (k, x) :: r => by
   have ih:=mz f v r
   rw [show cF f v ((k,x)::r)=(if k=f then (k,v)::r else (k,x)::cF f v r) from rfl]
   by_cases hk:k=f
   ·rw [if_pos hk,MT,MT];omega
   ·rw [if_neg hk,MT,MT];omega
theorem jG.some_of {v:V}{o:Option LY}(r:jG (some v) o):∃u,o=some u/\RelV v u:=by
 cases o with
 |none=>exact (show False from r).elim
 |some u=>exact ⟨u,rfl,r⟩
theorem jG.none_of {o:Option LY}(r:jG none o):o=none:=by
 cases o with
 |none=>rfl
 |some u=>exact (show False from r).elim
theorem yu {v:V}{u:LY}(r:RelV v u):PySem.W.handedIn u=true:=by
 cases v with
 |non=>cases (show u=Value.none from r);rfl
 |bl b=>cases (show u=Value.bool b from r);rfl
 |int i=>obtain ⟨t,e⟩:=(show ∃t,u=Value.int i t from r);cases e;rfl
 |str x=>obtain ⟨t,e⟩:=(show ∃t,u=Value.str x t from r);cases e;rfl
 |byt b=>obtain ⟨t,e⟩:=(show ∃t,u=Value.bytes b t from r);cases e;rfl
 |flt b=>obtain ⟨t,e⟩:=(show ∃t,u=Value.float b t from r);cases e;rfl
 |ref a=>cases (show u=Value.ref a from r);rfl
 |ty n=>cases (show u=Value.type n from r);rfl
section
variable {P:Ms}{w:Mv}{H H':Hp}{h h':Heap}{a C dx:Addr}{fs fs':List (Str×V)}
theorem lW (hok:dP P w H h)(e:H a=some (.ins C dx fs)):∃mA,ni h a dx C mA/\(∀f,jG (fs.lookup f) (mA f))/\PySem.Within mA (fs.map (·.1))/\fs.length<=1000/\H dx=some (.own a):=by
 obtain ⟨d,z,ne,ob,mA,n,r,q⟩:=(show b8 P w H h a (.ins C dx fs) from hok a _ e)
 exact ⟨mA,⟨ob,n,ne⟩,r,q,z,d⟩
end
structure iz (K:LX) (C:Addr):Prop where
 pg:PySem.W.plainGet K C Str.empty=true
 hd:PySem.W.hasDictIn K C=true
 po:PySem.W.plainOver K C=true
 sa:PySem.W.findIn K (.ref C) "__setattr__"=some (some (.builtin "object.__setattr__"))
theorem iz.get {K:LX}{C:Addr}(c:iz K C)(f:Str):PySem.W.plainGet K C f=true:=c.pg
noncomputable def ji (K:LX)(C:Addr)(f:Str):Prop:=PySem.W.findIn K (.ref C) f=some none
theorem ji.taker {K:LX}{C:Addr}{f:Str}(n:ji K C f):PySem.W.takerIn K C f=some none:=by
 unfold PySem.W.takerIn
 rw [show PySem.W.findIn K (.ref C) f=some none from n]
 rfl
structure Meth (K:LX) (C:Addr) (m:Str) (f:Addr):Prop where
 at_:PySem.W.findIn K (.ref C) m=some (some (.ref f))
 fn:PySem.W.isFn K (.ref f)=true
 kp:PySem.W.keepIn K (.ref f)=true
section
variable {X:Cx}{pins:List (Addr×Obj)}{σ:St}{H:Hp}{s:L4}{a C dx:Addr}{fs:List (Str×V)}{f:Str}{v:V}{A:MZ}{E:LY->L4->Prop}
theorem vJ {b:Bool}{Q:LY->L4->Prop}(I:Inv X pins σ H s)(e:H a=some (.ins C dx fs))(c:iz X.K C)(n:ji X.K C f)(l:fs.lookup f=some v)
 (h:∀u s',Inv X pins σ H s'->RelV v u->Q u s'):wpAny (model X.prog X.w) A (getAttr (.ref a) f b) Q E s:=by
 obtain ⟨mA,O,r,_,_,_⟩:=lW I.hok e
 obtain ⟨u,hu,ru⟩:=jG.some_of (v:=v) (o:=mA f) (by rw [<- l];exact r f)
 exact get_map I.kIn O (c.get f) c.hd n hu (yu ru) (h u _ (I.tok _) ru)
theorem kj {m:Str}{g:Addr}{pl:Sem Bool}{Q:LY×List LY->L4->Prop}(I:Inv X pins σ H s)(e:H a=some (.ins C dx fs))(c:iz X.K C)(k:Meth X.K C m g)(l:fs.lookup m=none)
 (h:Q (.ref g,[.ref a]) s):wpAny (model X.prog X.w) A (getMethod (.ref a) m pl) Q E s:=by
 obtain ⟨mA,O,r,_,_,_⟩:=lW I.hok e
 have hn:mA m=none:=jG.none_of (by rw [<- l];exact r m)
 exact AL I.kIn O (c.get m) k.at_ k.fn hn h
theorem vb {y:V}{u:LY}{Q:Unit->L4->Prop}(I:Inv X pins σ H s)(e:H a=some (.ins C dx fs))(c:iz X.K C)(n:ji X.K C f)(hl:fs.length<1000)(ry:RelV y u)
 (h:∀s',Inv X pins σ (upd H a (.ins C dx (cF f y fs))) s'->Q () s'):wpAny (model X.prog X.w) A (setAttr (.ref a) f u) Q E s:=by
 obtain ⟨mA,O,r,wi,_,ho⟩:=lW I.hok e
 have hz:(fs.map (·.1)).length<=sizeLine:=by rw [Md,sizeLine_eq];omega
 refine Dp I.kIn O c.sa c.po n.taker c.hd wi hz fun h' O' sb=>h _ ?_
 have hd:∃o,h'.get? dx=some o:=let ⟨o,_,_,e',_⟩:=O'.ns;⟨o,e'⟩
 refine I.write (x:=a) (e:=dx) (by rw [e];exact True.intro) (.inr ho) (fun b q hb z=>(sb.2 b hb).trans z) hd ?_
 refine ⟨by rw [ax O.ne];exact ho,?_,O.ne,O'.obj,_,O'.ns,fun g=>?_,fun g hg=>?_⟩
 ·have:=mz f y fs;omega
 ·show jG ((cF f y fs).lookup g) (if g=f then some u else mA g)
  rw [my]
  by_cases q:g=f
  ·rw [if_pos q,if_pos q];exact ry
  ·rw [if_neg q,if_neg q];exact r g
 ·by_cases q:g=f
  ·rw [q];exact (kW f y fs).1
  ·refine (kW f y fs).2 g (wi g fun z=>hg ?_)
   show (if g=f then some u else mA g)=none
   rw [if_neg q];exact z
theorem Inv.made (I:Inv X pins σ H s):Inv X pins σ (upd (upd H s.heap.objs.size (.own (s.heap.objs.size+1))) (s.heap.objs.size+1) (.ins C s.heap.objs.size []))
 {s with heap:=(s.heap.push PySem.W.emptyDict).push (PySem.W.instObj C s.heap.objs.size)}:=by
 have e1:(s.heap.push PySem.W.emptyDict).get? s.heap.objs.size=some PySem.W.emptyDict:=Mo s.heap rfl
 have e2:((s.heap.push PySem.W.emptyDict).push (PySem.W.instObj C s.heap.objs.size)).get? (s.heap.objs.size+1)=some (PySem.W.instObj C s.heap.objs.size):=by
  have:=Mo (s.heap.push PySem.W.emptyDict) (o:=PySem.W.instObj C s.heap.objs.size) rfl
  rwa [N7] at this
 have e3:(s.heap.push PySem.W.emptyDict).Ns s.heap.objs.size (fun _=>none):=⟨PySem.W.emptyDict,#[],_,e1,rfl,(fun e he=>absurd he (by simp)),fun _=>rfl⟩
 have I1:=I.laid (a:=s.heap.objs.size) (o:=.own (s.heap.objs.size+1)) (h':=s.heap.push PySem.W.emptyDict) (t':=s.toks) (fun b u q=>L3 _ q) (L7 _) ⟨_,e1⟩
 refine I1.laid (a:=s.heap.objs.size+1) (o:=.ins C s.heap.objs.size []) (t':=s.toks) (fun b u q=>L3 _ q) (Nat.le_of_eq (N7 _ _)) ?_
 have ne:s.heap.objs.size≠s.heap.objs.size+1:=MO (Nat.lt_succ_self _)
 refine ⟨by rw [ax ne,bw],NJ _,ne,e2,fun _=>none,(Heap.Ns1.of_empty e3).at fun o q=>L3 _ q,fun _=>True.intro,fun y hy=>absurd rfl hy⟩
theorem EI {prog:Ms}{w:Mv}{env:Env}{e:Expr}{f:Str}{pos:Pos}{s:L4}{Q:LY->L4->Prop}(hb:attributeBase e f env (eval e env)=eval e env)
 (h:wpAny (model prog w) A (eval e env) (fun o s₁=>wpAny (model prog w) A (getAttr o f true) Q E s₁) E s):wpAny (model prog w) A (eval (.Attribute e f pos) env) Q E s:=
 Attribute_any_ h (by rw [arm_eval_Attribute,hb])
end
noncomputable def Kr (K:LX)(ta:TE)(f:Str):TE:=fun σ H Q=>ta σ H fun x H1=>∃a C dx fs v,x=.ref a/\H1 a=some (.ins C dx fs)/\iz K C/\ji K C f/\fs.lookup f=some v/\Q v H1
noncomputable def Kv (K:LX)(ta tv:TE)(f:Str):TS:=fun D σ H=>tv σ H fun y H1=>ta σ H1 fun x H2=>∃a C dx fs,x=.ref a/\H2 a=some (.ins C dx fs)/\iz K C/\ji K C f/\fs.length<1000/\
 D.nx σ (upd H2 a (.ins C dx (cF f y fs)))
section
variable {X:Cx}{o e value:Expr}{f:Str}{pos pos' tpos:Pos}{ta tv:TE}
theorem F9 (he:PE X e ta)(hb:attributeBase e f X.env (eval e X.env)=eval e X.env):PE X (.Attribute e f pos) (Kr X.K ta f):=by
 intro pins s σ H Q I h
 refine EI hb (aP (he pins s σ H _ I h) fun u s1 ⟨x,H1,I1,rx,a,C,dx,fs,v,ex,ea,c,n,l,q⟩=>?_)
 subst ex
 obtain rfl:u=Value.ref a:=rx
 exact vJ I1 ea c n l fun u' s2 I2 ru=>⟨v,H1,I2,ru,q⟩
theorem FY (ha:PE X o ta)(hv:PE X value tv)(hs:swapsWith value (some (.Attribute o f pos')) pos.line X.env=pure false):PS X (.Assign [.Attribute o f pos'] value pos) (Kv X.K ta tv f):=by
 intro pins s σ H D I h
 refine plainObj_wpAny_Assign_Attribute (aP (hv pins s σ H _ I h) fun u s1 ⟨y,H1,I1,ry,q⟩=>aP (ha pins s1 σ H1 _ I1 q) fun ov s2 ⟨x,H2,I2,rx,a,C,dx,fs,ex,ea,c,n,l,q2⟩=>?_) hs
 subst ex
 obtain rfl:ov=Value.ref a:=rx
 exact vb I2 ea c n l ry fun s3 I3=>⟨σ,_,I3,q2⟩
theorem Ib {pl:Sem Bool}{m:Str}{apos:Pos}{args:List Expr}{pins:List (Addr×Obj)}{s:L4}{σ:St}{H:Hp}{Q:LY->L4->Prop}{te:TE}(he:PE X e te)(I:Inv X pins σ H s)
 (h:te σ H fun x H1=>∃a C dx fs g,x=.ref a/\H1 a=some (.ins C dx fs)/\iz X.K C/\Meth X.K C m g/\fs.lookup m=none/\
  ∀s1,Inv X pins σ H1 s1->wpAny (model X.prog X.w) X.A (callWith pos (.ref g) [.ref a] (backTo pos (starEach args X.env)) (backToKw pos (keywordEach [] X.env))) Q X.xe s1)
 (ht:eval (.Call (.Attribute e m apos) args [] pos) X.env=(do
  let ov <- eval e X.env
  standAt apos.atName
  let (f,first) <- holding [ov] (getMethod ov m pl)
  callWith pos f first (backTo pos (starEach args X.env)) (backToKw pos (keywordEach [] X.env)))) :
 wpAny (model X.prog X.w) X.A (eval (.Call (.Attribute e m apos) args [] pos) X.env) Q X.xe s:=by
 refine PySem.W.methodCall_KW (pl:=pl) (aP (he pins s σ H _ I h) fun u s1 ⟨x,H1,I1,rx,a,C,dx,fs,g,ex,ea,c,k,l,q⟩=>?_) ht
 subst ex
 obtain rfl:u=Value.ref a:=rx
 exact kj I1 ea c k l (q s1 I1)
end
section
variable {X:Cx}{pins:List (Addr×Obj)}{σ:St}{H:Hp}{s:L4}{A:MZ}{E:LY->L4->Prop}{Q:LY->L4->Prop}{c:LY}{b:Bool}
inductive ir (K:LX) (H:Hp):V->LY->Prop where
 |non:ir K H .non (.type "NoneType")
 |bl (x:Bool):ir K H (.bl x) (.type "bool")
 |int (i:Int):ir K H (.int i) (.type "int")
 |str (x:Str):ir K H (.str x) (.type "str")
 |flt (x:UInt64):ir K H (.flt x) (.type "float")
 |lst {a:Addr}{xs:List V} (e:H a=some (.lst xs)):ir K H (.ref a) (.type "list")
 |frz {a:Addr}{o:Obj}{xs:List V} (e:H a=some (.frz o (.lst xs))):ir K H (.ref a) (.type "list")
 |tup {a:Addr}{xs:List V} (e:H a=some (.tup xs)):ir K H (.ref a) (.type "tuple")
 |dK {a:Addr}{kvs:List (Key×V)} (e:H a=some (.dK kvs)):ir K H (.ref a) (.type "dict")
 |dT {a:Addr}{kvs:List (List Key×V)} (e:H a=some (.dT kvs)):ir K H (.ref a) (.type "dict")
 |ins {a C dx:Addr}{fs:List (Str×V)} (e:H a=some (.ins C dx fs)) (cl:iz K C) (ha:PySem.W.findIn K (.ref C) "__class__"=some (some (.builtin "object.__class__")))
  (hn:PySem.W.specialIn K (.builtin "object.__class__") "__get__"=some (some (.builtin "getset_descriptor.__get__"))) (htk:PySem.W.takesIn K (.builtin "object.__class__")=some true)
  (hm:PySem.W.mroIn K C (.type "object")=some true):ir K H (.ref a) (.ref C)
theorem jr {x:V}{u t:LY}(I:Inv X pins σ H s)(rx:RelV x u)(ty:ir X.K H x t)(e:PySem.W.kitOne X.K t c=some b)(h:∀tk,Q (.bool b) {s with toks:=tk}) :
 wpAny (model X.prog X.w) A (call (.builtin "isinstance") [u,c]) Q E s:=by
 cases ty with
 |non=>cases (show u=Value.none from rx);exact MX PySem.W.kitx_none I.kIn True.intro e (fun z=>nomatch z) h
 |bl y=>cases (show u=Value.bool y from rx);exact MX PySem.W.kitx_bool I.kIn True.intro e (fun z=>nomatch z) h
 |int i=>obtain ⟨t,q⟩:=(show ∃t,u=Value.int i t from rx);cases q;exact MX PySem.W.kitx_int I.kIn True.intro e (fun z=>nomatch z) h
 |str y=>obtain ⟨t,q⟩:=(show ∃t,u=Value.str y t from rx);cases q;exact MX PySem.W.kitx_str I.kIn True.intro e (fun z=>nomatch z) h
 |flt y=>obtain ⟨t,q⟩:=(show ∃t,u=Value.float y t from rx);cases q;exact MX PySem.W.kitx_float I.kIn True.intro e (fun z=>nomatch z) h
 | @lst a xs ea =>
   cases (show u=Value.ref a from rx)
   obtain ⟨_,_,n,_,h1⟩:=(show b8 X.prog X.w H s.heap a (.lst xs) from I.hok a _ ea)
   exact MX PySem.W.kitx_list I.kIn ⟨_,h1,rfl⟩ e (fun z=>nomatch z) h
 | @frz a ob xs ea =>
   cases (show u=Value.ref a from rx)
   obtain ⟨_,_,_,n,_,h1⟩:=(show b8 X.prog X.w H s.heap a (.frz ob (.lst xs)) from I.hok a _ ea)
   exact MX PySem.W.kitx_list I.kIn ⟨_,h1,rfl⟩ e (fun z=>nomatch z) h
 | @tup a xs ea =>
   cases (show u=Value.ref a from rx)
   obtain ⟨_,_,_,p⟩:=(show b8 X.prog X.w H s.heap a (.tup xs) from I.hok a _ ea)
   obtain ⟨o,h1,h2,_⟩:=p
   exact MX PySem.W.kitx_tuple I.kIn ⟨o,h1,h2⟩ e (fun z=>nomatch z) h
 | @dK a kvs ea =>
   cases (show u=Value.ref a from rx)
   obtain ⟨_,_,vs,_,p⟩:=(show b8 X.prog X.w H s.heap a (.dK kvs) from I.hok a _ ea)
   obtain ⟨o,es,ep,h1,h2,_⟩:=p
   exact MX PySem.W.kitx_dict I.kIn ⟨o,h1,h2.1⟩ e (fun z=>nomatch z) h
 | @dT a kvs ea =>
   cases (show u=Value.ref a from rx)
   obtain ⟨_,_,xs,_,o,es,ep,h1,h2,_⟩:=(show b8 X.prog X.w H s.heap a (.dT kvs) from I.hok a _ ea)
   exact MX PySem.W.kitx_dict I.kIn ⟨o,h1,h2.1⟩ e (fun z=>nomatch z) h
 | @ins a C dx fs ea cl ha hn htk hm =>
   cases (show u=Value.ref a from rx)
   obtain ⟨mA,O,_⟩:=lW I.hok ea
   obtain ⟨od,J,_⟩:=O.look
   exact MX (PySem.W.kitx_own (cl.get _) cl.hd ha hn htk hm) I.kIn J e (fun z=>nomatch z) h
end
end L2
namespace L2
open PySem PySem.Spec PyProof.Rows
structure bC (k:Nat) (A:MZ):Prop where
 hd:A.handled=none
 dp:A.depth+3*k+5<recursionLimit
 un:A.units+16*k+200<cLine
 gd:A.guards=some []
theorem bC.mono {j k:Nat}{A:MZ}(r:bC k A)(h:j<=k):bC j A:=⟨r.hd,by have:=r.dp;omega,by have:=r.un;omega,r.gd⟩
theorem bC.deeper {k:Nat}{A:MZ}(r:bC (k+1) A)(env:Env):bC k (A.deeper env):=
 ⟨r.hd,by have:=r.dp;show A.depth+1+3*k+5<_;omega,by have:=r.un;show A.units+3+16*k+200<_;omega,r.gd⟩
theorem vA {A:MZ}{C:Addr}{us:List LY}{kw:List (Str×LY)}:(A.under (.builtin "type.__call__" ⟨.ref C::us,kw⟩)).depth=A.depth+1:=by
 first|rfl|simp [Around.under,Code.weight,Code.isCreation,Code.isGuard,Code.isCaller,Code.frames,Code.isFrame,guardIds]
theorem vw {A:MZ}{C:Addr}{us:List LY}{kw:List (Str×LY)}:(A.under (.builtin "type.__call__" ⟨.ref C::us,kw⟩)).units=A.units+1:=by
 first|rfl|simp [Around.under,Code.cUnits,Code.frames,Code.isFrame]
theorem bC.make {k:Nat}{A:MZ}(r:bC (k+1) A)(C:Addr)(us:List LY)(kw:List (Str×LY)):bC k (A.under (.builtin "type.__call__" ⟨.ref C::us,kw⟩)):=
 ⟨r.hd,by have:=r.dp;rw [vA];omega,by have:=r.un;rw [vw];omega,r.gd⟩
theorem bC.depth {k:Nat}{A:MZ}(r:bC k A):A.depth<recursionLimit:=by have:=r.dp;omega
theorem bC.units {k:Nat}{A:MZ}(r:bC k A):A.units+64<cLine:=by have:=r.un;omega
noncomputable def zy:TA:=fun _ H Q=>Q [] H
noncomputable def Io (ta:TE)(tr:TA):TA:=fun σ H Q=>ta σ H fun x H1=>tr σ H1 fun xs H2=>Q (x::xs) H2
section
variable {X:Cx}{e:Expr}{es:List Expr}{te:TE}{t:TA}{pos:Pos}
theorem fi:PA X [] zy:=fun _ _ _ _ H Q I h=>Calls.spliced_nil ⟨[],H,I,.nil,h⟩
theorem cH (ha:PE X e te)(hr:PA X es t)(hs:starEach (e::es) X.env=(false,eval e X.env)::starEach es X.env:=by rfl):PA X (e::es) (Io te t):=by
 intro pos pins s σ H Q I h
 rw [hs]
 show wpAny _ _ (spliced ((false,eval e X.env)::backTo pos (starEach es X.env))) _ _ s
 refine Calls.spliced_cons (aP (ha pins s σ H _ I h) fun u s1 ⟨x,H1,I1,r1,q1⟩=>?_)
 exact aP (hr pos pins s1 σ H1 _ I1 q1) fun us s2 ⟨xs,H2,I2,r2,q2⟩=>⟨x::xs,H2,I2,.cons r1 r2,q2⟩
noncomputable def Kj (t:TA):TE:=fun σ H Q=>t σ H fun xs H1=>xs.length<=sizeLine/\∀p,H1 p=none->Q (.ref p) (upd H1 p (.tup xs))
noncomputable def Kn (t:TA):TE:=fun σ H Q=>t σ H fun xs H1=>xs.length<=sizeLine/\∀p,H1 p=none->Q (.ref p) (upd H1 p (.lst xs))
theorem F1 {x1}(h:PA X es t):PE X (.Tuple es x1 pos) (Kj t):=by
 intro pins s σ H Q I hq
 refine wpAny_Tuple_spliced (aP (h pos pins s σ H _ I hq) fun us s1 ⟨xs,H1,I1,r,z,q⟩=>⟨by rw [<- r.length];exact z,?_⟩)
 have hf:H1 s1.heap.objs.size=none:=I1.hok.fresh (L7 _)
 refine ⟨.ref s1.heap.objs.size,upd H1 s1.heap.objs.size (.tup xs),I1.laid (t':=s1.toks) (fun b u e=>L3 _ e) (L7 _) ?_,rfl,q _ hf⟩
 exact ⟨z,us,r,⟨_,Mo _ rfl,rfl,_,rfl⟩⟩
theorem F7 (h:PA X es t):PE X (.List es pos) (Kn t):=by
 intro pins s σ H Q I hq
 refine wpAny_List_spliced (aP (h pos pins s σ H _ I hq) fun us s1 ⟨xs,H1,I1,r,z,q⟩=>⟨by rw [<- r.length];exact z,?_⟩)
 have hf:H1 s1.heap.objs.size=none:=I1.hok.fresh (L7 _)
 refine ⟨.ref s1.heap.objs.size,upd H1 s1.heap.objs.size (.lst xs),I1.laid (t':=s1.toks) (fun b u e=>L3 _ e) (L7 _) ?_,rfl,q _ hf⟩
 exact ⟨z,us,0,r,Mo _ rfl⟩
end
abbrev Sp:=List V->Hp->VK->XK->Prop
abbrev mH:=List Env->Hp->L4->XK->LY->L4->Prop
structure nr (P:Ms) (w:Mv) (K:LX) (mg:Str->Option LY) (base:Heap) (A:MZ) (outer:List Env) (s:L4) (H:Hp):Prop where
 frames:A.frames=some outer
 mod:Mod K mg base
 bs:∀b o,base.get? b=some o->s.heap.get? b=some o/\H b=none
 bsz:base.objs.size<=s.heap.objs.size
 funs:s.heap.FunFrames base outer
 frf:∀b∈fk outer,H b=none
 hok:dP P w H s.heap
 bare:AllBare s.gens
noncomputable def CE (outer:List Env)(P:Ms)(w:Mv)(H:Hp)(s:L4)(Q:VK)(u:LY)(s':L4):Prop:=
 ∃v H',s'.os=s.os/\AllBare s'.gens/\Un (fk outer) [] H H' s.heap s'.heap/\dP P w H' s'.heap/\RelV v u/\Q v H'
noncomputable def CR (CX:mH)(outer:List Env)(P:Ms)(w:Mv)(H:Hp)(s:L4)(Q:VK)(E:XK)(r:Result)(s':L4):Prop:=
 match r with
 |.ok (.ret u)=>CE outer P w H s Q u s'
 |.ok _=>False
 |.error e=>CX outer H s E e s'
structure fG (P:Ms) (w:Mv) (K:LX) (mg:Str->Option LY) (base:Heap) (CX:mH) (k:Nat) (f:Addr) (fd:N8) (ps:List Str) (sp:Sp):Prop where
 len:∀vs H Q E,sp vs H Q E->vs.length=ps.length
 run:∀(A:MZ) (outer:List Env) (s:L4) (H:Hp) (args:Args) (us:List LY) (vs:List V) (Q:VK) (E:XK),bC k A->nr P w K mg base A outer s H->BindsTo s fd args (ps.zip us)->Vals vs us->sp vs H Q E->
  codeAny (model P w) A (.call (.ref f) args) (CR CX outer P w H s Q E) s
theorem nr.make {P:Ms}{w:Mv}{K:LX}{mg:Str->Option LY}{base:Heap}{A:MZ}{outer:List Env}{s:L4}{H:Hp}(e:nr P w K mg base A outer s H)(C:Addr)(us:List LY)(kw:List (Str×LY)) :
 nr P w K mg base (A.under (.builtin "type.__call__" ⟨.ref C::us,kw⟩)) outer s H:=⟨by first|exact e.frames|(simpa [Around.under,Code.envs,Code.isFrame,pushEnvs] using e.frames),e.mod,e.bs,e.bsz,e.funs,e.frf,e.hok,e.bare⟩
section
variable {X:Cx}{pins:List (Addr×Obj)}{σ:St}{H:Hp}{s s':L4}
theorem Inv.env0 (I:Inv X pins σ H s):nr X.prog X.w X.K X.mg X.base X.A X.stack s H:=
 ⟨I.ok.frames,I.ok.mod,I.bs,Mb I.ok.bsz I.sz,I.stack,I.stkFree,I.hok,I.bare⟩
theorem Inv.after {Q:VK}{u:LY}(I:Inv X pins σ H s)(h:CE X.stack X.prog X.w H s Q u s'):EP X pins σ Q u s':=by
 obtain ⟨v,H',os,bare,un,hok,r,q⟩:=h
 obtain ⟨hh,g,d,t,os'⟩:=s'
 obtain rfl:os'=s.os:=os
 exact ⟨v,H',I.call (h':=hh) (g':=g) (d':=d) (t':=t) (ch:=[]) un hok bare (fun b z=>absurd z (by simp)),r,q⟩
end
noncomputable def uX (sp:Sp)(dvs:List V)(E:XK)(t:TA):TE:=fun σ H Q=>t σ H fun vs H1=>sp (vs++dvs) H1 Q E
noncomputable def uW (C:Addr)(m:Str)(sp:Sp)(dvs:List V)(E:XK)(ta:TE)(t:TA):TE:=fun σ H Q=>ta σ H fun x H1=>∃a dx fs,x=.ref a/\H1 a=some (.ins C dx fs)/\fs.lookup m=none/\
 t σ H1 fun vs H2=>sp (x::(vs++dvs)) H2 Q E
noncomputable def Il (C:Addr)(sp:Sp)(dvs:List V)(E:XK)(t:TA):TE:=fun σ H Q=>t σ H fun vs H1=>∀x dx,H1 x=none->H1 dx=none->dx≠x->
 sp (.ref x::(vs++dvs)) (upd (upd H1 dx (.own x)) x (.ins C dx [])) (fun v H2=>v=.non/\Q (.ref x) H2) E
noncomputable def Binds (K:LX)(fd:N8)(ps:List Str)(ds:List LY):Prop:=
 ∀(s:L4) (us:List LY),K.In s.heap->(us++ds).length=ps.length->BindsTo s fd ⟨us,[]⟩ (ps.zip (us++ds))
theorem Binds.all {K:LX}{fd:N8}{ps:List Str}(h:∀us:List LY,us.length=ps.length->bindArgs fd ⟨us,[]⟩=pure (ps.zip us)):Binds K fd ps []:=fun s us _ hl=>by
 rw [Ob] at hl ⊢
 exact .of_eq (h us hl)
noncomputable def Passes (CX:mH)(X:Cx)(E:XK):Prop:=∀(pins:List (Addr×Obj)) (σ:St) (H:Hp) (s:L4) (e:LY) (s':L4),Inv X pins σ H s->CX X.stack H s E e s'->X.xe e s'
section
variable {X:Cx}{CX:mH}{k:Nat}{f C:Addr}{fd:N8}{ps:List Str}{sp:Sp}{dvs:List V}{ds:List LY}{E:XK}{x m:Str}{p pos apos:Pos}{e o:Expr}{es:List Expr}{ta:TE}{t:TA}
theorem kK {pins:List (Addr×Obj)}{σ:St}{H:Hp}{s:L4}{Q:VK}{us:List LY}{vs:List V}(F:fG X.prog X.w X.K X.mg X.base CX k f fd ps sp)(hr:bC k X.A)(hb:Binds X.K fd ps ds)(hd:Vals dvs ds)(hx:Passes CX X E)
 (I:Inv X pins σ H s) (r:Vals vs us) (h:sp (vs++dvs) H Q E):wpAny (model X.prog X.w) X.A (call (.ref f) us) (EP X pins σ Q) X.xe s:=by
 have r2:Vals (vs++dvs) (us++ds):=r.append hd
 have hl:(us++ds).length=ps.length:=by rw [<- r2.length];exact F.len _ _ _ _ h
 refine wpAny_call (codeAny_mono (F.run X.A X.stack s H ⟨us,[]⟩ (us++ds) (vs++dvs) Q E hr I.env0 (hb s us I.kIn hl) r2 h) fun r s' hq=>?_)
 cases r with
 |error e=>exact hx pins σ H s e s' I hq
 | ok fl =>
   cases fl with
   |ret u=>exact I.after hq
   |next=>exact False.elim hq
   |brk=>exact False.elim hq
   |cont=>exact False.elim hq
theorem DQ (F:fG X.prog X.w X.K X.mg X.base CX k f fd ps sp)(hr:bC k X.A)(hg:Gl X x)(hm:X.mg x=some (.ref f))(hk:PySem.W.keepIn X.K (.ref f)=true)(hb:Binds X.K fd ps ds)(hd:Vals dvs ds)(hx:Passes CX X E)
 (ha:PA X (e::es) t) (hdb:(x==("__debug__":Str))=false:=by decide) (he:starEach (e::es) X.env=(false,eval e X.env)::starEach es X.env:=by rfl) (hpl:(backTo pos (starEach es X.env)).any (·.1)=false:=by rfl) :
 PE X (.Call (.Name x p) (e::es) [] pos) (uX sp dvs E t):=by
 intro pins s σ H Q I h
 refine wpAny_Call_Name_kw (fK I hg hm ?_ hdb)
 refine NR (h₀:=X.base) I.ok.mod.kin hk (aP (ha pos pins s σ H _ I h) fun us s1 ⟨vs,H1,I1,r,q⟩=>⟨I1.kIn,?_⟩) he hpl
 exact kK F hr hb hd hx I1 r q
theorem Ag (F:fG X.prog X.w X.K X.mg X.base CX k f fd ps sp)(hr:bC k X.A)(hg:Gl X x)(hm:X.mg x=some (.ref f))(hk:PySem.W.keepIn X.K (.ref f)=true)(hb:Binds X.K fd ps ds)(hd:Vals dvs ds)(hx:Passes CX X E)
 (hdb:(x==("__debug__":Str))=false:=by decide):PE X (.Call (.Name x p) [] [] pos) (uX sp dvs E zy):=by
 intro pins s σ H Q I h
 refine wpAny_Call_Name_kw (fK I hg hm ?_ hdb)
 exact PySem.W.callWith_K0 I.kIn hk (kK (us:=[]) F hr hb hd hx I .nil h)
theorem DN {pl:Sem Bool}(he:PE X o ta)(c:iz X.K C)(hm:Meth X.K C m f)(F:fG X.prog X.w X.K X.mg X.base CX k f fd ps sp)(hr:bC k X.A)(hb:Binds X.K fd ps ds)(hd:Vals dvs ds)(hx:Passes CX X E)(ha:PA X (e::es) t)
 (hst:starEach (e::es) X.env=(false,eval e X.env)::starEach es X.env:=by rfl) (hpl:(backTo pos (starEach es X.env)).any (·.1)=false:=by rfl)
 (ht:eval (.Call (.Attribute o m apos) (e::es) [] pos) X.env=(do
  let ov <- eval o X.env
  standAt apos.atName
  let (f,first) <- holding [ov] (getMethod ov m pl)
  callWith pos f first (backTo pos (starEach (e::es) X.env)) (backToKw pos (keywordEach [] X.env))):=by rfl) :
 PE X (.Call (.Attribute o m apos) (e::es) [] pos) (uW C m sp dvs E ta t):=by
 intro pins s σ H Q I h
 refine PySem.W.methodCall_KW (pl:=pl) (aP (he pins s σ H _ I h) fun u s1 ⟨x,H1,I1,rx,a,dx,fs,ex,ea,l,q⟩=>?_) ht
 subst ex
 obtain rfl:u=Value.ref a:=rx
 refine kj I1 ea c hm l ?_
 refine NR (first:=[.ref a]) (h₀:=X.base) I.ok.mod.kin hm.kp (aP (ha pos pins s1 σ H1 _ I1 q) fun us s2 ⟨vs,H2,I2,r,q2⟩=>⟨I2.kIn,?_⟩) hst hpl
 exact kK (us:=.ref a::us) (vs:=.ref a::vs) F hr hb hd hx I2 (.cons rfl r) q2
theorem Ae {pl:Sem Bool}(he:PE X o ta)(c:iz X.K C)(hm:Meth X.K C m f)(F:fG X.prog X.w X.K X.mg X.base CX k f fd ps sp)(hr:bC k X.A)(hb:Binds X.K fd ps ds)(hd:Vals dvs ds)(hx:Passes CX X E)
 (ht:eval (.Call (.Attribute o m apos) [] [] pos) X.env=(do
  let ov <- eval o X.env
  standAt apos.atName
  let (f,first) <- holding [ov] (getMethod ov m pl)
  callWith pos f first (backTo pos (starEach [] X.env)) (backToKw pos (keywordEach [] X.env))):=by rfl) :
 PE X (.Call (.Attribute o m apos) [] [] pos) (uW C m sp dvs E ta zy):=by
 intro pins s σ H Q I h
 refine PySem.W.methodCall_KW (pl:=pl) (aP (he pins s σ H _ I h) fun u s1 ⟨x,H1,I1,rx,a,dx,fs,ex,ea,l,q⟩=>?_) ht
 subst ex
 obtain rfl:u=Value.ref a:=rx
 refine kj I1 ea c hm l ?_
 exact PySem.W.callWith_K0 (first:=[.ref a]) I1.kIn hm.kp (kK (us:=[.ref a]) (vs:=[.ref a]) F hr hb hd hx I1 (.cons rfl .nil) q)
structure Mk (K:LX) (C f:Addr):Prop where
 makes:PySem.W.makesIn K C=true
 init:PySem.W.findIn K (.ref C) "__init__"=some (some (.ref f))
 fn:PySem.W.isFn K (.ref f)=true
 kp:PySem.W.keepIn K (.ref C)=true
theorem zS {pins:List (Addr×Obj)}{σ:St}{H:Hp}{s:L4}{Q:VK}{us:List LY}{vs:List V}(M:Mk X.K C f)(F:fG X.prog X.w X.K X.mg X.base CX k f fd ps sp)(hr:bC (k+1) X.A)(hb:Binds X.K fd ps ds)(hd:Vals dvs ds)
 (hx:Passes CX X E) (I:Inv X pins σ H s) (r:Vals vs us)
 (h:∀x dx,H x=none->H dx=none->dx≠x->sp (.ref x::(vs++dvs)) (upd (upd H dx (.own x)) x (.ins C dx [])) (fun v H2=>v=.non/\Q (.ref x) H2) E) :
 wpAny (model X.prog X.w) X.A (call (.ref C) us) (EP X pins σ Q) X.xe s:=by
 have hq:=h (s.heap.objs.size+1) s.heap.objs.size (I.hok.fresh (NQ _)) (I.hok.fresh (L7 _)) (MO (Nat.lt_succ_self _))
 have I2:=Inv.made (C:=C) I
 have r2:Vals (V.ref (s.heap.objs.size+1)::(vs++dvs)) (Value.ref (s.heap.objs.size+1)::(us++ds)):=.cons rfl (r.append hd)
 have hl:(Value.ref (s.heap.objs.size+1)::us++ds).length=ps.length:=by
  have e:=r2.length
  rw [F.len _ _ _ _ hq] at e
  exact e.symm
 refine wpAny_call (Aq (f:=f) I.kIn M.makes M.init (beq_iff_eq.mp M.fn) (codeAny_mono (F.run _ X.stack _ _ ⟨Value.ref (s.heap.objs.size+1)::us,[]⟩ (Value.ref (s.heap.objs.size+1)::(us++ds)) _ _ E (hr.make C us [])
  (I2.env0.make C us []) (hb _ (Value.ref (s.heap.objs.size+1)::us) I2.kIn hl) r2 hq) fun r s' hq'=>?_))
 cases r with
 |error e=>exact hx pins σ _ _ e s' I2 hq'
 | ok fl =>
   cases fl with
   | ret u =>
     obtain ⟨v,H',I3,rv,ev,q3⟩:=I2.after hq'
     subst ev
     exact ⟨rv,⟨V.ref (s.heap.objs.size+1),H',I3,rfl,q3⟩⟩
   |next=>exact False.elim hq'
   |brk=>exact False.elim hq'
   |cont=>exact False.elim hq'
theorem DP (M:Mk X.K C f)(F:fG X.prog X.w X.K X.mg X.base CX k f fd ps sp)(hr:bC (k+1) X.A)(hg:Gl X x)(hm:X.mg x=some (.ref C))(hb:Binds X.K fd ps ds)(hd:Vals dvs ds)(hx:Passes CX X E)
 (ha:PA X (e::es) t) (hdb:(x==("__debug__":Str))=false:=by decide) (he:starEach (e::es) X.env=(false,eval e X.env)::starEach es X.env:=by rfl) (hpl:(backTo pos (starEach es X.env)).any (·.1)=false:=by rfl) :
 PE X (.Call (.Name x p) (e::es) [] pos) (Il C sp dvs E t):=by
 intro pins s σ H Q I h
 refine wpAny_Call_Name_kw (fK I hg hm ?_ hdb)
 refine NR (h₀:=X.base) I.ok.mod.kin M.kp (aP (ha pos pins s σ H _ I h) fun us s1 ⟨vs,H1,I1,r,q⟩=>⟨I1.kIn,?_⟩) he hpl
 exact zS M F hr hb hd hx I1 r q
end
structure fU (N P:List Str) (sc:Scope):Prop where
 kind:sc.kind=.function
 co:sc.isCoroutine=false
 gen:sc.isGenerator=false
 nd:N.Nodup
 pre:N.take P.length=P
 par:∀x∈P,sc.names.lookup x=some .local\/sc.names.lookup x=some .cell
 nofree:∀y∈sc.names,y.2≠.free
theorem qi {kindOf:Str->Option NameKind}{x:Str}:∀{binds:List (Str×LY)}{m:Str->Option LY},(∀v,(x,v)∉binds)->bindL kindOf binds m x=m x
 |[],_,_=>rfl
 | (n, v) :: r, m, h => by
   unfold bindL
   rw [qi fun w hw=>h w (Mh _ hw)]
   split
   ·have:x≠n:=by rintro rfl;exact h v My
    simp [this]
   ·rfl
theorem qk {kindOf:Str->Option NameKind}{x:Str}:∀{binds:List (Str×LY)}{m:Str->Option LY},(∀v,(x,v)∉binds)->bindC kindOf binds m x=m x
 |[],_,_=>rfl
 | (n, v) :: r, m, h => by
   unfold bindC
   rw [qk fun w hw=>h w (Mh _ hw)]
   split
   ·rfl
   ·have:x≠n:=by rintro rfl;exact h v My
    simp [this]
theorem qj {kindOf:Str->Option NameKind}{x:Str}{v:LY}:∀{P:List Str}{vs:List LY}{i:Nat}{m:Str->Option LY},P.Nodup->P[i]?=some x->vs[i]?=some v->kindOf x=some .local->
 bindL kindOf (P.zip vs) m x=some v
 |[],_,_,_,_,h,_,_=>by simp at h
 |_::_,[],_,_,_,_,h,_=>by simp at h
 | p :: P, w :: vs, 0, m, nd, h1, h2, hk => by
   simp at h1 h2;subst h1;subst h2
   show bindL kindOf ((p,w)::P.zip vs) m p=_
   unfold bindL
   rw [qi fun v hv=>(List.nodup_cons.mp nd).1 (List.of_mem_zip hv).1,if_pos hk]
   simp
 | p :: P, w :: vs, i + 1, m, nd, h1, h2, hk => by
   show bindL kindOf ((p,w)::P.zip vs) m x=_
   unfold bindL
   exact qj (i:=i) (List.nodup_cons.mp nd).2 (by simpa using h1) (by simpa using h2) hk
theorem qm {kindOf:Str->Option NameKind}{x:Str}{v:LY}:∀{P:List Str}{vs:List LY}{i:Nat}{m:Str->Option LY},P.Nodup->P[i]?=some x->vs[i]?=some v->kindOf x≠some .local->
 bindC kindOf (P.zip vs) m x=some v
 |[],_,_,_,_,h,_,_=>by simp at h
 |_::_,[],_,_,_,_,h,_=>by simp at h
 | p :: P, w :: vs, 0, m, nd, h1, h2, hk => by
   simp at h1 h2;subst h1;subst h2
   show bindC kindOf ((p,w)::P.zip vs) m p=_
   unfold bindC
   rw [qk fun v hv=>(List.nodup_cons.mp nd).1 (List.of_mem_zip hv).1,if_neg hk]
   simp
 | p :: P, w :: vs, i + 1, m, nd, h1, h2, hk => by
   show bindC kindOf ((p,w)::P.zip vs) m x=_
   unfold bindC
   exact qm (i:=i) (List.nodup_cons.mp nd).2 (by simpa using h1) (by simpa using h2) hk
noncomputable def start (N:List Str)(vs:List V):St:=vs.map some++List.replicate (N.length-vs.length) none
noncomputable def dY (CX:mH)(P:Ms)(w:Mv)(K:LX)(mg:Str->Option LY)(base:Heap)(N:List Str)(qual:Str)(scope:Scope)(f:Addr)(cd:LY)(A:MZ)(outer:List Env)(s:L4)(H:Hp)(E:XK):Cx where
 prog:=P
 w:=w
 K:=K
 mg:=mg
 base:=base
 A:=A.deeper (envOfC qual scope s.heap.objs.size f cd)
 N:=N
 s₀:=s
 H₀:=H
 env:=envOfC qual scope s.heap.objs.size f cd
 outer:=outer
 stack:=envOfC qual scope s.heap.objs.size f cd::outer
 ex:=[]
 calm:=true
 fn:=fun _=>true
 pn:=[]
 xe:=fun e s'=>wpAny (model P w) (A.deeper (envOfC qual scope s.heap.objs.size f cd)) (leaving (envOfC qual scope s.heap.objs.size f cd) e) (fun _ s''=>CX outer H s E e s'') (fun e' s''=>CX outer H s E e' s'') s'
theorem sO {sc:Scope}{n:Nat}{x:Str}(h:sc.names.lookup x=some .cell):∃c,(cellsFrom n sc.names []).lookup x=some c:=by
 have q:=PySem.W.cellsFrom_some sc.names n [] (.inl h)
 exact Option.isSome_iff_exists.mp q
theorem yo {CX:mH}{P:Ms}{w:Mv}{K:LX}{mg:Str->Option LY}{base:Heap}{N ps:List Str}{qual:Str}{scope:Scope}{f:Addr}{cd:LY}{A:MZ}{outer:List Env}{s s1:L4}{H:Hp}{E:XK}{us:List LY}{vs:List V}
 (S:fU N ps scope) (hd:A.handled=none) (e0:nr P w K mg base A outer s H) (hl:vs.length=ps.length) (r:Vals vs us)
 (x:InCallC s s.heap.objs.size (bindL (envOfC qual scope s.heap.objs.size f cd).kindOf (ps.zip us) fun _=>none) (cellsFrom (s.heap.objs.size+1) scope.names []) (bindC (envOfC qual scope s.heap.objs.size f cd).kindOf (ps.zip us) fun _=>none) s1) :
 Inv (dY CX P w K mg base N qual scope f cd A outer s H E) [] (start N vs) H s1:=by
 have hpl:ps.length<=N.length:=by have:=congrArg List.length S.pre;rw [Nz] at this;omega
 obtain ⟨h1,tk,rfl,hk⟩:=x.done
 have noA:∀b:Addr,b∉(dY CX P w K mg base N qual scope f cd A outer s H E).ex:=fun b z=>absurd (show b∈([]:List Addr) from z) (by simp)
 refine ⟨⟨e0.mod,S.kind,rfl,rfl,L7 _,fun y z c h1 h2=>?_,fun y hy=>?_,fun y c _ h=>?_,fun _=>hd,Around.frames_deeper e0.frames,.inr ⟨rfl,rfl⟩,fun b z=>absurd z (noA b),e0.bs,e0.bsz,fun b _ _=>noA b,fun b z=>absurd z (noA b),e0.funs,e0.frf⟩,
  rfl,e0.bare,Un.kept hk,⟨_,x.toInCall.ns,fun i y v h1 h2 h3=>?_⟩,fun y c h=>⟨_,x.cell y c h⟩,e0.hok.fresh (L7 _),fun y c h=>?_,fun p hp=>absurd (show p∈([]:List (Addr×Obj)) from hp) (by simp),e0.hok.kept hk,?_⟩
 ·exact name_of_addr x.apart (N4 h1) (N4 h2)
 ·have hy:scope.names.lookup y=some .cell\/scope.names.lookup y=some .free:=hy
  rcases hy with hy|hy
  ·exact sO hy
  ·exact absurd rfl (S.nofree _ (N4 hy))
 ·exact Nat.le_of_lt (x.above y c (N4 h))
 ·have hi:i<vs.length:=by
   unfold start at h2
   by_cases hi:i<vs.length
   ·exact hi
   ·rw [ME (by simpa using hi)] at h2
    rw [NP] at h2
    split at h2<;>cases h2
  have ha:vs[i]?=some v:=by
   unfold start at h2
   rw [Mw (by simpa using hi),MU] at h2
   cases e:vs[i]? with
   |none=>rw [e] at h2;cases h2
   |some a=>rw [e] at h2;cases h2;rfl
  obtain ⟨u,hu,rv⟩:=r.get ha
  have hp:ps[i]?=some y:=by
   rw [<- S.pre,List.getElem?_take_of_lt (by omega)];exact h1
  have ndP:ps.Nodup:=by rw [<- S.pre];exact S.nd.sublist (List.take_sublist _ _)
  refine ⟨u,rv,?_⟩
  rcases S.par y (Np hp) with k|k
  ·exact .inl ⟨k,qj ndP hp hu k⟩
  ·obtain ⟨c,e⟩:=sO (n:=s.heap.objs.size+1) k
   refine .inr ⟨.inl k,c,e,?_⟩
   have q:=x.cell y c e
   rw [qm ndP hp hu (by show scope.names.lookup y≠_;rw [k];decide)] at q
   exact q
 ·exact e0.hok.fresh (Nat.le_of_lt (x.above y c (N4 h)))
 ·unfold start
  show _=N.length
  rw [Mz,Md,List.length_replicate]
  omega
theorem I9 {CX:mH}{P:Ms}{w:Mv}{K:LX}{mg:Str->Option LY}{base:Heap}{k:Nat}{f:Addr}{name qual:Str}{params:Arguments}{body:List Stmt}{scope:Scope}{dV kV doc pm cdv ct oc:LY}{an od:Option Addr}
 {osl:Array (Option LY)}{N ps:List Str}{sp:Sp} (lk:K.lookup f=some ⟨oc,od,.func (PySem.W.fnOf name qual params body scope dV kV doc pm an cdv ct),osl⟩) (hcd:PySem.W.codeIn K cdv qual=true) (S:fU N ps scope)
 (len:∀vs H Q E,sp vs H Q E->vs.length=ps.length)
 (hbody:∀(A:MZ) (outer:List Env) (s:L4) (H:Hp) (vs:List V) (Q:VK) (E:XK),bC k (A.deeper (envOfC qual scope s.heap.objs.size f cdv))->sp vs H Q E->
  ∃t,lI (dY CX P w K mg base N qual scope f cdv A outer s H E) body t/\t {nx:=fun _ H'=>Q .non H',rt:=Q} (start N vs) H) :
 fG P w K mg base CX (k+1) f (PySem.W.fnOf name qual params body scope dV kV doc pm an cdv ct) ps sp:=by
 refine ⟨len,fun A outer s H args us vs Q E hr e0 hb r hsp=>?_⟩
 have hl:=len _ _ _ _ hsp
 have KX:K.In s.heap:=e0.mod.kin.keeps fun b o e=>(e0.bs b o e).1
 have lim:s.heap.NoLimit:=e0.mod.nolimit.keeps fun b o e=>(e0.bs b o e).1
 have hkind:∀y∈ps.zip us,scope.names.lookup y.1=some .local\/(scope.names.lookup y.1=some .cell/\((cellsFrom (s.heap.objs.size+1) scope.names []).lookup y.1).isSome=true):=fun ⟨n,v⟩ hy=>by
  rcases S.par n (List.of_mem_zip hy).1 with q|q
  ·exact .inl q
  ·exact .inr ⟨q,PySem.W.cellsFrom_some _ _ _ (.inl q)⟩
 refine codeAny_call_function hr.depth (KX _ _ lk) rfl S.co S.gen rfl (PySem.W.codeRec_of KX hcd) (hb _ _ _ _ ?_)
 refine wpAny_newFunctionEnv_cells S.kind hkind fun env he s1 x=>?_
 subst he
 refine ⟨lim.keeps x.toInCall.keep,codeAny_func ?_⟩
 obtain ⟨t,ht,hq⟩:=hbody A outer s H vs Q E (hr.deeper _) hsp
 have I:Inv (dY CX P w K mg base N qual scope f cdv A outer s H E) [] (start N vs) H s1:=yo S hr.hd e0 hl r x
 refine wpAny_mono (ht [] s1 (start N vs) H _ I hq) (fun fl s' hs=>?_) fun e s' hs=>hs
 have fin:∀{σ':St}{H':Hp}{v:V}{u:LY},Inv (dY CX P w K mg base N qual scope f cdv A outer s H E) [] σ' H' s'->RelV v u->Q v H'->CE outer P w H s Q u s':=
  fun {σ' H' v u} J rv q=>⟨v,H',J.os,J.bare,J.base,J.hok,rv,q⟩
 cases fl with
 | ret u =>
   obtain ⟨v,σ',H',J,rv,q⟩:=hs
   exact fin J rv q
 | next =>
   obtain ⟨σ',H',J,q⟩:=hs
   exact fin (v:=V.non) (u:=Value.none) J rfl q
 | brk =>
   obtain ⟨_,_,_,q⟩:=hs
   exact False.elim q
 | cont =>
   obtain ⟨_,_,_,q⟩:=hs
   exact False.elim q
end L2
namespace L2
open PySem PySem.Spec PyProof.Rows
section
variable {X:Cx}{x:Str}{p pos:Pos}{e:Expr}{es:List Expr}{t:TA}{id T:String}{r:List V->Hp->VK->Prop}
noncomputable def JQ (r:List V->Hp->VK->Prop)(t:TA):TE:=fun σ H Q=>t σ H fun vs H1=>r vs H1 Q
theorem rQ (hc:cy X (.builtin id) r)(hg:Gl X x)(hm:X.mg x=none)(hv:bootBuiltins x=some (.builtin id))(ha:PA X (e::es) t)(hn:x≠"__name__":=by decide)(hdb:(x==("__debug__":Str))=false:=by decide)
 (he:starEach (e::es) X.env=(false,eval e X.env)::starEach es X.env:=by rfl) (hpl:(backTo pos (starEach es X.env)).any (·.1)=false:=by rfl):PE X (.Call (.Name x p) (e::es) [] pos) (JQ r t):=by
 intro pins s σ H Q I h
 refine wpAny_Call_Name_kw (gk I hg hm hv ?_ hn hdb)
 exact PyProof.Rows.callWith_builtin1 (aP (ha pos pins s σ H _ I h) fun us s1 ⟨vs,H1,I1,r1,q1⟩=>hc pins s1 σ H1 vs us Q I1 r1 q1) he hpl
theorem xD (hc:cy X (.type T) r)(hg:Gl X x)(hm:X.mg x=none)(hv:bootBuiltins x=some (.type T))(ha:PA X (e::es) t)(hn:x≠"__name__":=by decide)(hdb:(x==("__debug__":Str))=false:=by decide)
 (he:starEach (e::es) X.env=(false,eval e X.env)::starEach es X.env:=by rfl) (hpl:(backTo pos (starEach es X.env)).any (·.1)=false:=by rfl):PE X (.Call (.Name x p) (e::es) [] pos) (JQ r t):=by
 intro pins s σ H Q I h
 refine wpAny_Call_Name_kw (gk I hg hm hv ?_ hn hdb)
 exact Nf (aP (ha pos pins s σ H _ I h) fun us s1 ⟨vs,H1,I1,r1,q1⟩=>hc pins s1 σ H1 vs us Q I1 r1 q1) he hpl
end
end L2
namespace HT
open PySem PyProof.Rows
section
variable {prog:Ms}{w:Mv}{A:MZ}{E:LY->L4->Prop}{s:L4}
theorem EG {t b:Addr}{vs ws:List LY}{Q:LY->L4->Prop}(ht:IsTup s.heap t vs.toArray)(hb:IsTup s.heap b ws.toArray)(hv:vs≠[])
 (h1:ws=[]->Q (.ref t) s) (h2:ws≠[]->Q (.ref s.heap.objs.size) {s with heap:=s.heap.push {cls:=.type "tuple",data:=.seq (vs++ws).toArray}})
 (hsz:vs.length+ws.length<=sizeLine):wpAny (model prog w) A (binaryOp .Add (.ref t) (.ref b)) Q E s:=by
 obtain ⟨⟨cls,dd,data,sl⟩,ho,hc,n,hd⟩:=id ht
 obtain ⟨⟨cls2,dd2,data2,sl2⟩,ho2,hc2,n2,hd2⟩:=id hb
 simp only at hc hd hc2 hd2
 subst hc hd hc2 hd2
 have e:vs.toArray++ws.toArray=(vs++ws).toArray:=by simp
 by_cases hw:ws=[]
 ·exact concat_meets ⟨_,ho,rfl⟩ ⟨_,ho2,rfl⟩ noFill_tuple_add seq_tuple_add PySem.F.slot_tuple_add PySem.F.entry_tuple_add (PySem.F.args_tuple_add_2 _ _)
   (tuple_addW1 t b vs.toArray ws.toArray n n2 dd dd2 sl sl2 (by simpa using hv) (by simp [hw])) ⟨ho,ho2,h1 hw⟩
 ·refine concat_meets ⟨_,ho,rfl⟩ ⟨_,ho2,rfl⟩ noFill_tuple_add seq_tuple_add PySem.F.slot_tuple_add PySem.F.entry_tuple_add (PySem.F.args_tuple_add_2 _ _)
   (tuple_addW2 t b vs.toArray ws.toArray n n2 dd dd2 sl sl2 (by simpa using hv) (by simpa using hw) (by rw [L8,L8];exact hsz)) ⟨ho,ho2,?_⟩
  rw [e]
  exact h2 hw
noncomputable def aI (n d:Nat):Option Int->Nat
 |none=>d
 |some v=>if v<0 then (v+(n:Int)).toNat else min v.toNat n
theorem Fz (n d:Nat)(hd:d<=n)(o:Option Int):aI n d o<=n:=by
 cases o with
 |none=>exact hd
 | some v =>
   show (if v<0 then (v+(n:Int)).toNat else min v.toNat n)<=n
   by_cases hv:v<0
   ·rw [if_pos hv];omega
   ·rw [if_neg hv];exact Nat.min_le_right _ _
theorem uM (v:Int)(n d:Nat):(if v<0 then max (v+(n:Int)) 0 else min v (n:Int))=((aI n d (some v):Nat):Int):=by
 show (if v<0 then max (v+(n:Int)) 0 else min v (n:Int))=(((if v<0 then (v+(n:Int)).toNat else min v.toNat n):Nat):Int)
 by_cases hv:v<0
 ·simp only [if_pos hv];omega
 ·simp only [if_neg hv];omega
theorem v5 (lo hi:Option Int)(n:Nat):Builtin.Slice.sliceAdjust lo hi 1 (n:Int)=(((aI n 0 lo:Nat):Int),((aI n n hi:Nat):Int)):=by
 have h1:¬ ((1:Int)<0):=by omega
 unfold Builtin.Slice.sliceAdjust
 simp only [h1,if_false]
 refine Prod.ext ?_ ?_
 ·cases lo with
  |none=>rfl
  |some v=>exact uM v n 0
 ·cases hi with
  |none=>rfl
  |some v=>exact uM v n n
theorem vf (i j:Nat):Builtin.Slice.slicePlaces (i:Int) (j:Int) 1=j-i:=by
 unfold Builtin.Slice.slicePlaces
 have h1:(1:Int) > 0:=by omega
 simp only [h1,if_true,Int.ediv_one]
 split<;>omega
theorem nJ {v:LY}{o:Option Int}{Q:Option Int->L4->Prop}(p:IsPart v o)(h:Q o s):wpAny (model prog w) A (Builtin.Slice.slicePartIndex v) Q E s:=by
 cases p with
 |none=>exact slicePart_none h
 |int i t=>exact slicePart_int h
theorem iY {sl:Addr}{vl vu:LY}{lo hi:Option Int}{n:Nat}{Q:Int×Int×Nat->L4->Prop}(hs:s.heap.IsSliceOf sl vl vu .none)(pl:IsPart vl lo)(pu:IsPart vu hi)
 (h:Q (((aI n 0 lo:Nat):Int),1,aI n n hi-aI n 0 lo) s):wpAny (model prog w) A (Builtin.Slice.sliceApplied (.ref sl) (pure (n:Int))) Q E s:=by
 obtain ⟨os,hos,hcs,hds⟩:=id hs
 unfold Builtin.Slice.sliceApplied Builtin.Slice.sliceFields
 refine tqa (tqa (tqf hos hds (x:=vl) rfl (tqa (tqf hos hds (x:=vu) rfl (tqa (tqf hos hds (x:=.none) rfl (tqb ?_)))))))
 refine tqa (slicePart_none ?_)
 show wpAny _ _ (if ((1:Int)==0)=true then _ else _) _ _ s
 rw [if_neg (by decide)]
 refine tqa (nJ pl (tqa (nJ pu (tqa (tqb ?_)))))
 show wpAny _ _ (match Builtin.Slice.sliceAdjust lo hi 1 (n:Int) with|(lo,hi)=>pure (lo,(1:Int),Builtin.Slice.slicePlaces lo hi 1)) _ _ s
 rw [v5 lo hi n]
 show wpAny _ _ (pure (((aI n 0 lo:Nat):Int),(1:Int),Builtin.Slice.slicePlaces ((aI n 0 lo:Nat):Int) ((aI n n hi:Nat):Int) 1)) _ _ s
 rw [vf]
 exact tqb h
theorem Ad (xs:Array LY)(i k:Nat):((List.range k).filterMap fun (m:Nat)=>xs[((i:Int)+(m:Int)*1).toNat]?).toArray=((xs.toList.drop i).take k).toArray:=by
 have e:(fun (m:Nat)=>xs[((i:Int)+(m:Int)*1).toNat]?)=fun m=>xs[i+m]?:=by
  funext m
  have:((i:Int)+(m:Int)*1).toNat=i+m:=by omega
  rw [this]
 rw [e]
 have:=pick_run xs i k
 rw [List.filterMap_map] at this
 have e2:((fun x=>xs[x]?)∘fun x=>i+x)=fun m=>xs[i+m]?:=rfl
 rw [e2] at this
 rw [this]
theorem mv {t sl:Addr}{items:Array LY}{vl vu:LY}{lo hi:Option Int}{Q:LY->L4->Prop}(ht:IsTup s.heap t items)(hs:s.heap.IsSliceOf sl vl vu .none)(pl:IsPart vl lo)(pu:IsPart vu hi)
 (hw:¬ (aI items.size 0 lo=0/\aI items.size items.size hi=items.size))
 (h:Q (.ref s.heap.objs.size) {s with heap:=s.heap.push {cls:=.type "tuple",data:=.seq ((items.toList.drop (aI items.size 0 lo)).take (aI items.size items.size hi-aI items.size 0 lo)).toArray}})
 (hsz:items.size<=sizeLine):wpAny (model prog w) A (getItem (.ref t) (.ref sl)) Q E s:=by
 have htake:sizeOk (.seq ((items.toList.drop (aI items.size 0 lo)).take (aI items.size items.size hi-aI items.size 0 lo)).toArray):=by
  show ((items.toList.drop (aI items.size 0 lo)).take (aI items.size items.size hi-aI items.size 0 lo)).toArray.size<=sizeLine
  rw [L8,Nz,List.length_drop,NK]
  omega
 have hj:aI items.size items.size hi<=items.size:=Fz _ _ (L7 _) hi
 obtain ⟨os,hos,hcs,hds⟩:=id hs
 have hTs:s.TypeIs (.ref sl) "slice":=⟨os,hos,hcs⟩
 unfold getItem
 try with_reducible refine tqo ?_
 first|refine tqa (tqb ?_)|skip
 refine tqa (wpAny_sequenceKey ht.typeIs (by decide) ?_)
 refine tqa (wpAny_callSpecial?_slot (name:=Str.ofString "__getitem__") ht.typeIs MM
  (wpAny_call_entry MM ht.typeIs entry_tuple_getitem ?_ (args_tuple_getitem _ _)))
 show wpAny _ _ (Builtin.Tuple.tupleItemsOf (.ref t) >>= _) _ _ s
 refine tqa (tupleItemsOf_ ht ?_)
 refine tqa (wpAny_typeOf hTs ?_)
 rw [if_pos (by decide)]
 refine tqa (iY hs pl pu ?_)
 have hno:¬ ((((aI items.size 0 lo:Nat):Int)==0&&(1:Int)==1&&(aI items.size items.size hi-aI items.size 0 lo)==items.size)=true):=by
  intro q
  rw [L6,L6] at q
  have q1:((aI items.size 0 lo:Nat):Int)=0:=eq_of_beq q.1.1
  have q2:aI items.size items.size hi-aI items.size 0 lo=items.size:=eq_of_beq q.2
  exact hw ⟨by omega,by omega⟩
 show wpAny _ _ (if (((aI items.size 0 lo:Nat):Int)==0&&(1:Int)==1&&(aI items.size items.size hi-aI items.size 0 lo)==items.size)=true then _ else _) _ _ s
 rw [if_neg hno,Ad]
 first
  |exact tqa (m:=Builtin.Tuple.tupleExact _) (wpAny_newObj_type (tqb ⟨_,rfl,tqb h⟩) htake)
  |exact tqa (m:=Builtin.Tuple.tupleExact _) (wpAny_newObj_type (tqa (tqb (tqb ⟨_,rfl,tqb h⟩))) htake)
  |exact tqa (tqa (m:=Builtin.Tuple.tupleExact _) (wpAny_newObj_type (tqb (tqb ⟨_,rfl,tqb h⟩)) htake))
  |exact tqa (tqa (m:=Builtin.Tuple.tupleExact _) (wpAny_newObj_type (tqb ⟨_,rfl,tqb h⟩) htake))
end
end HT
namespace L2
open PySem PySem.Spec PyProof.Rows
abbrev TO:=St->Hp->(Option Int->Hp->Prop)->Prop
noncomputable def PO (X:Cx)(e:Option Expr)(t:TO):Prop:=
 ∀(pins:List (Addr×Obj)) (s:L4) (σ:St) (H:Hp) (Q:Option Int->Hp->Prop),Inv X pins σ H s->t σ H Q->
  wpAny (model X.prog X.w) X.A (evalPart e X.env) (fun u s'=>∃o H',Inv X pins σ H' s'/\IsPart u o/\Q o H') X.xe s
noncomputable def C6:TO:=fun _ H Q=>Q none H
noncomputable def Ij (t:TE):TO:=fun σ H Q=>t σ H fun x H1=>∃i,x=.int i/\Q (some i) H1
section
variable {X:Cx}{e:Expr}{te:TE}{lo hi:Option Expr}{tl th:TO}{pos p2:Pos}
theorem DL:PO X none C6:=by
 intro pins s σ H Q I h
 rw [evalPart_none]
 exact tqb ⟨none,H,I,.none,h⟩
theorem DK (h:PE X e te):PO X (some e) (Ij te):=by
 intro pins s σ H Q I hw
 rw [evalPart_some]
 refine aP (h pins s σ H _ I hw) fun u s1 ⟨x,H1,I1,r1,q1⟩=>?_
 obtain ⟨i,rfl,q⟩:=q1
 obtain ⟨t,rfl⟩:=r1
 exact ⟨some i,H1,I1,.int i t,q⟩
noncomputable def kF (X:Cx)(r:V->Option Int->Option Int->Hp->VK->Prop):Prop:=
 ∀(pins:List (Addr×Obj)) (s:L4) (σ:St) (H:Hp) (x:V) (v vl vu:LY) (lo hi:Option Int) (sl:Addr) (Q:VK),Inv X pins σ H s->RelV x v->s.heap.IsSliceOf sl vl vu .none->IsPart vl lo->IsPart vu hi->r x lo hi H Q->
  ∃T id,typeLookup (.type T) "__getitem__"=pure (some (.builtin id))/\s.TypeIs v T/\wpAny (model X.prog X.w) X.A (getItem v (.ref sl)) (EP X pins σ Q) X.xe s
theorem kF.or {r r':V->Option Int->Option Int->Hp->VK->Prop}(h:kF X r)(h':kF X r'):kF X (fun x lo hi H Q=>r x lo hi H Q\/r' x lo hi H Q):=by
 intro pins s σ H x v vl vu lo hi sl Q I rx hs pl pu q
 rcases q with q|q
 ·exact h pins s σ H x v vl vu lo hi sl Q I rx hs pl pu q
 ·exact h' pins s σ H x v vl vu lo hi sl Q I rx hs pl pu q
noncomputable def tSl (r:V->Option Int->Option Int->Hp->VK->Prop)(te:TE)(tl th:TO):TE:=fun σ H Q=>te σ H fun x H1=>tl σ H1 fun l H2=>th σ H2 fun u H3=>r x l u H3 Q
theorem rO {r:V->Option Int->Option Int->Hp->VK->Prop}(hr:kF X r)(he:PE X e te)(hl:PO X lo tl)(hu:PO X hi th):PE X (.Subscript e (.Slice lo hi none p2) pos) (tSl r te tl th):=by
 intro pins s σ H Q I h
 refine Subscript_ (aP (he pins s σ H _ I h) fun v s1 ⟨x,H1,I1,r1,q1⟩=>?_)
 refine wpAny_Slice (aP (hl pins s1 σ H1 _ I1 q1) fun vl s2 ⟨l,H2,I2,pl,q2⟩=>aP (hu pins s2 σ H2 _ I2 q2) fun vu s3 ⟨u,H3,I3,pu,q3⟩=>?_)
 rw [evalPart_none]
 refine tqb ?_
 have I4:Inv X pins σ H3 {s3 with heap:=s3.heap.push {cls:=.type "slice",data:=.fields #[vl,vu,.none]}}:=I3.kept (t':=s3.toks) fun b ob q=>L3 _ q
 obtain ⟨T,id,hT,ht,hg⟩:=hr pins {s3 with heap:=s3.heap.push {cls:=.type "slice",data:=.fields #[vl,vu,.none]}} σ H3 x v vl vu l u s3.heap.objs.size Q I4 r1 (Heap.IsSliceOf.new ..) pl pu q3
 show wpAny (model X.prog X.w) X.A (subscriptTail e (.Slice lo hi none p2) v (.ref s3.heap.objs.size)) (EP X pins σ Q) X.xe {s3 with heap:=s3.heap.push {cls:=.type "slice",data:=.fields #[vl,vu,.none]}}
 exact tail_any (ops:=[.ref s3.heap.objs.size,v]) ht hT hg (by with_unfolding_all rfl)
noncomputable def lD (xs:List V)(lo hi:Option Int):List V:=(xs.drop (HT.aI xs.length 0 lo)).take (HT.aI xs.length xs.length hi-HT.aI xs.length 0 lo)
theorem mB (xs:List V)(lo hi:Option Int):(lD xs lo hi).length<=xs.length:=by
 unfold lD
 rw [Nz,List.length_drop]
 omega
noncomputable def FJ (K:LX):V->Option Int->Option Int->Hp->VK->Prop:=fun x lo hi H Q=>∃a xs,x=.ref a/\cZ K H a xs/\
 ¬ (HT.aI xs.length 0 lo=0/\HT.aI xs.length xs.length hi=xs.length)/\∀p,H p=none->Q (.ref p) (upd H p (.tup (lD xs lo hi)))
theorem Fi:kF X (FJ X.K):=by
 intro pins s σ H x v vl vu lo hi sl Q I rx hs pl pu h
 obtain ⟨a,xs,rfl,hx,hw,q⟩:=h
 cases rx
 obtain ⟨its,r,ht,hz⟩:=I.tuple hx
 have hlen:its.toArray.size=xs.length:=by rw [L8];exact r.length.symm
 refine ⟨"tuple",_,MM.lookup,ht.typeIs,?_⟩
 refine HT.mv ht hs pl pu (by rw [hlen];exact hw) ?_ (by rw [hlen];exact hz)
 rw [hlen]
 refine ⟨.ref s.heap.objs.size,_,I.laid (t':=s.toks) (o:=.tup (lD xs lo hi)) (fun b ob q=>L3 _ q) (L7 _) ?_,rfl,q _ (I.hok.fresh (L7 _))⟩
 exact ⟨Mb (mB xs lo hi) hz,_,(r.drop (HT.aI xs.length 0 lo)).take (HT.aI xs.length xs.length hi-HT.aI xs.length 0 lo),IsTup.new _ _⟩
noncomputable def Iz (K:LX):R2:=fun x y H Q=>∃a b xs ys,x=.ref a/\y=.ref b/\cZ K H a xs/\cZ K H b ys/\xs≠[]/\xs.length+ys.length<=sizeLine/\
 (ys=[]->Q (.ref a) H)/\(ys≠[]->∀p,H p=none->Q (.ref p) (upd H p (.tup (xs++ys))))
theorem Vals.nil_iff {xs:List V}{us:List LY}(r:Vals xs us):us=[]↔xs=[]:=by
 cases r with
 |nil=>simp
 |cons _ _=>simp
theorem D0:bD X (binaryOp .Add) (Iz X.K):=by
 intro pins s σ H x y v u Q I rx ry h
 obtain ⟨a,b,xs,ys,rfl,rfl,ha,hb,hx,hz,q1,q2⟩:=h
 cases rx
 cases ry
 obtain ⟨its,r1,p1,_⟩:=I.tuple ha
 obtain ⟨its2,r2,p2,_⟩:=I.tuple hb
 refine HT.EG p1 p2 (fun z=>hx (r1.nil_iff.mp z)) (fun z=>⟨.ref a,H,I,rfl,q1 (r2.nil_iff.mp z)⟩) (fun z=>?_) (by rw [<- r1.length,<- r2.length];exact hz)
 refine ⟨.ref s.heap.objs.size,_,I.laid (t':=s.toks) (o:=.tup (xs++ys)) (fun b ob q=>L3 _ q) (L7 _) ?_,rfl,q2 (fun w=>z (r2.nil_iff.mpr w)) _ (I.hok.fresh (L7 _))⟩
 exact ⟨by rw [Mz];exact hz,_,r1.append r2,IsTup.new _ _⟩
end
end L2
namespace L2
open PySem PySem.Spec PyProof.Rows
noncomputable def bz (n:Nat)(i:Int):Option Nat:=if 0<=i then (if i<n then some i.toNat else none) else if -(n:Int)<=i then some (i+n).toNat else none
noncomputable def qo {α:Type}(xs:List α)(i:Int):Option α:=(bz xs.length i).bind fun j=>xs[j]?
theorem uB {n:Nat}{i:Int}{j:Nat}(h:bz n i=some j):seqIndex? i n=some j/\j<n/\-(n:Int)<=i/\i<n:=by
 unfold bz at h
 by_cases h0:0<=i
 ·rw [if_pos h0] at h
  by_cases h1:i<n
  ·rw [if_pos h1] at h
   have e:i.toNat=j:=L9 h
   exact ⟨by rw [seqIndex_of h0 h1,e],by omega,by omega,h1⟩
  ·rw [if_neg h1] at h;cases h
 ·rw [if_neg h0] at h
  by_cases h1:-(n:Int)<=i
  ·rw [if_pos h1] at h
   have e:(i+n).toNat=j:=L9 h
   exact ⟨by rw [seqIndex_neg (by omega) h1,e],by omega,h1,by omega⟩
  ·rw [if_neg h1] at h;cases h
theorem pw {α:Type}{xs:List α}{i:Int}{v:α}(h:qo xs i=some v):∃j,seqIndex? i xs.length=some j/\xs[j]?=some v/\j<xs.length/\-(xs.length:Int)<=i/\i<xs.length:=by
 unfold qo at h
 cases e:bz xs.length i with
 |none=>rw [e] at h;cases h
 | some j =>
   rw [e] at h
   obtain ⟨h1,h2,h3,h4⟩:=uB e
   exact ⟨j,h1,h,h2,h3,h4⟩
noncomputable def jV (b:Expr):Prop:=∀o i,subscripted b false o i=operate [o,i] (getItem o i)
noncomputable def jW (X:Cx)(r:R2):Prop:=
 ∀(value slice:Expr) (pins:List (Addr×Obj)) (s:L4) (σ:St) (H:Hp) (x y:V) (v u:LY) (Q:VK),Inv X pins σ H s->RelV x v->RelV y u->r x y H Q->
  subscripted slice false v u=operate [v,u] (getItem v u)->wpAny (model X.prog X.w) X.A (subscriptTail value slice v u) (EP X pins σ Q) X.xe s
noncomputable def Kd (X:Cx)(id:String)(r:V->List V->Hp->VK->Prop):Prop:=
 ∀(pins:List (Addr×Obj)) (s:L4) (σ:St) (H:Hp) (x:V) (xs:List V) (v:LY) (us:List LY) (Q:VK),Inv X pins σ H s->RelV x v->Vals xs us->r x xs H Q->
  wpAny (model X.prog X.w) X.A (call (.builtin id) (v::us)) (EP X pins σ Q) X.xe s
section
variable {X:Cx}{a b:Expr}{ta tb:TE}{pos:Pos}
theorem jW.or {r r':R2}(h:jW X r)(h':jW X r'):jW X (fun x y H Q=>r x y H Q\/r' x y H Q):=by
 intro value slice pins s σ H x y v u Q I rx ry q hs
 rcases q with q|q
 ·exact h value slice pins s σ H x y v u Q I rx ry q hs
 ·exact h' value slice pins s σ H x y v u Q I rx ry q hs
theorem BI {r:R2}(hr:jW X r)(ha:PE X a ta)(hb:PE X b tb)(hs:jV b):PE X (.Subscript a b pos) (wO r ta tb):=by
 intro pins s σ H Q I h
 exact Subscript_ (A8 ha hb I h fun v u s2 x y H2 I2 rx ry q=>hr a b pins s2 σ H2 x y v u Q I2 rx ry q (hs _ _))
noncomputable def FP (K:LX):R2:=fun x y H Q=>∃p xs i v,x=.ref p/\y=.int i/\bV K H p xs/\qo xs i=some v/\Q v H
noncomputable def FN (K:LX):R2:=fun x y H Q=>∃p xs i v,x=.ref p/\y=.int i/\cZ K H p xs/\qo xs i=some v/\Q v H
noncomputable def FO:R2:=fun x y H Q=>∃z i c,x=.str z/\y=.int i/\z.length<=sizeLine/\qo z.cps.toList i=some c/\Q (.str ⟨#[c]⟩) H
theorem Ed:jW X (FP X.K):=by
 intro value slice pins s σ H x y v u Q I rx ry h hs
 obtain ⟨p,xs,i,z,rfl,rfl,hq,he,q⟩:=h
 cases rx
 obtain ⟨t,rfl⟩:=ry
 obtain ⟨its,r,pl,hz⟩:=I.list hq
 obtain ⟨j,h1,h2,h3,h4,h5⟩:=pw he
 obtain ⟨w,ew,rw'⟩:=r.get h2
 have hl:=r.length
 have hn:=jb
 have fin:EP X pins σ Q w s:=⟨z,H,I,rw',q⟩
 by_cases h0:0<=i
 ·have hj:i.toNat=j:=by
   rw [seqIndex_of h0 h5] at h1
   exact L9 h1
  exact item_listR pl.isList h0 (by omega) (by rw [hj];simpa using ew) fin hs
 ·have hj:(i+(its.toArray.size:Int)).toNat=j:=by
   rw [seqIndex_neg (by omega) h4] at h1
   rw [L8,<- hl]
   exact L9 h1
  exact subscriptTail_builtinR (x:=w) pl.isList.typeIs slot_list_getitem.lookup
   (wpAny_getItem_list_neg (Q:=fun r s'=>r=w/\EP X pins σ Q r s') pl.isList (by omega) (by rw [L8]<;>omega) (by omega) (by rw [hj];simpa using ew) ⟨rfl,fin⟩) hs
theorem G0:jW X (FN X.K):=by
 intro value slice pins s σ H x y v u Q I rx ry h hs
 obtain ⟨p,xs,i,z,rfl,rfl,hq,he,q⟩:=h
 cases rx
 obtain ⟨t,rfl⟩:=ry
 obtain ⟨its,r,pl,hz⟩:=I.tuple hq
 obtain ⟨j,h1,h2,h3,h4,h5⟩:=pw he
 obtain ⟨w,ew,rw'⟩:=r.get h2
 have hl:=r.length
 have hn:=jb
 have fin:EP X pins σ Q w s:=⟨z,H,I,rw',q⟩
 exact subscriptTail_builtinR (x:=w) pl.typeIs slot_tuple_getitem.lookup
  (getItem_tuple (j:=j) (Q:=fun r s'=>r=w/\EP X pins σ Q r s') pl (by omega) (by omega) (by rw [L8,<- hl];exact h1) (by simpa using ew) ⟨rfl,fin⟩) hs
theorem G1:jW X FO:=by
 intro value slice pins s σ H x y v u Q I rx ry h hs
 obtain ⟨z,i,c,rfl,rfl,hz,he,q⟩:=h
 obtain ⟨t,rfl⟩:=rx
 obtain ⟨t',rfl⟩:=ry
 obtain ⟨j,h1,h2,h3,h4,h5⟩:=pw he
 have hl:z.cps.toList.length=z.length:=by simp [Str.length]
 rw [hl] at h1 h4 h5
 have hn:=jb
 exact tail_any (typeIs_str s z t) slot_str_getitem.lookup (getItem_str (c:=c) (by
  have e1:decide (i < -(2^63:Int))=false:=decide_eq_false (by omega)
  have e2:decide (i≥2^63)=false:=decide_eq_false (by omega)
  rw [e1,e2,Bool.or_false]) (by rw [h1];simpa using h2) ⟨.str ⟨#[c]⟩,H,I.tok _,⟨_,rfl⟩,q⟩) hs
noncomputable def FQ (K:LX):R2:=fun x y H Q=>FP K x y H Q\/FN K x y H Q\/FO x y H Q
theorem G2:jW X (FQ X.K):=Ed.or (G0.or G1)
theorem vv (its:List LY)(n j:Nat)(u:LY):Obj.mapSeq (·.setIfInBounds j u) {cls:=.type "list",data:=.seq its.toArray n}={cls:=.type "list",data:=.seq (its.set j u).toArray n}:=by
 simp [Obj.mapSeq]
theorem Inv.lst {pins:List (Addr×Obj)}{σ:St}{H:Hp}{s:L4}{p:Addr}{xs:List V}(I:Inv X pins σ H s)(h:H p=some (.lst xs)) :
 ∃(its:List LY) (n:Nat),Vals xs its/\s.heap.get? p=some {cls:=.type "list",data:=.seq its.toArray n}/\xs.length<=sizeLine:=by
 obtain ⟨z,its,n,r,e⟩:=I.hok p _ h
 exact ⟨its,n,r,e,z⟩
theorem Inv.lstUpd {pins:List (Addr×Obj)}{σ:St}{H:Hp}{s:L4}{p:Addr}{xs ys:List V}{its its':List LY}{n n':Nat}{f:Obj->Obj}(I:Inv X pins σ H s)(h:H p=some (.lst xs))
 (ho:s.heap.get? p=some {cls:=.type "list",data:=.seq its.toArray n}) (hf:f {cls:=.type "list",data:=.seq its.toArray n}={cls:=.type "list",data:=.seq its'.toArray n'}) (r:Vals ys its') (hz:ys.length<=sizeLine) (t:Nat) :
 Inv X pins σ (upd H p (.lst ys)) {s with heap:=s.heap.update p f,toks:=t}:=by
 have e:(s.heap.update p f).get? p=some {cls:=.type "list",data:=.seq its'.toArray n'}:=by
  rw [NA f ho (by rw [hf]<;>rfl),hf]
 refine I.write (x:=p) (e:=p) (by rw [h];trivial) (.inl rfl) (fun b u hb q=>(Na _ _ (Ng hb)).trans q) ⟨_,e⟩ ?_
 exact ⟨hz,its',n',r,e⟩
noncomputable def BG:V->V->V->Hp->(Hp->Prop)->Prop:=fun o i v H Q=>∃p xs k j,o=.ref p/\i=.int k/\H p=some (.lst xs)/\bz xs.length k=some j/\Q (upd H p (.lst (xs.set j v)))
theorem set_list:HU X BG:=by
 intro pins s σ H o i v ov iv u Q I ro ri rv h
 obtain ⟨p,xs,k,j,rfl,rfl,hp,hj,q⟩:=h
 cases ro
 obtain ⟨t,rfl⟩:=ri
 obtain ⟨its,n,r,ho,hz⟩:=I.lst hp
 obtain ⟨h1,h2,h3,h4⟩:=uB hj
 have hl:=r.length
 have hn:=jb
 have I':Inv X pins σ (upd H p (.lst (xs.set j v))) {s with heap:=s.heap.update p (Obj.mapSeq (·.setIfInBounds j u))}:=
  I.lstUpd hp ho (vv its n j u) (r.set rv j) (by rw [List.length_set];exact hz) s.toks
 by_cases h0:0<=k
 ·have hk:k.toNat=j:=by
   rw [seqIndex_of h0 h4] at h1
   exact L9 h1
  exact PySem.W.ki_setAt ho h0 (by omega) (by rw [L8,<- hl];exact h4) (by rw [hk];exact ⟨_,I',q⟩)
 ·have hk:(k+(its.toArray.size:Int)).toNat=j:=by
   rw [seqIndex_neg (by omega) h3] at h1
   rw [L8,<- hl]
   exact L9 h1
  exact PySem.W.ki_setBack ho (by omega) (by rw [L8,<- hl];exact h3) (by omega) (by rw [hk];exact ⟨_,I',q⟩)
theorem rC (lo hi:Option Int)(n:Nat):(sliceBounds lo hi none n).1=((HT.aI n 0 lo:Nat):Int)/\(sliceBounds lo hi none n).2.1=((HT.aI n n hi:Nat):Int)/\(sliceBounds lo hi none n).2.2=1:=by
 refine ⟨?_,?_,rfl⟩
 ·cases lo with
  |none=>simp [sliceBounds,HT.aI]
  | some i =>
    simp only [sliceBounds,HT.aI,Option.getD_none,show (1:Int) > 0 by decide,if_true]
    by_cases h:i<0
    ·simp only [h,if_true]<;>omega
    ·simp only [h,if_false]<;>omega
 ·cases hi with
  |none=>simp [sliceBounds,HT.aI]
  | some i =>
    simp only [sliceBounds,HT.aI,Option.getD_none,show (1:Int) > 0 by decide,if_true]
    by_cases h:i<0
    ·simp only [h,if_true]<;>omega
    ·simp only [h,if_false]<;>omega
theorem qw (its:List LY)(lo hi:Option Int):slicePick its.toArray lo hi none=((its.drop (HT.aI its.length 0 lo)).take (HT.aI its.length its.length hi-HT.aI its.length 0 lo)).toArray:=by
 obtain ⟨h1,h2,h3⟩:=rC lo hi its.toArray.size
 unfold slicePick
 rw [h1,h2,h3]
 simp only [sliceRange_one,pick_run,L8]<;>rfl
noncomputable def FK (K:LX):V->Option Int->Option Int->Hp->VK->Prop:=fun x lo hi H Q=>∃a xs,x=.ref a/\bV K H a xs/\∀p,H p=none->Q (.ref p) (upd H p (.lst (lD xs lo hi)))
theorem Dm:kF X (FK X.K):=by
 intro pins s σ H x v vl vu lo hi sl Q I rx hs pl pu h
 obtain ⟨a,xs,rfl,hx,q⟩:=h
 cases rx
 obtain ⟨its,r,ht,hz⟩:=I.list hx
 have hlen:=r.length
 refine ⟨"list",_,slot_list_getitem.lookup,ht.isList.typeIs,?_⟩
 refine wpAny_getItem_list_slice ht.isList hs pl pu .none (by simp) ?_ (by rw [L8]<;>omega)
 rw [qw,<- hlen]
 refine ⟨.ref s.heap.objs.size,_,I.laid (t':=s.toks) (o:=.lst (lD xs lo hi)) (fun b ob q=>L3 _ q) (L7 _) ?_,rfl,q _ (I.hok.fresh (L7 _))⟩
 exact ⟨Mb (mB xs lo hi) hz,_,0,(r.drop (HT.aI xs.length 0 lo)).take (HT.aI xs.length xs.length hi-HT.aI xs.length 0 lo),Mo _ rfl⟩
theorem sR:cy X (.builtin "len") (fun xs H Q=>∃p ys,xs=[.ref p]/\(bV X.K H p ys\/cZ X.K H p ys)/\Q (.int ys.length) H):=by
 intro pins s σ H xs us Q I r h
 obtain ⟨p,ys,rfl,hq,q⟩:=h
 obtain ⟨u,rfl,rx⟩:=vals1 r
 cases rx
 have hn:=jb
 rcases hq with hq|hq
 ·obtain ⟨its,r',pl,hz⟩:=I.list hq
  have hlen:=r'.length
  exact Calls.call_len_list pl.isList (by simp only [L8]<;>omega) ⟨.int ys.length,H,I.tok _,⟨s.toks+1,by rw [L8,hlen]⟩,q⟩
 ·obtain ⟨its,r',pl,hz⟩:=I.tuple hq
  have hlen:=r'.length
  exact len_tuple pl (by simp only [L8]<;>omega) ⟨.int ys.length,H,I.tok _,⟨s.toks+1,by rw [L8,hlen]⟩,q⟩
theorem sQ:cy X (.builtin "len") (fun xs H Q=>∃z,xs=[.str z]/\z.length<=sizeLine/\Q (.int z.length) H):=by
 intro pins s σ H xs us Q I r h
 obtain ⟨z,rfl,hz,q⟩:=h
 obtain ⟨u,rfl,t,rfl⟩:=vals1 r
 have hn:=jb
 exact len_str (by omega) ⟨.int z.length,H,I.tok _,⟨_,rfl⟩,q⟩
theorem cy.or {f:LY}{r r':List V->Hp->VK->Prop}(h:cy X f r)(h':cy X f r'):cy X f (fun xs H Q=>r xs H Q\/r' xs H Q):=by
 intro pins s σ H xs us Q I rs q
 rcases q with q|q
 ·exact h pins s σ H xs us Q I rs q
 ·exact h' pins s σ H xs us Q I rs q
theorem sP:cy X (.type "list") (fun xs H Q=>∃p ys,xs=[.ref p]/\(bV X.K H p ys\/cZ X.K H p ys)/\∀l,H l=none->Q (.ref l) (upd H l (.lst ys))):=by
 intro pins s σ H xs us Q I r h
 obtain ⟨p,ys,rfl,hq,q⟩:=h
 obtain ⟨u,rfl,rx⟩:=vals1 r
 cases rx
 have fin:∀(its:List LY),Vals ys its->ys.length<=sizeLine->∀(h':Heap) (c':Nat),(∀b o',s.heap.get? b=some o'->h'.get? b=some o')->
  h'.get? s.heap.objs.size=some {cls:=.type "list",dict:=none,data:=.seq its.toArray c',slots:=#[]}->EP X pins σ Q (.ref s.heap.objs.size) {s with heap:=h'}:=fun its r' hz h' c' kp e=>
  ⟨.ref s.heap.objs.size,_,I.laid (t':=s.toks) kp (L7 _) (show b8 X.prog X.w _ h' _ (.lst ys) from ⟨hz,its,c',r',e⟩),rfl,q _ (I.hok.fresh (L7 _))⟩
 rcases hq with hq|hq
 ·obtain ⟨its,r',pl,hz⟩:=I.list hq
  have hlen:=r'.length
  obtain ⟨o,ho,hc,n,hd⟩:=pl.isList
  exact call_list_seq p (.inl rfl) ho hc hd (fun h' c' kp e=>fin its r' hz h' c' kp e) (by simp only [L8]<;>omega)
 ·obtain ⟨its,r',pl,hz⟩:=I.tuple hq
  have hlen:=r'.length
  obtain ⟨o,ho,hc,n,hd⟩:=pl
  exact call_list_seq p (.inr rfl) ho hc hd (fun h' c' kp e=>fin its r' hz h' c' kp e) (by simp only [L8]<;>omega)
theorem qz:cy X (.type "tuple") (fun xs H Q=>∃p ys,xs=[.ref p]/\((bV X.K H p ys/\∀l,H l=none->Q (.ref l) (upd H l (.tup ys)))\/(cZ X.K H p ys/\Q (.ref p) H))):=by
 intro pins s σ H xs us Q I r h
 obtain ⟨p,ys,rfl,h⟩:=h
 obtain ⟨u,rfl,rx⟩:=vals1 r
 cases rx
 rcases h with ⟨hq,q⟩|⟨hq,q⟩
 ·obtain ⟨its,r',pl,hz⟩:=I.list hq
  have hlen:=r'.length
  refine call_tuple_list pl.isList (fun h' kp=>?_) (by simp only [L8]<;>omega)
  have I1:Inv X pins σ H {s with heap:=h'}:=I.kept (t':=s.toks) kp
  have I2:Inv X pins σ (upd H h'.objs.size (.tup ys)) {s with heap:=h'.push {cls:=.type "tuple",data:=.seq its.toArray}}:=
   I1.laid (t':=s.toks) (fun b o e=>L3 _ e) (L7 _) (show b8 X.prog X.w _ _ _ (.tup ys) from ⟨hz,its,r',IsTup.new _ _⟩)
  exact ⟨.ref h'.objs.size,_,I2,rfl,q _ (I1.hok.fresh (L7 _))⟩
 ·obtain ⟨its,r',pl,hz⟩:=I.tuple hq
  exact call_tuple_same pl ⟨.ref p,H,I,rfl,q⟩
noncomputable def Fd (K:LX)(T:String)(x:V)(H:Hp):Prop:=match x with
 |.str _=>T="str"
 |.int _=>T="int"
 |.ref p=>(T="list"/\∃xs,bV K H p xs)\/(T="tuple"/\∃o,K.lookup p=some o/\o.cls=.type "tuple"/\o.dict=none)\/
  (T="dict"/\((∃kvs,H p=some (.dK kvs))\/∃kvs,H p=some (.dT kvs)))\/(T="set"/\∃S n,H p=some (.set S n))
 |_=>False
theorem wG {pins:List (Addr×Obj)}{σ:St}{H:Hp}{s:L4}{T:String}{x:V}{v:LY}(I:Inv X pins σ H s)(r:RelV x v)(ty:Fd X.K T x H) :
 s.TypeIs v T/\∀a,v=.ref a->∃ob,s.heap.get? a=some ob/\ob.dict=none:=by
 cases x with
 | str z =>
   obtain ⟨t,rfl⟩:=r
   cases (show T="str" from ty)
   exact ⟨typeIs_str s z t,fun _ e=>nomatch e⟩
 | int i =>
   obtain ⟨t,rfl⟩:=r
   cases (show T="int" from ty)
   exact ⟨typeIs_int s i t,fun _ e=>nomatch e⟩
 | ref p =>
   cases r
   rcases ty with ⟨rfl,xs,hq⟩|⟨rfl,o,hk,hc,hd⟩|⟨rfl,hk⟩|⟨rfl,S,n,hk⟩
   ·obtain ⟨its,_,pl,_⟩:=I.list hq
    refine ⟨pl.isList.typeIs,fun a e=>?_⟩
    cases e
    obtain ⟨o,n,e,c,hd,_⟩:=pl
    exact ⟨o,e,hd⟩
   ·refine ⟨⟨o,I.kIn p o hk,hc⟩,fun a e=>?_⟩
    cases e
    exact ⟨o,I.kIn _ o hk,hd⟩
   ·have z:∃o,s.heap.get? p=some o/\o.ExactDict:=by
     rcases hk with ⟨kvs,hk⟩|⟨kvs,hk⟩
     ·obtain ⟨_,_,_,_,o,_,_,e,ex,_⟩:=I.hok p _ hk
      exact ⟨o,e,ex⟩
     ·obtain ⟨_,_,_,_,o,_,_,e,ex,_⟩:=I.hok p _ hk
      exact ⟨o,e,ex⟩
    obtain ⟨o,e,ex⟩:=z
    refine ⟨⟨o,e,ex.1⟩,fun a e2=>?_⟩
    cases e2
    exact ⟨o,e,ex.2.1⟩
   ·obtain ⟨o,_,_,_,e,ex,_⟩:=I.hok p _ hk
    refine ⟨⟨o,e,ex.1⟩,fun a e2=>?_⟩
    cases e2
    exact ⟨o,e,ex.2.1⟩
 |_=>exact False.elim ty
noncomputable def Ks (K:LX)(T:String)(r:V->List V->Hp->VK->Prop)(to:TE):TE:=fun σ H Q=>to σ H fun x H1=>Fd K T x H1/\r x [] H1 Q
noncomputable def tBM (K:LX)(T:String)(r:V->List V->Hp->VK->Prop)(to:TE)(t:TA):TE:=fun σ H Q=>to σ H fun x H1=>Fd K T x H1/\t σ H1 fun xs H2=>r x xs H2 Q
variable {o e:Expr}{es:List Expr}{to:TE}{t:TA}{name:Str}{apos cpos:Pos}{T id:String}{r:V->List V->Hp->VK->Prop}
theorem xE (pa:PlainAttrs T)(slot:Slot T name id)(hty:typeOf (.builtin id)=pure (.type "method_descriptor"))(hm:Kd X id r)(ho:PE X o to)
 (hbase:attributeBase o name X.env (eval o X.env)=eval o X.env:=by rfl) (hline:(apos.endLine==cpos.line)=true:=by rfl):PE X (.Call (.Attribute o name apos) [] [] cpos) (Ks X.K T r to):=by
 intro pins s σ H Q I h
 refine wpAny_Call_method0_late hbase hline (aP (ho pins s σ H _ I h) fun v s1 ⟨x,H1,I1,r1,ty,q1⟩=>?_)
 obtain ⟨h1,h2⟩:=wG I1 r1 ty
 exact ⟨T,id,pa,slot,hty,h1,h2,Calls.callWith_builtin rfl (PySem.evalArgs_none (hm pins s1 σ H1 x [] v [] Q I1 r1 .nil q1))⟩
theorem IH (pa:PlainAttrs T)(slot:Slot T name id)(hty:typeOf (.builtin id)=pure (.type "method_descriptor"))(hm:Kd X id r)(ho:PE X o to)(ha:PA X (e::es) t)
 (hbase:attributeBase o name X.env (eval o X.env)=eval o X.env:=by rfl)
 (hfew:((backTo cpos (starEach (e::es) X.env)).all (fun x=>!x.1)&&(backToKw cpos (keywordEach [] X.env)).all (fun x=>x.1.isSome)
  && decide ((e::es).length+([]:List Keyword).length+(if ([]:List Keyword).isEmpty then 0 else 1)<30))=true:=by rfl)
 (hline:(apos.endLine==cpos.line)=true:=by rfl) (hs:starEach (e::es) X.env=(false,eval e X.env)::starEach es X.env:=by rfl) (hplain:(backTo cpos (starEach es X.env)).any (·.1)=false:=by rfl) :
 PE X (.Call (.Attribute o name apos) (e::es) [] cpos) (tBM X.K T r to t):=by
 intro pins s σ H Q I h
 refine wpAny_Call_method_late hbase hfew hline rfl (aP (ho pins s σ H _ I h) fun v s1 ⟨x,H1,I1,r1,ty,q1⟩=>?_)
 obtain ⟨h1,h2⟩:=wG I1 r1 ty
 refine ⟨T,id,pa,slot,hty,h1,h2,?_⟩
 have hA:=ha cpos pins s1 σ H1 _ I1 q1
 rw [hs] at hA ⊢
 refine Calls.callWith_builtin (by show (false||(backTo cpos (starEach es X.env)).any (·.1))=false;rw [hplain]<;>rfl) (Calls.evalArgs_plain ?_)
 exact aP hA fun us s2 ⟨vs,H2,I2,r2,q2⟩=>hm pins s2 σ H2 x vs v us Q I2 r1 r2 q2
end
end L2
namespace L2
open PySem PySem.Spec PyProof.Rows
noncomputable def Cu (X:Cx)(id:String)(r:V->List V->Hp->VK->Prop):Prop:=
 ∀(pins:List (Addr×Obj)) (s:L4) (σ:St) (H:Hp) (x:V) (xs:List V) (v:LY) (us:List LY) (Q:VK),Inv X pins σ H s->RelV x v->Vals xs us->r x xs H Q->
  wpAny (model X.prog X.w) X.A (call (.builtin id) (v::us)) (EP X pins σ Q) X.xe s
theorem Vals.one:∀{x:V}{us:List LY},Vals [x] us->∃u,us=[u]/\RelV x u
 |_,_,.cons r .nil=>⟨_,rfl,r⟩
theorem Vals.zero:∀{us:List LY},Vals [] us->us=[]
 |_,.nil=>rfl
theorem Vals.dropLast {xs:List V}{us:List LY}(h:Vals xs us):Vals xs.dropLast us.dropLast:=by
 induction h with
 |nil=>exact .nil
 | cons r t ih =>
   cases t with
   |nil=>exact .nil
   |cons q t'=>exact .cons r ih
theorem Vals.reverse {xs:List V}{us:List LY}(h:Vals xs us):Vals xs.reverse us.reverse:=by
 induction h with
 |nil=>exact .nil
 |cons r t ih=>rw [NT,NT];exact Vals.append ih (.cons r .nil)
theorem Vals.rep {xs:List V}{us:List LY}(h:Vals xs us):∀k:Nat,Vals (List.replicate k xs).flatten (List.replicate k us).flatten
 |0=>.nil
 | k + 1 => by
   rw [ND,ND,NU,NU]
   exact Vals.append h (Vals.rep h k)
theorem vN {α:Type}(l:List α):l.eraseIdx (l.length-1)=l.dropLast:=by
 induction l with
 |nil=>rfl
 | cons a r ih =>
   cases r with
   |nil=>rfl
   | cons b r =>
     have e:(a::b::r).length-1=((b::r).length-1)+1:=by
      have h1:(a::b::r).length=r.length+2:=rfl
      have h2:(b::r).length=r.length+1:=rfl
      omega
     rw [e,List.eraseIdx_cons_succ,ih]
     all_goals rfl
theorem foldl_rep (its:List LY):∀(k:Nat) (acc:List LY),
 List.foldl (fun x1 x2=>x1++x2) acc.toArray (List.replicate k its.toArray)=(acc++(List.replicate k its).flatten).toArray
 |0,acc=>by simp
 | k + 1, acc => by
   have e:acc.toArray++its.toArray=(acc++its).toArray:=by simp
   have e2:(acc++its)++(List.replicate k its).flatten=acc++(List.replicate (k+1) its).flatten:=by
    rw [ND,NU,List.append_assoc]
   rw [<- e2,<- foldl_rep its k (acc++its),<- e,ND,List.foldl_cons]
section
variable {X:Cx}{pins:List (Addr×Obj)}{σ:St}{H:Hp}{s:L4}{l b:Addr}{xs ys zs:List V}
theorem Inv.lset {its its':List LY}{n:Nat}{f:Array LY->Array LY}{t':Nat}(I:Inv X pins σ H s)(hH:H l=some (.lst xs))
 (e:s.heap.get? l=some {cls:=.type "list",data:=.seq its.toArray n}) (hf:f its.toArray=its'.toArray) (hv:Vals ys its') (hz:ys.length<=sizeLine) :
 Inv X pins σ (upd H l (.lst ys)) {s with heap:=s.heap.update l (Obj.mapSeq f),toks:=t'}:=by
 have q:=PySem.IsL.update e f
 rw [hf] at q
 refine I.write (x:=l) (e:=l) (by rw [hH];exact trivial) (.inl rfl) (fun b' u hb hu=>(Na s.heap (Obj.mapSeq f) (Ng hb)).trans hu) ⟨_,q⟩ ?_
 exact ⟨hz,its',_,hv,q⟩
theorem Inv.lnew {its:List LY}{t':Nat}(I:Inv X pins σ H s)(hv:Vals ys its)(hz:ys.length<=sizeLine) :
 Inv X pins σ (upd H s.heap.objs.size (.lst ys)) {s with heap:=s.heap.push {cls:=.type "list",data:=.seq its.toArray},toks:=t'}:=
 I.laid (fun _ _ q=>L3 _ q) (L7 _) ⟨hz,its,0,hv,Mo _ rfl⟩
theorem Inv.fresh (I:Inv X pins σ H s):H s.heap.objs.size=none:=I.hok.fresh (L7 _)
theorem Inv.lstM (I:Inv X pins σ H s)(hH:H l=some (.lst xs)):xs.length<=sizeLine/\∃(its:List LY) (n:Nat),Vals xs its/\xs.length=its.length/\s.heap.get? l=some {cls:=.type "list",data:=.seq its.toArray n}:=by
 obtain ⟨z,its,n,r,e⟩:=I.hok l _ hH
 exact ⟨z,its,n,r,r.length,e⟩
theorem rY {n:Nat}(h:n<=sizeLine):Builtin.List.listTooLong n=false:=by
 unfold Builtin.List.listTooLong
 exact decide_eq_false (by omega)
end
section
variable {X:Cx}
noncomputable def Dy:V->List V->Hp->VK->Prop:=fun x vs H Q=>∃l xs y,x=.ref l/\vs=[y]/\H l=some (.lst xs)/\xs.length<sizeLine/\Q .non (upd H l (.lst (xs++[y])))
theorem pZ:Cu X "list.append" Dy:=by
 intro pins s σ H x vs v us Q I rx rv h
 obtain ⟨l,xs,y,rfl,rfl,hH,hz,q⟩:=h
 cases rx
 obtain ⟨u,rfl,ru⟩:=rv.one
 obtain ⟨z,its,n,r,hl,e⟩:=I.lstM hH
 refine call_meets F.slot_list_append ⟨_,e,rfl⟩ F.entry_list_append (F.args_list_append_2 _ _) (PySem.list_append l its.toArray n u (by rw [L8];omega)) ⟨e,?_⟩
 refine ⟨.non,_,I.lset (its':=its++[u]) hH e (by simp) (r.append (.cons ru .nil)) ?_,rfl,q⟩
 rw [Mz,NH]
 omega
noncomputable def Dx:V->List V->Hp->VK->Prop:=fun x vs H Q=>∃l b xs zs,x=.ref l/\vs=[.ref b]/\H l=some (.lst xs)/\H b=some (.lst zs)/\xs.length+zs.length<=sizeLine/\Q .non (upd H l (.lst (xs++zs)))
theorem J3:Cu X "list.extend" Dx:=by
 intro pins s σ H x vs v us Q I rx rv h
 obtain ⟨l,b,xs,zs,rfl,rfl,hH,hB,hz,q⟩:=h
 cases rx
 obtain ⟨u,rfl,ru⟩:=rv.one
 cases ru
 obtain ⟨z,its,n,r,hl,e⟩:=I.lstM hH
 obtain ⟨z2,its2,n2,r2,hl2,e2⟩:=I.lstM hB
 have hsz:its.toArray.size+its2.toArray.size<=sizeLine:=by rw [L8,L8];omega
 have hlong:¬ (!its.toArray.isEmpty&&Builtin.List.listTooLong (its.toArray.size+its2.toArray.size))=true:=by
  rw [rY hsz,Bool.and_false]
  exact Mx
 refine call_meets F.slot_list_extend ⟨_,e,rfl⟩ F.entry_list_extend (F.args_list_extend_2 _ _)
  (AutoSeq1.list_extend_list_list_0 l its.toArray n b its2.toArray n2 hlong (by rw [L8];omega) (by omega)) ⟨e,e2,?_⟩
 refine ⟨.non,_,I.lset (its':=its++its2) hH e (by simp) (r.append r2) ?_,rfl,q⟩
 rw [Mz]
 omega
noncomputable def KA:V->List V->Hp->VK->Prop:=fun x vs H Q=>∃l xs y,x=.ref l/\vs=[]/\H l=some (.lst xs)/\xs[xs.length-1]?=some y/\Q y (upd H l (.lst xs.dropLast))
theorem GN:Cu X "list.pop" KA:=by
 intro pins s σ H x vs v us Q I rx rv h
 obtain ⟨l,xs,y,rfl,rfl,hH,hy,q⟩:=h
 cases rx
 have hus:=rv.zero
 subst hus
 obtain ⟨z,its,n,r,hl,e⟩:=I.lstM hH
 obtain ⟨u,hu,ru⟩:=r.get hy
 have hy':its.toArray[its.toArray.size-1]?=some u:=by
  show its.toArray[its.length-1]?=some u
  rw [<- Array.getElem?_toList,<- hl]
  exact hu
 refine call_meets F.slot_list_pop ⟨_,e,rfl⟩ F.entry_list_pop (F.args_list_pop_1 _) (MeetsSeq.list_pop_last l its.toArray n u hy' (by rw [L8];omega)) ⟨e,?_⟩
 refine ⟨y,_,I.lset (its':=its.dropLast) hH e ?_ r.dropLast ?_,ru,q⟩
 ·show its.toArray.eraseIdxIfInBounds (its.toArray.size-1)=its.dropLast.toArray
  rw [L8,List.eraseIdxIfInBounds_toArray,vN]
 ·rw [List.length_dropLast]
  omega
noncomputable def zZ:V->List V->Hp->VK->Prop:=fun x vs H Q=>∃l xs,x=.ref l/\vs=[]/\H l=some (.lst xs)/\Q .non (upd H l (.lst xs.reverse))
theorem vp:Cu X "list.reverse" zZ:=by
 intro pins s σ H x vs v us Q I rx rv h
 obtain ⟨l,xs,rfl,rfl,hH,q⟩:=h
 cases rx
 have hus:=rv.zero
 subst hus
 obtain ⟨z,its,n,r,hl,e⟩:=I.lstM hH
 refine call_meets F.slot_list_reverse ⟨_,e,rfl⟩ F.entry_list_reverse (F.args_list_reverse_1 _) (AutoSeq1.list_reverse_list_0 l its.toArray n (by rw [L8];omega)) ⟨e,?_⟩
 refine ⟨.non,_,I.lset (its':=its.reverse) hH e (by simp) r.reverse ?_,rfl,q⟩
 rw [List.length_reverse]
 omega
noncomputable def KC:R2:=fun x y H Q=>∃l b xs zs,x=.ref l/\y=.ref b/\H l=some (.lst xs)/\H b=some (.lst zs)/\xs.length+zs.length<=sizeLine/\∀p,H p=none->Q (.ref p) (upd H p (.lst (xs++zs)))
theorem Gk:bD X (binaryOp .Add) KC:=by
 intro pins s σ H x y v u Q I rx ry h
 obtain ⟨l,b,xs,zs,rfl,rfl,hH,hB,hz,q⟩:=h
 cases rx
 cases ry
 obtain ⟨z,its,n,r,hl,e⟩:=I.lstM hH
 obtain ⟨z2,its2,n2,r2,hl2,e2⟩:=I.lstM hB
 refine PySem.P.add_list e e2 ?_ (by rw [L8,L8];omega)
 have ea:its.toArray++its2.toArray=(its++its2).toArray:=by simp
 rw [ea]
 exact ⟨.ref _,_,I.lnew (t':=s.toks) (r.append r2) (by rw [Mz];omega),rfl,q _ I.fresh⟩
noncomputable def Kz:R2:=fun x y H Q=>∃l k xs,x=.ref l/\y=.int k/\H l=some (.lst xs)/\-(2^63)<=k/\k<2^63/\xs.length*k.toNat<=sizeLine/\
 ∀p,H p=none->Q (.ref p) (upd H p (.lst (List.replicate k.toNat xs).flatten))
theorem len_rep {α:Type}(xs:List α)(k:Nat):(List.replicate k xs).flatten.length=k*xs.length:=by
 induction k with
 |zero=>simp
 |succ k ih=>rw [ND,NU,Mz,ih,Nat.succ_mul,Nat.add_comm]
theorem Gf:bD X (binaryOp .Mult) Kz:=by
 intro pins s σ H x y v u Q I rx ry h
 obtain ⟨l,k,xs,rfl,rfl,hH,h1,h2,hz,q⟩:=h
 cases rx
 obtain ⟨t,rfl⟩:=ry
 obtain ⟨z,its,n,r,hl,e⟩:=I.lstM hH
 have hlen:its.toArray.size*k.toNat<=sizeLine:=by rw [L8,<- hl];exact hz
 have hcap:¬ its.toArray.size*k.toNat > (2^63-1) / 8:=by
  have:(sizeLine:Nat)<=(2^63-1) / 8:=by decide
  omega
 have hfit:¬ (!Builtin.List.listFitsIndex k)=true:=by
  rw [fitsIndex_both h1 h2]
  exact Mx
 have hlong:¬ Builtin.List.listTooLong (its.toArray.size*k.toNat)=true:=by
  rw [rY hlen]
  exact Mx
 have hnew:List.foldl (fun x1 x2=>x1++x2) #[] (List.replicate (if its.toArray.isEmpty=true then 0 else k.toNat) its.toArray)=(List.replicate k.toNat its).flatten.toArray:=by
  have f0:∀m:Nat,List.foldl (fun x1 x2=>x1++x2) #[] (List.replicate m its.toArray)=(List.replicate m its).flatten.toArray:=fun m=>by
   have:=foldl_rep its m []
   rw [Oa] at this
   exact this
  rw [f0]
  cases its with
  |nil=>simp
  |cons a r'=>rw [if_neg (by simp)]
 refine wpAny_binaryOp_repeat_ref (T:="list") (U:="int") (by decide) ⟨_,e,rfl⟩ (fun s'=>typeIs_int s' k t) noFill_list_mul F.fills_int_mul F.slot_int_rmul repeat_list F.slot_int_index.lookup
  (call_meets F.slot_int_rmul (typeIs_int s k t) F.entry_int_rmul (F.args_int_rmul_2 _ _) (int___rmul___int_list k t l its.toArray n)
   ⟨e,rfl,⟨_,e,rfl⟩,call_meets F.slot_list_mul ⟨_,e,rfl⟩ F.entry_list_mul (F.args_list_mul_2 _ _) (AutoListH.list___mul___list_int_3 l its.toArray n k t hfit hcap hlong) ⟨e,?_⟩⟩)
 rw [hnew]
 exact ⟨.ref _,_,I.lnew (t':=s.toks) (r.rep k.toNat) (by rw [len_rep,Nat.mul_comm];exact hz),rfl,q _ I.fresh⟩
end
end L2
namespace Att
open PySem PySem.W PySem.Calls PyProof.Rows
theorem oh {P:Nq}{h:Heap}:∀(ns:List Int) (vs:List LY),WellAll P h vs (ns.map WData.int)->IntsAre vs ns:=by
 intro ns
 induction ns with
 | nil =>
   intro vs w
   rw [List.map_nil] at w
   cases w
   exact .nil
 | cons n ns ih =>
   intro vs w
   rw [Nd] at w
   cases w with
   | cons a b =>
     cases a
     exact .cons _ _ (ih _ b)
theorem xn {l:OpenLaw}{n:Nat}(hn:l.most=some n){P:Nq}{h:Heap}{args:List WData}{vals:List LY}
 (hpre:l.row.toRowW.claim.pre args=true) (hwl:WellAll P h vals args) :
 ∃a vs ns,vals=[Value.ref a]/\args=[WData.list (ns.map WData.int)]/\h.get? a=some {cls:=.type "list",data:=.seq vs.toArray}/\IntsAre vs ns/\ns.length<=n:=by
 have hsh:WShape.hasAll [] args [.list .int]=true:=(pre_splitW hpre).1
 have hc:l.pre.holds [] {args:=args}=true:=(pre_splitW hpre).2
 obtain ⟨d,r,rfl,h1,h2⟩:=hasAllW_cons hsh
 obtain rfl:=hasAllW_nil h2
 obtain ⟨xs,rfl,h3⟩:=hasW_list h1
 obtain ⟨ns,rfl⟩:=items_int h3
 have hlen:ns.length<=n:=by
  unfold OpenLaw.pre at hc
  have h4:(WTm.not (.lt (.lit (.int (n:Int))) (.len (.arg 0)))).holds [] {args:=[.list (ns.map .int)]}=true:=by
   have h4:=(holds_andW hc).1
   rw [hn] at h4
   exact h4
  have h5:=condW_of h4 (w_not (w_lt w_lit (w_len_list (w_arg rfl))))
  rw [Md] at h5
  refine Nat.le_of_not_lt fun q=>?_
  have q':(n:Int)<((ns.length:Nat):Int):=by omega
  first
   |(rw [decide_eq_true q'] at h5;exact absurd h5 (by decide))
   |(simp at h5;omega)
 cases hwl with
 | cons w1 w2 =>
   cases w2
   cases w1 with
   |list ho hall=>exact ⟨_,_,ns,rfl,rfl,ho,oh ns _ hall,hlen⟩
theorem xv (l:OpenLaw)(args:List WData):l.row.toRowW.claim.post args (.bool true) args=true:=
 postW_of (r:=l.row.toRowW) (X:=(true==true))
  (show WShape.has [] (.bool true) .bool=true by first|rfl|decide|simp [WShape.has,WShape.arms,WShape.armsAll])
  (show (WTm.eq .res (.lit (.bool true))).value [] {args:=args,res:=some (.bool true),after:=args}=some (.bool (true==true)) from w_eq_bool (w_res rfl) w_lit) rfl
theorem attach_call {l:OpenLaw}{n:Nat}{q:Ms}{loose:List Str}{XP:(Str->Option LY)->Heap->Prop}{YP:Mv->Heap->Prop}{d:DefRec}
 (hn:l.most=some n) (hdf:d.params.defaults=[])
 (call:∀(w:Mv) (s₀ s₁:L4) (mg mb:Str->Option LY) (fa:Addr) (o:Obj) (pm cd doc:LY) (a:Addr) (vs:List LY) (ns:List Int),
  Ground q loose [] XP w s₀ mg mb s₁.heap->YP w s₁.heap->
  s₁.heap.get? fa=some o->o.data=.func (docDef d.name d.params d.body d.scope pm cd doc)->s₁.heap.CodeRec cd d.name->mg d.name=some (.ref fa)->
  s₁.heap.get? a=some {cls:=.type "list",data:=.seq vs.toArray}->IntsAre vs ns->ns.length<=n->s₁.gens=#[]->
  codeAny (model l.prog w) callerA (.call (.ref fa) ⟨[.ref a],[]⟩) (fun r s'=>r=.ok (.ret (.bool true))/\OldK s₁.heap s'.heap/\s'.os=s₁.os/\AllBare s'.gens) s₁) :
 WalkO q loose XP YP l.row.toRowW d [] (fun f vs=>PySem.call f vs):=by
 intro w s₀ s₁ mg mb G Y fa o pm cd doc dV kV ho hd hcd hD hmg hg args vals as hpre hlay hrd hwl hlo
 obtain rfl:dV=.none:=Dflts.none hD hdf
 obtain rfl:kV=.none:=Dflts.noKw hD
 obtain ⟨a,vs,ns,rfl,rfl,hobj,hints,hlen⟩:=xn hn hpre hwl
 refine enter_call (codeAny_mono (call w s₀ s₁ mg mb fa o pm cd doc a vs ns G Y ho (fd_plain hd) hcd hmg hobj hints hlen hg) fun r s' hq=>?_)
 obtain ⟨rfl,h2,h3,h4⟩:=hq
 exact ⟨.inl ⟨.bool true,.bool true,[],rfl,fun _=>rfl,.bool true,xv l _,fun _=>⟨List.Pairwise.nil,fun _ hm=>(nomatch hm)⟩⟩,h2,h3,h4⟩
end Att
namespace L2
open PySem PySem.Spec PyProof.Rows
theorem pF:∀{vs:List LY}{ns:List Int},IntsAre vs ns->Vals (ns.map V.int) vs
 |_,_,.nil=>.nil
 |_,_,.cons n t h=>.cons ⟨t,rfl⟩ (pF h)
noncomputable def wb (H:Hp):Prop:=∀b,H b=none\/∃o xs,H b=some (.frz o (.lst xs))
theorem Ay {P:Ms}{w:Mv}{K:LX}{mg mb:Str->Option LY}{CX:mH}{k:Nat}{fa a:Addr}{fd:N8}{x:Str}{sp:Sp}{s₁:L4}{vs:List LY}{ns:List Int}
 (KX:K.In s₁.heap) (hns:s₁.heap.Ns mainGlobals mg) (hb:s₁.heap.Ns builtinsNs mb) (hbb:∀x:Str,x≠"__name__"->mb x=bootBuiltins x) (hlim:s₁.heap.NoLimit) (hg:s₁.gens=#[])
 (ha:s₁.heap.get? a=some {cls:=.type "list",data:=.seq vs.toArray}) (hi:IntsAre vs ns) (hl:ns.length<=sizeLine) (hr:bC k callerA)
 (F:∀base:Heap,K.In base->base.Ns mainGlobals mg->fG P w K mg base CX k fa fd [x] sp) (hbind:∀(s:L4) (u:LY),BindsTo s fd ⟨[u],[]⟩ [(x,u)])
 (hsp:∀H:Hp,wb H->bV K H a (ns.map V.int)->sp [.ref a] H (fun v _=>v=.bl true) fun _ _ _=>False)
 (hCX:∀H e s',CX [] H s₁ (fun _ _ _=>False) e s'->False) :
 codeAny (model P w) callerA (.call (.ref fa) ⟨[.ref a],[]⟩) (fun r s'=>r=.ok (.ret (.bool true))/\OldK s₁.heap s'.heap/\s'.os=s₁.os/\AllBare s'.gens) s₁:=by
 have rv:=pF hi
 have lenV:=hi.length
 have core:∀H:Hp,wb H->bV K H a (ns.map V.int)->dP P w H s₁.heap->(∀b,H b≠none->b=a)->(H a≠none->K.lookup a=none)->
  codeAny (model P w) callerA (.call (.ref fa) ⟨[.ref a],[]⟩) (fun r s'=>r=.ok (.ret (.bool true))/\OldK s₁.heap s'.heap/\s'.os=s₁.os/\AllBare s'.gens) s₁:=by
  intro H hO hS hok hA hK
  have fb:∀{b:Addr}{o:Obj},s₁.heap.get? b=some o->H b=none->(ki s₁.heap H).get? b=some o:=fun e n=>AK e n
  have noA:∀{b:Addr}{o:Obj}{es:Array N0}{ep:Nat},s₁.heap.get? b=some o->o.data=.dict es ep->H b=none:=fun {b o es ep} e d=>by
   cases q:H b with
   |none=>rfl
   | some u =>
     have e':b=a:=hA b (by rw [q];simp)
     subst e'
     rw [ha] at e;cases e
     have d':Data.seq vs.toArray _=Data.dict es ep:=d
     cases d'
  have nsK:∀{b:Addr}{m:Str->Option LY},s₁.heap.Ns b m->(ki s₁.heap H).Ns b m:=fun {b m} ⟨o,es,ep,e,d,r⟩=>⟨o,es,ep,fb e (noA e d),d,r⟩
  have hKb:K.In (ki s₁.heap H):=fun b o e=>fb (KX b o e) (by
   cases q:H b with
   |none=>rfl
   | some u =>
     have e':b=a:=hA b (by rw [q];simp)
     subst e'
     rw [hK (by rw [q];simp)] at e;cases e)
  have hM:Mod K mg (ki s₁.heap H):=⟨hKb,nsK hns,⟨mb,nsK hb,hbb⟩,let ⟨mc,h1,h2⟩:=hlim;⟨mc,nsK h1,h2⟩⟩
  have e0:nr P w K mg (ki s₁.heap H) callerA [] s₁ H:=⟨rfl,hM,fun b o e=>D3 e,Nat.le_of_eq (yt _ _),trivial,fun b hb=>absurd (show b∈([]:List Addr) from hb) (by simp),hok,.of_eq hg⟩
  refine codeAny_mono ((F _ hKb (nsK hns)).run callerA [] s₁ H ⟨[.ref a],[]⟩ [.ref a] [.ref a] _ _ hr e0 (hbind s₁ (.ref a)) (.cons rfl .nil) (hsp H hO hS)) fun r s' h=>?_
  cases r with
  |error e=>exact (hCX H e s' h).elim
  | ok fl =>
    cases fl with
    |next=>exact False.elim h
    |brk=>exact False.elim h
    |cont=>exact False.elim h
    | ret u =>
      obtain ⟨v,H',os,bare,un,hok',r',q⟩:=h
      have q':v=.bl true:=q
      subst q'
      obtain rfl:u=Value.bool true:=r'
      refine ⟨rfl,OldK.of_keep fun b o e=>?_,os,bare⟩
      cases q:H b with
      |none=>exact un.keep b o e q (by intro z;exact absurd (show b∈([]:List Addr) from z) (by simp)) (by simp)
      | some u =>
        rcases hO b with z|⟨ob,xs,z⟩
        ·rw [q] at z;cases z
        ·have z2:=un.frzs b ob _ z
         obtain ⟨e1,_⟩:=hok b _ z
         obtain ⟨e2,_⟩:=hok' b _ z2
         rw [e] at e1;cases e1
         exact e2
 cases hk:K.lookup a with
 | some o =>
   have e:=KX a o hk
   rw [ha] at e
   cases e
   refine core (fun _=>none) (fun _=>.inl rfl) (.inr ⟨_,vs.toArray,_,hk,rfl,rfl,rfl,by rw [L8,lenV];exact hl,by simpa using rv⟩) (fun b u z=>by have z':(none:Option HO)=some u:=z;cases z') (fun b z=>absurd rfl z) fun z=>absurd rfl z
 | none =>
   refine core (fun b=>if b=a then some (.frz {cls:=.type "list",data:=.seq vs.toArray} (.lst (ns.map V.int))) else none) (fun b=>?_) (.inl (.inr ⟨{cls:=.type "list",data:=.seq vs.toArray},if_pos rfl⟩)) (fun b u z=>?_) (fun b z=>?_) fun _=>hk
   ·by_cases hb:b=a
    ·exact .inr ⟨_,_,if_pos hb⟩
    ·exact .inl (if_neg hb)
   ·by_cases hb:b=a
    ·have z':=(if_pos hb).symm.trans z
     cases z'
     subst hb
     exact ⟨ha,by rw [Md];exact hl,vs,_,rv,ha⟩
    ·have z':=(if_neg hb).symm.trans z
     cases z'
   ·by_cases hb:b=a
    ·exact hb
    ·exact absurd (if_neg hb) z
end L2
namespace L2
open PySem PySem.Spec PyProof.Rows
theorem CJ {l:PySem.W.OpenLaw}{n k:Nat}{q:Ms}{loose:List Str}{XP:(Str->Option LY)->Heap->Prop}{YP:Mv->Heap->Prop}{d:DefRec}{K:Nq->LX}{CX:Mv->mH}{sp:Mv->Sp}{x:Str}
 (hn:l.most=some n) (hn2:n<=sizeLine) (hdf:d.params.defaults=[]) (hr:bC k callerA)
 (hY:∀(w:Mv) (h:Heap),YP w h->(K w.params).In h)
 (F:∀(w:Mv) (mg:Str->Option LY) (fa:Addr) (h:Heap),(K w.params).In h->h.Ns mainGlobals mg->mg d.name=some (.ref fa)->
  ∃fd:N8,(∀(s:L4) (u:LY),BindsTo s fd ⟨[u],[]⟩ [(x,u)])/\
   ∀base:Heap,(K w.params).In base->base.Ns mainGlobals mg->fG l.prog w (K w.params) mg base (CX w) k fa fd [x] (sp w))
 (hsp:∀(w:Mv) (H:Hp) (a:Addr) (ns:List Int),ns.length<=n->wb H->bV (K w.params) H a (ns.map V.int)->sp w [.ref a] H (fun v _=>v=.bl true) fun _ _ _=>False)
 (hCX:∀(w:Mv) (H:Hp) (s:L4) (e:LY) (s':L4),CX w [] H s (fun _ _ _=>False) e s'->False) :
 PySem.W.WalkO q loose XP YP l.row.toRowW d [] (fun f vs=>PySem.call f vs):=by
 refine Att.attach_call hn hdf fun w s₀ s₁ mg mb fa o pm cd doc a vs ns G Y ho hd hcd hmg hobj hints hlen hg=>?_
 have KX:=hY w _ Y
 obtain ⟨fd,hb,hF⟩:=F w mg fa _ KX G.T.g hmg
 exact Ay KX G.T.g G.T.b G.T.builtins G.T.nolimit hg hobj hints (Mb hlen hn2) hr hF hb (fun H hO hS=>hsp w H a ns hlen hO hS) fun H e s'=>hCX w H s₁ e s'
end L2
namespace L2
open PySem PySem.Spec PyProof.Rows
noncomputable def inClass (s:Stmt)(j:Nat):Stmt:=match s with
 |.ClassDef _ _ _ body _ _ _ _ _ _ _=>body.getD j (.Pass ⟨0,0,0,0⟩)
 |_=>.Pass ⟨0,0,0,0⟩
noncomputable def eZ (s:Stmt):Arguments:=match s with
 |.FunctionDef _ a _ _ _ _ _ _ _ _=>a
 |_=>{posonlyargs:=[],args:=[],vararg:=none,kwonlyargs:=[],kw_defaults:=[],kwarg:=none,defaults:=[]}
noncomputable def cp (s:Stmt):List Stmt:=match s with
 |.FunctionDef _ _ b _ _ _ _ _ _ _=>b
 |_=>[]
noncomputable def aK (s:Stmt):Scope:=match s with
 |.FunctionDef _ _ _ _ _ _ sc _ _ _=>sc
 |_=>{kind:=.function,names:=[],isGenerator:=false,isCoroutine:=false}
abbrev E0:XK:=fun _ _ _=>False
structure oE (K:LX) (x qual:Str) (st:Stmt) (f:Addr) (fd:N8):Prop where
 ex:∃(oc:LY) (od:Option Addr) (kV doc pm:LY) (an:Option Addr) (cdv ct:LY) (osl:Array (Option LY)),
  fd=PySem.W.fnOf x qual (eZ st) (cp st) (aK st) .none kV doc pm an cdv ct/\K.lookup f=some ⟨oc,od,.func fd,osl⟩/\PySem.W.codeIn K cdv qual=true
 kp:PySem.W.keepIn K (.ref f)=true
section
variable {P:Ms}{w:Mv}{K:LX}{mg:Str->Option LY}{base:Heap}
theorem oE.binds {x qual:Str}{st:Stmt}{f:Addr}{fd:N8}{ps:List Str}(F:oE K x qual st f fd)
 (h:∀(kV doc pm:LY) (an:Option Addr) (cdv ct:LY) (us:List LY),us.length=ps.length->bindArgs (PySem.W.fnOf x qual (eZ st) (cp st) (aK st) .none kV doc pm an cdv ct) ⟨us,[]⟩=pure (ps.zip us)):Binds K fd ps []:=by
 obtain ⟨oc,od,kV,doc,pm,an,cdv,ct,osl,rfl,lk,hcd⟩:=F.ex
 exact .all (h kV doc pm an cdv ct)
theorem yw {x qual:Str}{st:Stmt}{f:Addr}{oc:LY}{od an:Option Addr}{osl:Array (Option LY)}{kV doc pm cdv ct:LY}(l:K.lookup f=some ⟨oc,od,.func (PySem.W.fnOf x qual (eZ st) (cp st) (aK st) .none kV doc pm an cdv ct),osl⟩)
 (c:PySem.W.codeIn K cdv qual=true) (k:PySem.W.keepIn K (.ref f)=true):oE K x qual st f (PySem.W.fnOf x qual (eZ st) (cp st) (aK st) .none kV doc pm an cdv ct):=⟨⟨oc,od,kV,doc,pm,an,cdv,ct,osl,rfl,l,c⟩,k⟩
end
end L2
namespace LD
open PySem
inductive D where
 |non|bl (b:Bool)|int (i:Int)|str (x:Str)|tup (ds:List D)|lst (ds:List D)|frz (ds:List D)|cell (k:Nat)|fn (f:Nat)|exc (c:Nat) (p:Option Int)
 deriving Inhabited
abbrev Mem:=List (List D)
abbrev Env:=List (Option D)
inductive Res (α:Type) where
 |ok (a:α) (M:Mem)
 |err (x:D) (M:Mem)
 |bad
noncomputable def Res.bind {α β:Type}(r:Res α)(f:α->Mem->Res β):Res β:=match r with
 |.ok a M=>f a M
 |.err x M=>.err x M
 |.bad=>.bad
@[simp] theorem Res.bind_ok {α β:Type}(a:α)(M:Mem)(f:α->Mem->Res β):(Res.ok a M).bind f=f a M:=rfl
@[simp] theorem Res.bind_err {α β:Type}(x:D)(M:Mem)(f:α->Mem->Res β):(Res.err x M:Res α).bind f=.err x M:=rfl
@[simp] theorem Res.bind_bad {α β:Type}(f:α->Mem->Res β):(Res.bad:Res α).bind f=.bad:=rfl
inductive mI where
 |add|sub|mul|fdiv|mod|pow
 deriving DecidableEq
inductive iw where
 |eq|ne|lt|le|gt|ge|isN|notN|isin|notin
 deriving DecidableEq
inductive Ty where
 |int|bool|str|tuple|list|own (c:Str)
 deriving DecidableEq
inductive tD where
 |len|tuple|list (m:Bool)|listR (m:Bool)|all|sum|repr
 deriving DecidableEq
inductive cD where
 |one (i:Nat)
 |tup (l:List Nat)
noncomputable def sz:Nat:=16777216
noncomputable def a9 (m:Bool)(ds:List D)(M:Mem):Res D:=if ds.length<=sz then (if m then .ok (.cell M.length) (M++[ds]) else .ok (.lst ds) M) else .bad
noncomputable def ka (ds:List D)(M:Mem):Res D:=if ds.length<=sz then .ok (.tup ds) M else .bad
noncomputable def bL (M:Mem):D->Option (List D)
 |.lst ds=>some ds
 |.tup ds=>some ds
 |.frz ds=>some ds
 |.cell k=>M[k]?
 |_=>none
noncomputable def d8 (M:Mem):D->Option (List D)
 |.lst ds=>some ds
 |.frz ds=>some ds
 |.cell k=>M[k]?
 |_=>none
noncomputable def ja (M:Mem):D->Option (List D)
 |.lst ds=>some ds
 |.cell k=>M[k]?
 |_=>none
noncomputable def aC:Nat->D->Bool
 |_,.non=>true
 |_,.bl _=>true
 |_,.int _=>true
 |_,.str x=>x.cps.all (· < 0x110000)
 |n+1,.tup ds=>ds.all (aC n)
 |n+1,.lst ds=>ds.all (aC n)
 |0,.tup _=>false
 |0,.lst _=>false
 |_,.frz _=>false
 |_,.cell _=>false
 |_,.fn _=>false
 |_,.exc _ _=>false
mutual
noncomputable def gy:D->D->Bool
 |.non,.non=>true
 |.bl a,.bl b=>a==b
 |.bl a,.int b=>(if a then 1 else 0)==b
 |.int a,.bl b=>a==(if b then 1 else 0)
 |.int a,.int b=>a==b
 |.str a,.str b=>a==b
 |.tup a,.tup b=>jD a b
 |.lst a,.lst b=>jD a b
 |_,_=>false
noncomputable def jD:List D->List D->Bool
 |[],[]=>true
 |a::r,b::t=>gy a b&&jD r t
 |[],_::_=>false
 |_::_,[]=>false
end
noncomputable def gE:D->Bool
 |.str _=>true
 |_=>false
noncomputable def sH (a b:D):Option Bool:=if gE a&&gE b||aC 64 a&&aC 64 b then some (gy a b) else none
noncomputable def view (M:Mem):D->D
 | .cell k => match M[k]? with
   |some ds=>.lst ds
   |none=>.cell k
 |.frz ds=>.lst ds
 |d=>d
noncomputable def cQ:Nat->Mem->D->D
 |0,_,d=>d
 | n + 1, M, .cell k => match M[k]? with
   |some ds=>.lst (ds.map (cQ n M))
   |none=>.cell k
 |n+1,M,.frz ds=>.lst (ds.map (cQ n M))
 |n+1,M,.lst ds=>.lst (ds.map (cQ n M))
 |n+1,M,.tup ds=>.tup (ds.map (cQ n M))
 |_+1,_,d=>d
noncomputable def lA (M:Mem)(a b:D):Option Bool:=match sH (view M a) (view M b) with
 |some r=>some r
 |none=>sH (cQ 64 M a) (cQ 64 M b)
noncomputable def jA (M:Mem):D->Option Bool
 |.non=>some false
 |.bl b=>some b
 |.int i=>some (i != 0)
 |.str x=>if x.cps.size<=sz then some (x.cps.size != 0) else none
 |.tup ds=>some (!ds.isEmpty)
 |.lst ds=>some (!ds.isEmpty)
 |.frz ds=>some (!ds.isEmpty)
 |.cell k=>(M[k]?).map fun ds=>!ds.isEmpty
 |.fn _=>none
 |.exc _ _=>none
noncomputable def bz (n:Nat)(i:Int):Option Nat:=if 0<=i then (if i<n then some i.toNat else none) else if -(n:Int)<=i then some (i+n).toNat else none
noncomputable def gL (m:Bool)(o:mI)(a b:D)(M:Mem):Res D:=match o,a,b with
 |.add,.int i,.int j=>.ok (.int (i+j)) M
 |.add,.str x,.str y=>if x.cps.size+y.cps.size<=sz then .ok (.str ⟨x.cps++y.cps⟩) M else .bad
 |.add,.tup x,.tup y=>ka (x++y) M
 | .add, a, b => match ja M a, ja M b with
   |some x,some y=>a9 m (x++y) M
   |_,_=>.bad
 |.sub,.int i,.int j=>.ok (.int (i-j)) M
 |.mul,.int i,.int j=>if (-(2^64)<i/\i<2^64)\/(-(2^64)<j/\j<2^64) then .ok (.int (i*j)) M else .bad
 |.mul,.tup x,.int j=>if x.length*j.toNat<=sz/\-(2^63)<=j/\j<2^63 then .ok (.tup (List.replicate j.toNat x).flatten) M else .bad
 | .mul, a, .int j => match ja M a with
   |some x=>if x.length*j.toNat<=sz/\-(2^63)<=j/\j<2^63 then a9 m (List.replicate j.toNat x).flatten M else .bad
   |none=>.bad
 |.fdiv,.int i,.int j=>if 0<j/\j<1073741824 then .ok (.int (i / j)) M else .bad
 |.mod,.int i,.int j=>if 0<j then .ok (.int (i % j)) M else .bad
 |.pow,.int i,.int j=>if 0<=j/\j<=1000000/\i.natAbs<2^64 then .ok (.int (i^j.toNat)) M else .bad
 |_,_,_=>.bad
noncomputable def kY (x:D)(ds:List D):Option Bool:=if aC 64 x&&ds.all (aC 63) then some (ds.any fun y=>gy y x) else none
noncomputable def nI (x y:Str):Bool:=!(Builtin.Str.occurrences y x 0 y.length 1).isEmpty
noncomputable def gX:D->Bool
 |.non=>true
 |_=>false
noncomputable def bJ (o:iw)(a b:D)(M:Mem):Option Bool:=match o,a,b with
 |.eq,a,b=>lA M a b
 |.ne,a,b=>(lA M a b).map (!·)
 |.lt,.int i,.int j=>some (decide (i<j))
 |.le,.int i,.int j=>some (decide (i<=j))
 |.gt,.int i,.int j=>some (decide (j<i))
 |.ge,.int i,.int j=>some (decide (j<=i))
 |.isN,a,.non=>some (gX a)
 |.notN,a,.non=>some (!gX a)
 |.isin,.str x,.str y=>some (nI x y)
 |.notin,.str x,.str y=>some (!nI x y)
 |.isin,a,b=>(bL M b).bind (kY (view M a))
 |.notin,a,b=>((bL M b).bind (kY (view M a))).map (!·)
 |_,_,_=>none
noncomputable def cu (a i:D)(M:Mem):Option D:=match a,i with
 |.str x,.int i=>if x.cps.size<=sz then (bz x.cps.size i).bind fun j=>(x.cps[j]?).map fun c=>.str ⟨#[c]⟩ else none
 |a,.int i=>(bL M a).bind fun ds=>(bz ds.length i).bind fun j=>ds[j]?
 |_,_=>none
noncomputable def aI (n d:Nat):D->Option Nat
 |.non=>some d
 |.int v=>some (if v<0 then (v+(n:Int)).toNat else min v.toNat n)
 |_=>none
noncomputable def c9:Bool->D->Bool
 |true,.int _=>true
 |false,.non=>true
 |_,_=>false
noncomputable def cut {α:Type}(xs:List α)(lo hi:Nat):List α:=(xs.drop lo).take (hi-lo)
noncomputable def fE (m:Bool)(a lo hi:D)(M:Mem):Res D:=match a with
 | .tup xs => match aI xs.length 0 lo, aI xs.length xs.length hi with
   |some l,some h=>.ok (.tup (cut xs l h)) M
   |_,_=>.bad
 | a => match d8 M a with
   | some xs => match aI xs.length 0 lo, aI xs.length xs.length hi with
     |some l,some h=>a9 m (cut xs l h) M
     |_,_=>.bad
   |none=>.bad
noncomputable def dA (t:Ty):D->Option Bool
 |.non=>some false
 |.bl _=>some (t==.bool||t==.int)
 |.int _=>some (t==.int)
 |.str _=>some (t==.str)
 |.tup _=>some (t==.tuple)
 |.lst _=>some (t==.list)
 |.frz _=>some (t==.list)
 |.cell _=>some (t==.list)
 |.fn _=>none
 |.exc _ _=>none
noncomputable def boolsOf:List D->Option (List Bool)
 |[]=>some []
 |.bl b::r=>(boolsOf r).map (b::·)
 |_=>none
noncomputable def intsOf:List D->Option (List Int)
 |[]=>some []
 |.int b::r=>(intsOf r).map (b::·)
 |_=>none
noncomputable def dq (f:tD)(ds:List D)(M:Mem):Res D:=match f,ds with
 |.len,[.str x]=>if x.cps.size<=sz then .ok (.int x.cps.size) M else .bad
 | .len, [d] => match bL M d with
   |some xs=>.ok (.int xs.length) M
   |none=>.bad
 |.tuple,[.tup xs]=>.ok (.tup xs) M
 | .tuple, [d] => match d8 M d with
   |some xs=>.ok (.tup xs) M
   |none=>.bad
 | .list m, [d] => match bL M d with
   |some xs=>a9 m xs M
   |none=>.bad
 |.listR m,[.int n]=>if n<2^20 then a9 m ((List.range n.toNat).map fun (k:Nat)=>D.int (k:Int)) M else .bad
 | .all, [d] => match d8 M d with
   | some xs => match boolsOf xs with
     |some bs=>.ok (.bl (bs.all id)) M
     |none=>.bad
   |none=>.bad
 | .sum, [d] => match d8 M d with
   | some xs => match intsOf xs with
     |some is=>.ok (.int is.sum) M
     |none=>.bad
   |none=>.bad
 |_,_=>.bad
noncomputable def eI:List Nat->List D->Env->Option Env
 |[],[],Z=>some Z
 |i::l,d::ds,Z=>eI l ds (Z.set i (some d))
 |_,_,_=>none
noncomputable def b7 (t:cD)(d:D)(Z:Env):Option Env:=match t,d with
 |.one i,d=>some (Z.set i (some d))
 |.tup l,.tup ds=>eI l ds Z
 |.tup _,_=>none
abbrev Walk:=Mem->Option (List D)
noncomputable def dE:Nat->List D->List D
 |_,[]=>[]
 |k,d::r=>.tup [.int k,d]::dE (k+1) r
noncomputable def gF:List D->List D->List D
 |a::r,b::t=>.tup [a,b]::gF r t
 |_,_=>[]
noncomputable def eV:List D->List D->List D->List D
 |a::r,b::t,c::q=>.tup [a,b,c]::eV r t q
 |_,_,_=>[]
noncomputable def Cb {α:Type}(f:α->D->Mem->Res α):List D->α->Mem->Res α
 |[],a,M=>.ok a M
 |d::r,a,M=>(f a d M).bind (Cb f r)
noncomputable def dX {α:Type}(f:α->D->Mem->Res α)(w:Walk):Nat->Nat->α->Mem->Res α
 |0,_,_,_=>.bad
 | n + 1, i, a, M => match w M with
   |none=>.bad
   | some ds => match ds[i]? with
     |none=>.ok a M
     |some d=>(f a d M).bind (dX f w n (i+1))
noncomputable def c6 {α:Type}(f:α->D->Mem->Res α)(w:Walk)(a:α)(M:Mem):Res α:=dX f w (((w M).getD []).length+1) 0 a M
noncomputable def bR {α:Type}(M:Mem):Option α->Res α
 |some a=>.ok a M
 |none=>.bad
@[simp] theorem KD {α:Type}(M:Mem)(a:α):bR M (some a)=.ok a M:=rfl
@[simp] theorem KG {α:Type}(M:Mem):(bR M none:Res α)=.bad:=rfl
inductive Fl where
 |next (Z:Env)
 |ret (d:D)
 |exc (x:D) (Z:Env)
end LD
namespace LD
open PySem PySem.Spec PyProof.Rows L2
structure Mu where
 pub:Nat->Option Addr
 priv:List Addr
 ob:Nat->Option Addr
noncomputable def Mu.Mt (μ:Mu)(a:Addr):Prop:=(∃k,μ.pub k=some a)\/a∈μ.priv
abbrev Fa:=Nat->Option Addr
noncomputable def KL (K:LX)(a:Addr)(xs:List V):Prop:=
 ∃(o:Obj) (its:Array LY) (n:Nat),K.lookup a=some o/\o.cls=.type "list"/\o.dict=none/\o.data=.seq its n/\its.size<=sizeLine/\Vals xs its.toList
noncomputable def XAt (C:Addr)(dx:Option Addr)(a:Addr)(h:Heap):Prop:=∃o vs,h.get? a=some o/\o.cls=.ref C/\o.dict=dx/\o.data=.fields vs/\1<vs.size
noncomputable def fV (c:Nat):Str:=if c=1 then "number" else "place"
noncomputable def v8 (H:Hp)(c:Nat)(dx:Option Addr):Option Int->Prop
 |none=>dx=none
 |some i=>∃d,dx=some d/\H d=some (.xd [(fV c,.int i)])
noncomputable def eE (c:Nat):Nat:=1000+c
noncomputable def i7 (c:Nat):Nat:=900+c
section
variable (fa:Fa)(K:LX)(μ:Mu)(H:Hp)
mutual
noncomputable def Rep:D->V->Prop
 |.non,v=>v=.non
 |.bl b,v=>v=.bl b
 |.int i,v=>v=.int i
 |.str x,v=>v=.str x
 |.tup ds,v=>∃a vs,v=.ref a/\cZ K H a vs/\aF ds vs
 |.lst ds,v=>∃a vs,v=.ref a/\(H a=some (.lst vs)/\¬ μ.Mt a)/\aF ds vs
 |.frz ds,v=>∃a vs,v=.ref a/\((∃ob,H a=some (.frz ob (.lst vs)))\/KL K a vs)/\aF ds vs
 |.cell k,v=>∃a,v=.ref a/\μ.pub k=some a
 |.fn f,v=>∃a,v=.ref a/\(fa f=some a\/(fa f=none/\μ.ob f=some a))
 |.exc c p,v=>∃a C dx,v=.ref a/\fa (eE c)=some C/\H a=some (.ext (XAt C dx a))/\v8 H c dx p
noncomputable def aF:List D->List V->Prop
 |[],vs=>vs=[]
 |d::ds,vs=>∃v r,vs=v::r/\Rep d v/\aF ds r
end
end
noncomputable def IsX (o:HO):Prop:=(∃φ,o=.ext φ)\/∃fs,o=.xd fs
structure ExtW (μ:Mu) (H:Hp) (μ':Mu) (H':Hp):Prop where
 mu:∀k a,μ.pub k=some a->μ'.pub k=some a
 tups:∀a vs,Rd H a (.tup vs)->Rd H' a (.tup vs)
 lsts:∀a vs,H a=some (.lst vs)->¬ μ.Mt a->H' a=some (.lst vs)/\¬ μ'.Mt a
 frzs:∀a ob u,H a=some (.frz ob u)->H' a=some (.frz ob u)
 exts:∀a o,IsX o->H a=some o->H' a=some o
 obs:∀k a,μ.ob k=some a->μ'.ob k=some a
structure Ext (μ:Mu) (H:Hp) (μ':Mu) (H':Hp):Prop extends ExtW μ H μ' H' where
 pr:μ'.priv=μ.priv
 pk:∀a∈μ.priv,H' a=H a
theorem ExtW.refl {μ:Mu}{H:Hp}:ExtW μ H μ H:=⟨fun _ _ h=>h,fun _ _ h=>h,fun _ _ h n=>⟨h,n⟩,fun _ _ _ h=>h,fun _ _ _ h=>h,fun _ _ h=>h⟩
theorem ExtW.trans {μ μ1 μ2:Mu}{H H1 H2:Hp}(a:ExtW μ H μ1 H1)(b:ExtW μ1 H1 μ2 H2):ExtW μ H μ2 H2:=
 ⟨fun k x h=>b.mu k x (a.mu k x h),fun x vs h=>b.tups x vs (a.tups x vs h),fun x vs h n=>b.lsts x vs (a.lsts x vs h n).1 (a.lsts x vs h n).2,fun x ob u h=>b.frzs x ob u (a.frzs x ob u h),fun x o i h=>b.exts x o i (a.exts x o i h),fun k x h=>b.obs k x (a.obs k x h)⟩
theorem Ext.refl {μ:Mu}{H:Hp}:Ext μ H μ H:=⟨.refl,rfl,fun _ _=>rfl⟩
theorem Ext.trans {μ μ1 μ2:Mu}{H H1 H2:Hp}(a:Ext μ H μ1 H1)(b:Ext μ1 H1 μ2 H2):Ext μ H μ2 H2:=
 ⟨a.toExtW.trans b.toExtW,b.pr.trans a.pr,fun x hx=>(b.pk x (by rw [a.pr];exact hx)).trans (a.pk x hx)⟩
section
variable {fa:Fa}{K:LX}{μ μ':Mu}{H H':Hp}
theorem ExtW.sqT {a:Addr}{vs:List V}(x:ExtW μ H μ' H')(h:cZ K H a vs):cZ K H' a vs:=h.elim (fun z=>.inl (x.tups a vs z)) .inr
mutual
theorem Rep.extW (x:ExtW μ H μ' H'):∀{d:D}{v:V},Rep fa K μ H d v->Rep fa K μ' H' d v
 |.non,v,h=>h
 |.bl b,v,h=>h
 |.int i,v,h=>h
 |.str y,v,h=>h
 | .tup ds, v, h => by
   obtain ⟨a,vs,e,s,r⟩:=h
   exact ⟨a,vs,e,x.sqT s,aF.extW x r⟩
 | .lst ds, v, h => by
   obtain ⟨a,vs,e,s,r⟩:=h
   exact ⟨a,vs,e,x.lsts a vs s.1 s.2,aF.extW x r⟩
 | .frz ds, v, h => by
   obtain ⟨a,vs,e,s,r⟩:=h
   exact ⟨a,vs,e,s.elim (fun ⟨ob,z⟩=>.inl ⟨ob,x.frzs a ob _ z⟩) .inr,aF.extW x r⟩
 | .cell k, v, h => by
   obtain ⟨a,e,m⟩:=h
   exact ⟨a,e,x.mu k a m⟩
 | .fn f, v, h => by
   obtain ⟨a,e,m⟩:=h
   exact ⟨a,e,m.imp id fun z=>⟨z.1,x.obs _ _ z.2⟩⟩
 | .exc c p, v, h => by
   obtain ⟨a,C,dx,e,f,g,n⟩:=h
   refine ⟨a,C,dx,e,f,x.exts _ _ (.inl ⟨_,rfl⟩) g,?_⟩
   cases p with
   |none=>exact n
   |some i=>exact let ⟨d,h1,h2⟩:=n;⟨d,h1,x.exts _ _ (.inr ⟨_,rfl⟩) h2⟩
theorem aF.extW (x:ExtW μ H μ' H'):∀{ds:List D}{vs:List V},aF fa K μ H ds vs->aF fa K μ' H' ds vs
 |[],vs,h=>h
 | d :: ds, vs, h => by
   obtain ⟨v,r,e,p,q⟩:=h
   exact ⟨v,r,e,Rep.extW x p,aF.extW x q⟩
end
theorem Rep.ext (x:Ext μ H μ' H'){d:D}{v:V}(h:Rep fa K μ H d v):Rep fa K μ' H' d v:=Rep.extW x.toExtW h
theorem aF.ext (x:Ext μ H μ' H'){d:List D}{v:List V}(h:aF fa K μ H d v):aF fa K μ' H' d v:=aF.extW x.toExtW h
theorem aF.length:∀{ds:List D}{vs:List V},aF fa K μ H ds vs->vs.length=ds.length
 | [], vs, h => by
   have h:vs=[]:=h
   subst h;rfl
 | d :: ds, vs, h => by
   obtain ⟨v,r,e,p,q⟩:=h
   subst e
   simp [aF.length q]
theorem aF.get:∀{ds:List D}{vs:List V}{i:Nat}{d:D},aF fa K μ H ds vs->ds[i]?=some d->∃v,vs[i]?=some v/\Rep fa K μ H d v
 |[],_,_,_,_,e=>by simp at e
 | d :: ds, vs, 0, d', h, e => by
   obtain ⟨v,r,rfl,p,q⟩:=h
   simp at e;subst e
   exact ⟨v,rfl,p⟩
 | d :: ds, vs, i + 1, d', h, e => by
   obtain ⟨v,r,rfl,p,q⟩:=h
   obtain ⟨u,h1,h2⟩:=aF.get (i:=i) q (by simpa using e)
   exact ⟨u,by simpa using h1,h2⟩
theorem aF.append:∀{ds es:List D}{vs ws:List V},aF fa K μ H ds vs->aF fa K μ H es ws->aF fa K μ H (ds++es) (vs++ws)
 | [], _, vs, _, h, g => by
   have h:vs=[]:=h
   subst h;exact g
 | d :: ds, es, vs, ws, h, g => by
   obtain ⟨v,r,rfl,p,q⟩:=h
   exact ⟨v,r++ws,rfl,p,aF.append q g⟩
theorem aF.one {d:D}{v:V}(h:Rep fa K μ H d v):aF fa K μ H [d] [v]:=⟨v,[],rfl,h,rfl⟩
theorem aF.drop:∀(n:Nat) {ds:List D}{vs:List V},aF fa K μ H ds vs->aF fa K μ H (ds.drop n) (vs.drop n)
 |0,_,_,h=>h
 | n + 1, [], vs, h => by
   have h:vs=[]:=h
   subst h;exact rfl
 | n + 1, d :: ds, vs, h => by
   obtain ⟨v,r,rfl,p,q⟩:=h
   exact aF.drop n q
theorem aF.take:∀(n:Nat) {ds:List D}{vs:List V},aF fa K μ H ds vs->aF fa K μ H (ds.take n) (vs.take n)
 |0,_,_,h=>rfl
 | n + 1, [], vs, h => by
   have h:vs=[]:=h
   subst h;exact rfl
 | n + 1, d :: ds, vs, h => by
   obtain ⟨v,r,rfl,p,q⟩:=h
   exact ⟨v,r.take n,rfl,p,aF.take n q⟩
theorem aF.set:∀(n:Nat) {ds:List D}{vs:List V}{d:D}{v:V},aF fa K μ H ds vs->Rep fa K μ H d v->aF fa K μ H (ds.set n d) (vs.set n v)
 | _, [], vs, _, _, h, _ => by
   have h:vs=[]:=h
   subst h;exact rfl
 | 0, d :: ds, vs, _, v', h, g => by
   obtain ⟨v,r,rfl,p,q⟩:=h
   exact ⟨v',r,rfl,g,q⟩
 | n + 1, d :: ds, vs, _, v', h, g => by
   obtain ⟨v,r,rfl,p,q⟩:=h
   exact ⟨v,r.set n v',rfl,p,aF.set n q g⟩
theorem aF.reverse:∀{ds:List D}{vs:List V},aF fa K μ H ds vs->aF fa K μ H ds.reverse vs.reverse
 | [], vs, h => by
   have h:vs=[]:=h
   subst h;exact rfl
 | d :: ds, vs, h => by
   obtain ⟨v,r,rfl,p,q⟩:=h
   rw [NT,NT]
   exact aF.append (aF.reverse q) (.one p)
theorem aF.rep:∀(n:Nat) {ds:List D}{vs:List V},aF fa K μ H ds vs->aF fa K μ H (List.replicate n ds).flatten (List.replicate n vs).flatten
 |0,_,_,_=>rfl
 | n + 1, ds, vs, h => by
   rw [ND,ND,NU,NU]
   exact h.append (aF.rep n h)
theorem aF.ints:∀(ns:List Int),aF fa K μ H (ns.map D.int) (ns.map V.int)
 |[]=>rfl
 |n::ns=>⟨.int n,ns.map V.int,rfl,rfl,aF.ints ns⟩
end
noncomputable def cm:Nat->List Str
 |40=>["machine","standing","earlier"]
 |_=>[]
noncomputable def aQ (k:Nat):Nat:=5000+k
noncomputable def JJ (fa:Fa)(K:LX)(μ:Mu)(H:Hp)(k:Nat)(ds:List D):Prop:=
 (∃a vs,μ.pub k=some a/\H a=some (.lst vs)/\aF fa K μ H ds vs)\/
 ∃a c C dx fs es,μ.ob (aQ k)=some a/\μ.pub k=none/\fa (i7 c)=some C/\H a=some (.ins C dx fs)/\fs.map (·.1)=(cm c).take fs.length/\ds=.int c::es/\aF fa K μ H es (fs.map (·.2))
structure RelM (fa:Fa) (K:LX) (μ:Mu) (H:Hp) (M:Mem):Prop where
 at':∀(k:Nat) (ds:List D),M[k]?=some ds->JJ fa K μ H k ds
 out:∀(k:Nat),M.length<=k->μ.pub k=none
 oout:∀(k:Nat),M.length<=k->μ.ob (aQ k)=none
 inj:∀j k a,μ.pub j=some a->μ.pub k=some a->j=k
 oinj:∀j k a,μ.ob (aQ j)=some a->μ.ob (aQ k)=some a->j=k
 sep:∀k a,μ.pub k=some a->μ.ob (aQ k)=none
 pv:∀a∈μ.priv,(∃vs,H a=some (.lst vs))/\∀k,μ.pub k≠some a
structure a7 (fa:Fa) (K:LX) (μ:Mu) (H:Hp) (σ:L2.St) (Z:Env):Prop where
 len:σ.length=Z.length
 at':∀(i:Nat) (d:D),Z[i]?=some (some d)->∃v,σ[i]?=some (some v)/\Rep fa K μ H d v
section
variable {fa:Fa}{K:LX}{μ μ':Mu}{H H':Hp}{σ:L2.St}{Z:Env}{M:Mem}
theorem a7.ext (h:a7 fa K μ H σ Z)(x:Ext μ H μ' H'):a7 fa K μ' H' σ Z:=
 ⟨h.len,fun i d e=>let ⟨v,h1,h2⟩:=h.at' i d e;⟨v,h1,h2.ext x⟩⟩
theorem a7.set (h:a7 fa K μ H σ Z){i:Nat}{d:D}{v:V}(r:Rep fa K μ H d v):a7 fa K μ H (σ.set i (some v)) (Z.set i (some d)):=by
 refine ⟨by simp [h.len],fun j d' e=>?_⟩
 by_cases hj:j=i
 ·subst hj
  have hl:j<Z.length:=by
   have:=(LZ.mp e).1
   simpa using this
  rw [Mn hl] at e
  cases e
  exact ⟨v,Mn (by rw [h.len];exact hl),r⟩
 ·rw [Mc (Ng hj)] at e
  obtain ⟨u,h1,h2⟩:=h.at' j d' e
  exact ⟨u,by rw [Mc (Ng hj)];exact h1,h2⟩
theorem a7.extW (h:a7 fa K μ H σ Z)(x:ExtW μ H μ' H'):a7 fa K μ' H' σ Z:=
 ⟨h.len,fun i d e=>let ⟨v,h1,h2⟩:=h.at' i d e;⟨v,h1,h2.extW x⟩⟩
theorem RelM.mu_lt (h:RelM fa K μ H M){k:Nat}{a:Addr}(e:μ.pub k=some a):∃ds vs,M[k]?=some ds/\H a=some (.lst vs)/\aF fa K μ H ds vs:=by
 by_cases hk:k<M.length
 ·rcases h.at' k M[k] (by simp [hk]) with ⟨a',vs,h1,h2,h3⟩|⟨_,_,_,_,_,_,_,z,_⟩
  ·rw [e] at h1;cases h1
   exact ⟨_,vs,by simp [hk],h2,h3⟩
  ·rw [e] at z;cases z
 ·rw [h.out k (by omega)] at e;cases e
theorem RelM.at_ (h:RelM fa K μ H M){k:Nat}{ds:List D}{a:Addr}(e:M[k]?=some ds)(p:μ.pub k=some a):∃vs,H a=some (.lst vs)/\aF fa K μ H ds vs:=by
 obtain ⟨ds',vs,h1,h2,h3⟩:=h.mu_lt p
 rw [e] at h1;cases h1
 exact ⟨vs,h2,h3⟩
theorem RelM.fresh (h:RelM fa K μ H M){p:Addr}(hp:H p=none):¬ μ.Mt p:=fun e=>by
 rcases e with ⟨k,e⟩|e
 ·obtain ⟨ds,vs,_,h2,_⟩:=h.mu_lt e
  rw [hp] at h2;cases h2
 ·obtain ⟨⟨vs,h2⟩,_⟩:=h.pv p e
  rw [hp] at h2;cases h2
theorem RelM.pne (h:RelM fa K μ H M){p a:Addr}(hp:H p=none)(ha:a∈μ.priv):a≠p:=fun e=>by
 obtain ⟨⟨vs,h2⟩,_⟩:=h.pv a ha
 rw [e,hp] at h2;cases h2
theorem Ext.alloc {p:Addr}{o:HO}(h:RelM fa K μ H M)(hp:H p=none):Ext μ H μ (upd H p o):=by
 have rd:∀a u,Rd H a u->Rd (upd H p o) a u:=fun a u h=>by
  rcases h with h|⟨ob,h⟩
  ·exact .inl (by rw [ax (aO h hp)];exact h)
  ·exact .inr ⟨ob,by rw [ax (aO h hp)];exact h⟩
 exact ⟨⟨fun _ _ h=>h,fun a vs h=>rd a _ h,fun a vs h n=>⟨by rw [ax (aO h hp)];exact h,n⟩,fun a ob u h=>by rw [ax (aO h hp)];exact h,fun a o _ h=>by rw [ax (aO h hp)];exact h,fun _ _ h=>h⟩,rfl,fun a ha=>by rw [ax (h.pne hp ha)]⟩
theorem RelM.alloc (h:RelM fa K μ H M){p:Addr}{o:HO}(hp:H p=none):RelM fa K μ (upd H p o) M:=
 ⟨fun k ds e=>(h.at' k ds e).imp (fun ⟨a,vs,h1,h2,h3⟩=>⟨a,vs,h1,by rw [ax (aO h2 hp)];exact h2,h3.ext (Ext.alloc h hp)⟩) fun ⟨a,c,C,dx,fs,es,h1,h2,h3,h4,h5,h6,h7⟩=>⟨a,c,C,dx,fs,es,h1,h2,h3,by rw [ax (aO h4 hp)];exact h4,h5,h6,h7.ext (Ext.alloc h hp)⟩,h.out,h.oout,h.inj,h.oinj,h.sep,fun a ha=>⟨let ⟨⟨vs,e⟩,_⟩:=h.pv a ha;⟨vs,by rw [ax (h.pne hp ha)];exact e⟩,(h.pv a ha).2⟩⟩
noncomputable def eY (μ:Mu)(n:Nat)(p:Addr):Mu:=⟨fun k=>if k=n then some p else μ.pub k,μ.priv,μ.ob⟩
theorem Ext.cell {p:Addr}{o:HO}(h:RelM fa K μ H M)(hp:H p=none):Ext μ H (eY μ M.length p) (upd H p o):=by
 have rd:∀a u,Rd H a u->Rd (upd H p o) a u:=fun a u h=>by
  rcases h with h|⟨ob,h⟩
  ·exact .inl (by rw [ax (aO h hp)];exact h)
  ·exact .inr ⟨ob,by rw [ax (aO h hp)];exact h⟩
 refine ⟨⟨fun k a e=>?_,fun a vs g=>rd a _ g,fun a vs g n=>⟨by rw [ax (aO g hp)];exact g,fun e=>?_⟩,fun a ob u h=>by rw [ax (aO h hp)];exact h,fun a o _ h=>by rw [ax (aO h hp)];exact h,fun _ _ h=>h⟩,rfl,fun a ha=>by rw [ax (h.pne hp ha)]⟩
 ·show (if k=M.length then some p else μ.pub k)=some a
  split
  ·next q=>rw [q,h.out _ (L7 _)] at e;cases e
  ·exact e
 ·rcases e with ⟨k,e⟩|e
  ·have e:(if k=M.length then some p else μ.pub k)=some a:=e
   split at e
   ·cases e;exact aO g hp rfl
   ·exact n (.inl ⟨k,e⟩)
  ·exact n (.inr e)
theorem RelM.cell (h:RelM fa K μ H M){p:Addr}{ds:List D}{vs:List V}(hp:H p=none)(r:aF fa K μ H ds vs) :
 RelM fa K (eY μ M.length p) (upd H p (.lst vs)) (M++[ds]):=by
 have x:Ext μ H (eY μ M.length p) (upd H p (.lst vs)):=Ext.cell h hp
 have np:=h.fresh hp
 refine ⟨fun k ds' e=>?_,fun k hk=>?_,fun k hk=>h.oout k (by simp at hk;omega),fun j k a h1 h2=>?_,h.oinj,fun k a z=>?_,fun a ha=>?_⟩
 ·by_cases hk:k<M.length
  ·rw [Mw hk] at e
   rcases h.at' k ds' e with ⟨a,ws,h1,h2,h3⟩|⟨a,c,C,dx,fs,es,h1,h2,h3,h4,h5,h6,h7⟩
   ·exact .inl ⟨a,ws,x.mu k a h1,by rw [ax (aO h2 hp)];exact h2,h3.ext x⟩
   ·exact .inr ⟨a,c,C,dx,fs,es,h1,by show (if k=M.length then some p else μ.pub k)=none;rw [if_neg (MO hk)];exact h2,h3,by rw [ax (aO h4 hp)];exact h4,h5,h6,h7.ext x⟩
  ·have hk':k=M.length:=by
    have:=(LZ.mp e).1
    simp at this;omega
   subst hk'
   rw [ME (L7 _)] at e
   simp at e
   subst e
   exact .inl ⟨p,vs,by simp [eY],bw,r.ext x⟩
 ·simp at hk
  show (if k=M.length then some p else μ.pub k)=none
  rw [if_neg (by omega)]
  exact h.out k (by omega)
 ·have h1:(if j=M.length then some p else μ.pub j)=some a:=h1
  have h2:(if k=M.length then some p else μ.pub k)=some a:=h2
  split at h1<;>split at h2
  ·omega
  ·cases h1;exact absurd (.inl ⟨k,h2⟩) np
  ·cases h2;exact absurd (.inl ⟨j,h1⟩) np
  ·exact h.inj j k a h1 h2
 ·have z:(if k=M.length then some p else μ.pub k)=some a:=z
  show μ.ob (aQ k)=none
  split at z
  ·next e=>rw [e];exact h.oout _ (L7 _)
  ·exact h.sep k a z
 ·obtain ⟨⟨ws,e⟩,n⟩:=h.pv a ha
  refine ⟨⟨ws,by rw [ax (h.pne hp ha)];exact e⟩,fun k e2=>?_⟩
  have e2:(if k=M.length then some p else μ.pub k)=some a:=e2
  split at e2
  ·cases e2;exact h.pne hp ha rfl
  ·exact n k e2
theorem ExtW.write {a:Addr}{vs ws:List V}(h2:H a=some (.lst vs))(e:μ.Mt a):ExtW μ H μ (upd H a (.lst ws)):=by
 have ne:∀b u,Rd H b u->(∀xs,u≠.lst xs)->b≠a:=fun b u g nu q=>by
  subst q
  rcases g with g|⟨ob,g⟩
  ·rw [h2] at g;cases g;exact nu _ rfl
  ·rw [h2] at g;cases g
 have rd:∀b u,b≠a->Rd H b u->Rd (upd H a (.lst ws)) b u:=fun b u nb g=>by
  rcases g with g|⟨ob,g⟩
  ·exact .inl (by rw [ax nb];exact g)
  ·exact .inr ⟨ob,by rw [ax nb];exact g⟩
 exact ⟨fun _ _ q=>q,fun b us g=>rd b _ (ne b _ g (fun xs q=>by cases q)) g,fun b us g n=>⟨by rw [ax (fun q=>n (by rw [q];exact e))];exact g,n⟩,fun b ob u g=>by rw [ax (fun q=>by rw [q,h2] at g;cases g)];exact g,fun b o i g=>by rw [ax (fun q=>by rw [q,h2] at g;cases g;rcases i with ⟨_,i⟩|⟨_,i⟩<;>cases i)];exact g,fun _ _ q=>q⟩
theorem Ext.write {k:Nat}{a:Addr}{vs ws:List V}(h:RelM fa K μ H M)(e:μ.pub k=some a):Ext μ H μ (upd H a (.lst ws)):=by
 obtain ⟨ds,vs,_,h2,_⟩:=h.mu_lt e
 exact ⟨ExtW.write h2 (.inl ⟨k,e⟩),rfl,fun b hb=>by rw [ax (fun q=>(h.pv b hb).2 k (by rw [q];exact e))]⟩
theorem RelM.write (h:RelM fa K μ H M){k:Nat}{a:Addr}{ds:List D}{ws:List V}(e:μ.pub k=some a)(r:aF fa K μ H ds ws):RelM fa K μ (upd H a (.lst ws)) (M.set k ds):=by
 have x:Ext μ H μ (upd H a (.lst ws)):=Ext.write (vs:=ws) h e
 refine ⟨fun j es q=>?_,fun j hj=>h.out j (by simpa using hj),fun j hj=>h.oout j (by simpa using hj),h.inj,h.oinj,h.sep,fun b hb=>⟨let ⟨⟨vs,g⟩,_⟩:=h.pv b hb;⟨vs,by rw [x.pk b hb];exact g⟩,(h.pv b hb).2⟩⟩
 by_cases hj:j=k
 ·subst hj
  have hl:j<M.length:=by have:=(LZ.mp q).1;simpa using this
  rw [Mn hl] at q
  cases q
  exact .inl ⟨a,ws,e,bw,r.ext x⟩
 ·rw [Mc (Ng hj)] at q
  rcases h.at' j es q with ⟨b,vs,h1,h2,h3⟩|⟨b,c,C,dx,fs,es,h1,h2,h3,h4,h5,h6,h7⟩
  ·have nb:b≠a:=fun z=>hj (h.inj j k a (z ▸ h1) e)
   exact .inl ⟨b,vs,h1,by rw [ax nb];exact h2,h3.ext x⟩
  ·obtain ⟨_,_,_,hl,_⟩:=h.mu_lt e
   have nb:b≠a:=fun z=>by rw [z,hl] at h4;cases h4
   exact .inr ⟨b,c,C,dx,fs,es,h1,h2,h3,by rw [ax nb];exact h4,h5,h6,h7.ext x⟩
end
noncomputable def ag {α:Type}(r:Res α)(k:α->Mem->Prop):Prop:=match r with
 |.ok a M=>k a M
 |_=>False
theorem aJ {α β:Type}{r:Res α}{f:α->Mem->Res β}{k:β->Mem->Prop}(h:ag (r.bind f) k):∃a M,r=.ok a M/\ag (f a M) k:=by
 cases r with
 |ok a M=>exact ⟨a,M,rfl,h⟩
 |err=>exact h.elim
 |bad=>exact h.elim
theorem jN {α:Type}{M:Mem}{o:Option α}{k:α->Mem->Prop}(h:ag (bR M o) k):∃a,o=some a/\k a M:=by
 cases o with
 |none=>exact h.elim
 |some a=>exact ⟨a,rfl,h⟩
theorem aT {α:Type}{r:Res α}{k k':α->Mem->Prop}(h:ag r k)(m:∀a M,k a M->k' a M):ag r k':=by
 cases r with
 |ok a M=>exact m a M h
 |err=>exact h
 |bad=>exact h
section
variable (fa:Fa)(K:LX)
noncomputable def aZ (μ:Mu)(H:Hp)(Q:VK)(d:D)(M':Mem):Prop:=∀v H' μ',Ext μ H μ' H'->RelM fa K μ' H' M'->Rep fa K μ' H' d v->Q v H'
noncomputable def tE (g:Env->Mem->Res D):TE:=fun σ H Q=>∃μ Z M,a7 fa K μ H σ Z/\RelM fa K μ H M/\ag (g Z M) (aZ fa K μ H Q)
noncomputable def tT (g:Env->Mem->Res Bool):TT:=fun σ H Q=>∃μ Z M,a7 fa K μ H σ Z/\RelM fa K μ H M/\ag (g Z M) fun b M'=>∀H' μ',Ext μ H μ' H'->RelM fa K μ' H' M'->Q b H'
noncomputable def tA (g:Env->Mem->Res (List D)):TA:=fun σ H Q=>∃μ Z M,a7 fa K μ H σ Z/\RelM fa K μ H M/\ag (g Z M) fun ds M'=>∀vs H' μ',Ext μ H μ' H'->RelM fa K μ' H' M'->aF fa K μ' H' ds vs->Q vs H'
end
noncomputable def mF (New:Addr->Prop)(C:Addr)(dx:Option Addr)(a:Addr)(h:Heap)(H:Hp):Prop:=New a/\H a=none/\∃o vs,h.get? a=some o/\o.cls=.ref C/\o.dict=dx/\o.data=.fields vs/\
 (vs[1]?=some .none\/∃T oT ts,vs[1]?=some (.ref T)/\T≠a/\New T/\H T=none/\h.get? T=some oT/\oT.data=.fields ts/\ts[3]?=some .none)
noncomputable def nj (X:Cx)(b:Addr):Prop:=X.s₀.heap.get? b=none/\∀p∈X.pn,p.1≠b
noncomputable def XW (fa:Fa)(X:Cx)(μ:Mu)(H:Hp)(x:D)(Z:Env)(M:Mem):Prop:=∀pins σ' H' μ' s' a C dx c p,Inv X pins σ' H' s'->Ext μ H μ' H'->a7 fa X.K μ' H' σ' Z->RelM fa X.K μ' H' M->x=.exc c p->fa (eE c)=some C->v8 H' c dx p->mF (nj X) C dx a s'.heap H'->X.xe (.ref a) s'
noncomputable def oF (fa:Fa)(X:Cx)(μ:Mu)(H:Hp)(D:Ends):Fl->Mem->Prop
 |.next ρ',M'=>∀σ' H' μ',Ext μ H μ' H'->a7 fa X.K μ' H' σ' ρ'->RelM fa X.K μ' H' M'->D.nx σ' H'
 |.ret d,M'=>aZ fa X.K μ H D.rt d M'
 |.exc x ρ',M'=>XW fa X μ H x ρ' M'
noncomputable def tF (fa:Fa)(X:Cx)(g:Env->Mem->Res Fl):TS:=fun D σ H=>∃μ Z M,a7 fa X.K μ H σ Z/\RelM fa X.K μ H M/\ag (g Z M) (oF fa X μ H D)
theorem XW.ext {fa:Fa}{X:Cx}{μ μ':Mu}{H H':Hp}{x:D}{Z:Env}{M:Mem}(h:XW fa X μ H x Z M)(y:Ext μ H μ' H'):XW fa X μ' H' x Z M:=fun pins σ1 H1 μ1 s1 a C dx c p I e=>h pins σ1 H1 μ1 s1 a C dx c p I (y.trans e)
section
variable {fa:Fa}{K:LX}{μ μ':Mu}{H H':Hp}{Q:VK}
theorem aZ.ext {d:D}{M:Mem}(h:aZ fa K μ H Q d M)(x:Ext μ H μ' H'):aZ fa K μ' H' Q d M:=fun v H'' μ'' y m r=>h v H'' μ'' (x.trans y) m r
theorem jn {r:Res D}(h:ag r (aZ fa K μ H Q))(x:Ext μ H μ' H'):ag r (aZ fa K μ' H' Q):=aT h fun _ _ w=>w.ext x
end
theorem br {X:Cx}{e:Expr}{t t':TE}(h:PE X e t)(i:∀σ H Q,t' σ H Q->t σ H Q):PE X e t':=fun pins s σ H Q I q=>h pins s σ H Q I (i σ H Q q)
theorem jK {X:Cx}{e:Expr}{t t':TT}(h:PT X e t)(i:∀σ H Q,t' σ H Q->t σ H Q):PT X e t':=fun pins s σ H Q I q=>h pins s σ H Q I (i σ H Q q)
theorem xr {X:Cx}{e:Expr}{t t':TT}(h:PW X e t)(i:∀σ H Q,t' σ H Q->t σ H Q):PW X e t':=fun w pins s σ H Q I q=>h w pins s σ H Q I (i σ H Q q)
theorem xM {X:Cx}{e:List Expr}{t t':TA}(h:PA X e t)(i:∀σ H Q,t' σ H Q->t σ H Q):PA X e t':=fun pos pins s σ H Q I q=>h pos pins s σ H Q I (i σ H Q q)
theorem dw {X:Cx}{e:Stmt}{t t':TS}(h:PS X e t)(i:∀D σ H,t' D σ H->t D σ H):PS X e t':=fun pins s σ H D I q=>h pins s σ H D I (i D σ H q)
theorem uf {X:Cx}{e:List Stmt}{t t':TS}(h:lI X e t)(i:∀D σ H,t' D σ H->t D σ H):lI X e t':=fun pins s σ H D I q=>h pins s σ H D I (i D σ H q)
section
variable {fa:Fa}{K:LX}{μ:Mu}{H:Hp}{σ:L2.St}{Z:Env}{M:Mem}
theorem t1 {g:Env->Mem->Res D}{β:Type}{f:D->Mem->Res β}{P:β->Mem->Prop}{R:V->Hp->Prop}(hE:a7 fa K μ H σ Z)(hM:RelM fa K μ H M)(h:ag ((g Z M).bind f) P)
 (k:∀x M1 v H1 μ1,Ext μ H μ1 H1->a7 fa K μ1 H1 σ Z->RelM fa K μ1 H1 M1->Rep fa K μ1 H1 x v->ag (f x M1) P->R v H1):tE fa K g σ H R:=by
 obtain ⟨x,M1,e,q⟩:=aJ h
 refine ⟨μ,Z,M,hE,hM,?_⟩
 rw [e]
 exact fun v H1 μ1 x1 m1 r1=>k x M1 v H1 μ1 x1 (hE.ext x1) m1 r1 q
theorem wL {g:Env->Mem->Res Bool}{β:Type}{f:Bool->Mem->Res β}{P:β->Mem->Prop}{R:Bool->Hp->Prop}(hE:a7 fa K μ H σ Z)(hM:RelM fa K μ H M)(h:ag ((g Z M).bind f) P)
 (k:∀b M1 H1 μ1,Ext μ H μ1 H1->a7 fa K μ1 H1 σ Z->RelM fa K μ1 H1 M1->ag (f b M1) P->R b H1):tT fa K g σ H R:=by
 obtain ⟨b,M1,e,q⟩:=aJ h
 refine ⟨μ,Z,M,hE,hM,?_⟩
 rw [e]
 exact fun H1 μ1 x1 m1=>k b M1 H1 μ1 x1 (hE.ext x1) m1 q
theorem pJ {g:Env->Mem->Res (List D)}{β:Type}{f:List D->Mem->Res β}{P:β->Mem->Prop}{R:List V->Hp->Prop}(hE:a7 fa K μ H σ Z)(hM:RelM fa K μ H M)(h:ag ((g Z M).bind f) P)
 (k:∀ds M1 vs H1 μ1,Ext μ H μ1 H1->a7 fa K μ1 H1 σ Z->RelM fa K μ1 H1 M1->aF fa K μ1 H1 ds vs->ag (f ds M1) P->R vs H1):tA fa K g σ H R:=by
 obtain ⟨ds,M1,e,q⟩:=aJ h
 refine ⟨μ,Z,M,hE,hM,?_⟩
 rw [e]
 exact fun v H1 μ1 x1 m1 r1=>k ds M1 v H1 μ1 x1 (hE.ext x1) m1 r1 q
end
end LD
namespace LD
open PySem PySem.Spec PyProof.Rows L2
mutual
noncomputable def toPy:D->PyData
 |.non=>.none
 |.bl b=>.bool b
 |.int i=>.int i
 |.str x=>.str x
 |.tup ds=>.tuple (bZ ds)
 |.lst ds=>.list (bZ ds)
 |.frz _=>.none
 |.cell _=>.none
 |.fn _=>.none
 |.exc _ _=>.none
noncomputable def bZ:List D->List PyData
 |[]=>[]
 |d::r=>toPy d::bZ r
end
theorem oJ:∀(n:Nat) (d:D),aC n d=true->(toPy d).canLay0=true/\(toPy d).depth<=n:=by
 have all:∀(n:Nat),(∀d,aC n d=true->(toPy d).canLay0=true/\(toPy d).depth<=n)->∀ds:List D,ds.all (aC n)=true->PyData.canLayAll0 (bZ ds)=true/\PyData.depthAll (bZ ds)<=n:=by
  intro n h ds
  induction ds with
  |nil=>intro _;simp [bZ,PyData.canLayAll0,PyData.depthAll]
  | cons d r ih =>
    intro q
    simp only [MS,L6] at q
    obtain ⟨h1,h2⟩:=h d q.1
    obtain ⟨h3,h4⟩:=ih q.2
    simp only [bZ,PyData.canLayAll0,PyData.depthAll,h1,h3,Bool.and_self,true_and]
    omega
 intro n
 induction n with
 | zero =>
   intro d h
   cases d with
   |str x=>exact ⟨by simpa [toPy,PyData.canLay0,PyData.strOk,aC] using h,by simp [toPy,PyData.depth]⟩
   |tup _=>simp [aC] at h
   |lst _=>simp [aC] at h
   |frz _=>simp [aC] at h
   |cell _=>simp [aC] at h
   |fn _=>simp [aC] at h
   |exc y p=>simp [aC] at h
   |_=>exact ⟨by simp [toPy,PyData.canLay0],by simp [toPy,PyData.depth]⟩
 | succ n ih =>
   intro d h
   cases d with
   |str x=>exact ⟨by simpa [toPy,PyData.canLay0,PyData.strOk,aC] using h,by simp [toPy,PyData.depth]⟩
   | tup ds =>
     obtain ⟨h1,h2⟩:=all n ih ds (by simpa [aC] using h)
     simp only [toPy,PyData.canLay0,PyData.depth,h1,true_and]
     omega
   | lst ds =>
     obtain ⟨h1,h2⟩:=all n ih ds (by simpa [aC] using h)
     simp only [toPy,PyData.canLay0,PyData.depth,h1,true_and]
     omega
   |frz _=>simp [aC] at h
   |cell _=>simp [aC] at h
   |fn _=>simp [aC] at h
   |exc y p=>simp [aC] at h
   |_=>exact ⟨by simp [toPy,PyData.canLay0],by simp [toPy,PyData.depth]⟩
theorem jm {d:D}(h:aC 64 d=true):SeqAt.shaped (toPy d)=true:=by
 obtain ⟨h1,h2⟩:=oJ 64 d h
 simp [SeqAt.shaped,h1,h2]
mutual
theorem l7:∀(n m:Nat) (a b:D),aC n a=true->aC m b=true->PyData.eqv (toPy a) (toPy b)=gy a b
 | n, m, .tup a, .tup b, ha, hb => by
   cases n with
   |zero=>simp [aC] at ha
   | succ n =>
     cases m with
     |zero=>simp [aC] at hb
     | succ m =>
       exact m7 n m a b (by simpa [aC] using ha) (by simpa [aC] using hb)
 | n, m, .lst a, .lst b, ha, hb => by
   cases n with
   |zero=>simp [aC] at ha
   | succ n =>
     cases m with
     |zero=>simp [aC] at hb
     | succ m =>
       exact m7 n m a b (by simpa [aC] using ha) (by simpa [aC] using hb)
 |n,m,.frz _,_,ha,hb=>by cases n<;>simp [aC] at ha
 |n,m,.cell _,_,ha,hb=>by cases n<;>simp [aC] at ha
 |n,m,.fn _,_,ha,hb=>by cases n<;>simp [aC] at ha
 |n,m,.exc _ _,_,ha,hb=>by cases n<;>simp [aC] at ha
 |n,m,_,.frz _,ha,hb=>by cases m<;>simp [aC] at hb
 |n,m,_,.cell _,ha,hb=>by cases m<;>simp [aC] at hb
 |n,m,_,.fn _,ha,hb=>by cases m<;>simp [aC] at hb
 |n,m,_,.exc _ _,ha,hb=>by cases m<;>simp [aC] at hb
 |_,_,.non,.non,_,_=>by first|rfl|simp [toPy,PyData.eqv];rfl
 |_,_,.non,.bl _,_,_=>by first|rfl|simp [toPy,PyData.eqv];rfl
 |_,_,.non,.int _,_,_=>by first|rfl|simp [toPy,PyData.eqv];rfl
 |_,_,.non,.str _,_,_=>by first|rfl|simp [toPy,PyData.eqv];rfl
 |_,_,.non,.tup _,_,_=>by first|rfl|simp [toPy,PyData.eqv];rfl
 |_,_,.non,.lst _,_,_=>by first|rfl|simp [toPy,PyData.eqv];rfl
 |_,_,.bl _,.non,_,_=>by first|rfl|simp [toPy,PyData.eqv];rfl
 |_,_,.bl _,.bl _,_,_=>by first|rfl|simp [toPy,PyData.eqv];rfl
 |_,_,.bl _,.int _,_,_=>by first|rfl|simp [toPy,PyData.eqv];rfl
 |_,_,.bl _,.str _,_,_=>by first|rfl|simp [toPy,PyData.eqv];rfl
 |_,_,.bl _,.tup _,_,_=>by first|rfl|simp [toPy,PyData.eqv];rfl
 |_,_,.bl _,.lst _,_,_=>by first|rfl|simp [toPy,PyData.eqv];rfl
 |_,_,.int _,.non,_,_=>by first|rfl|simp [toPy,PyData.eqv];rfl
 |_,_,.int _,.bl _,_,_=>by first|rfl|simp [toPy,PyData.eqv];rfl
 |_,_,.int _,.int _,_,_=>by first|rfl|simp [toPy,PyData.eqv];rfl
 |_,_,.int _,.str _,_,_=>by first|rfl|simp [toPy,PyData.eqv];rfl
 |_,_,.int _,.tup _,_,_=>by first|rfl|simp [toPy,PyData.eqv];rfl
 |_,_,.int _,.lst _,_,_=>by first|rfl|simp [toPy,PyData.eqv];rfl
 |_,_,.str _,.non,_,_=>by first|rfl|simp [toPy,PyData.eqv];rfl
 |_,_,.str _,.bl _,_,_=>by first|rfl|simp [toPy,PyData.eqv];rfl
 |_,_,.str _,.int _,_,_=>by first|rfl|simp [toPy,PyData.eqv];rfl
 |_,_,.str _,.str _,_,_=>by first|rfl|simp [toPy,PyData.eqv];rfl
 |_,_,.str _,.tup _,_,_=>by first|rfl|simp [toPy,PyData.eqv];rfl
 |_,_,.str _,.lst _,_,_=>by first|rfl|simp [toPy,PyData.eqv];rfl
 |_,_,.tup _,.non,_,_=>by first|rfl|simp [toPy,PyData.eqv];rfl
 |_,_,.tup _,.bl _,_,_=>by first|rfl|simp [toPy,PyData.eqv];rfl
 |_,_,.tup _,.int _,_,_=>by first|rfl|simp [toPy,PyData.eqv];rfl
 |_,_,.tup _,.str _,_,_=>by first|rfl|simp [toPy,PyData.eqv];rfl
 |_,_,.tup _,.lst _,_,_=>by first|rfl|simp [toPy,PyData.eqv];rfl
 |_,_,.lst _,.non,_,_=>by first|rfl|simp [toPy,PyData.eqv];rfl
 |_,_,.lst _,.bl _,_,_=>by first|rfl|simp [toPy,PyData.eqv];rfl
 |_,_,.lst _,.int _,_,_=>by first|rfl|simp [toPy,PyData.eqv];rfl
 |_,_,.lst _,.str _,_,_=>by first|rfl|simp [toPy,PyData.eqv];rfl
 |_,_,.lst _,.tup _,_,_=>by first|rfl|simp [toPy,PyData.eqv];rfl
theorem m7:∀(n m:Nat) (a b:List D),a.all (aC n)=true->b.all (aC m)=true->PyData.eqvAll (bZ a) (bZ b)=jD a b
 |n,m,[],[],_,_=>by simp [bZ,PyData.eqvAll,jD]
 |n,m,[],_::_,_,_=>by simp [bZ,PyData.eqvAll,jD]
 |n,m,_::_,[],_,_=>by simp [bZ,PyData.eqvAll,jD]
 | n, m, x :: a, y :: b, ha, hb => by
   simp only [MS,L6] at ha hb
   simp only [bZ,PyData.eqvAll,jD]
   rw [l7 n m x y ha.1 hb.1,m7 n m a b ha.2 hb.2]
end
section
variable {fa:Fa}{X:Cx}{μ:Mu}{H:Hp}{σ:L2.St}{pins:List (Addr×Obj)}{s:L4}{M:Mem}
theorem i5 {d:D}{v:V}{ds:List D}(hM:RelM fa X.K μ H M)(h:Rep fa X.K μ H d v)(e:ja M d=some ds):∃a vs,v=.ref a/\H a=some (.lst vs)/\aF fa X.K μ H ds vs:=by
 cases d with
 | lst xs =>
   cases e
   obtain ⟨a,vs,e,s,r⟩:=h
   exact ⟨a,vs,e,s.1,r⟩
 | cell k =>
   obtain ⟨a,rfl,hk⟩:=h
   obtain ⟨vs,h2,h3⟩:=hM.at_ e hk
   exact ⟨a,vs,rfl,h2,h3⟩
 |_=>cases e
theorem bF {d:D}{v:V}{ds:List D}(hM:RelM fa X.K μ H M)(h:Rep fa X.K μ H d v)(e:d8 M d=some ds):∃a vs,v=.ref a/\bV X.K H a vs/\aF fa X.K μ H ds vs:=by
 cases d with
 | lst xs =>
   obtain ⟨a,vs,h1,h2,h3⟩:=i5 (ds:=ds) hM h e
   exact ⟨a,vs,h1,.of h2,h3⟩
 | frz xs =>
   cases e
   obtain ⟨a,vs,e,s,r⟩:=h
   exact ⟨a,vs,e,s.elim (fun z=>.inl (.inr z)) .inr,r⟩
 | cell k =>
   obtain ⟨a,vs,h1,h2,h3⟩:=i5 (ds:=ds) hM h e
   exact ⟨a,vs,h1,.of h2,h3⟩
 |_=>cases e
theorem i4 {d:D}{v:V}{ds:List D}(hM:RelM fa X.K μ H M)(h:Rep fa X.K μ H d v)(e:bL M d=some ds):∃a vs,v=.ref a/\(bV X.K H a vs\/cZ X.K H a vs)/\aF fa X.K μ H ds vs:=by
 cases d with
 | tup xs =>
   cases e
   obtain ⟨a,vs,rfl,h1,h2⟩:=h
   exact ⟨a,vs,rfl,.inr h1,h2⟩
 | lst xs =>
   obtain ⟨a,vs,h1,h2,h3⟩:=bF (ds:=ds) hM h e
   exact ⟨a,vs,h1,.inl h2,h3⟩
 | frz xs =>
   obtain ⟨a,vs,h1,h2,h3⟩:=bF (ds:=ds) hM h e
   exact ⟨a,vs,h1,.inl h2,h3⟩
 | cell k =>
   obtain ⟨a,vs,h1,h2,h3⟩:=bF (ds:=ds) hM h e
   exact ⟨a,vs,h1,.inl h2,h3⟩
 |_=>cases e
mutual
theorem dv (I:Inv X pins σ H s):∀(d:D) (n:Nat) (v:V) (u:LY),aC n d=true->Rep fa X.K μ H d v->RelV v u->∃as,Reads s.heap u (toPy d) as
 | .non, n, v, u, _, h, r => by
   obtain rfl:v=.non:=h
   obtain rfl:u=Value.none:=r
   exact ⟨_,.none⟩
 | .bl b, n, v, u, _, h, r => by
   obtain rfl:v=.bl b:=h
   obtain rfl:u=Value.bool b:=r
   exact ⟨_,.bool b⟩
 | .int i, n, v, u, _, h, r => by
   obtain rfl:v=.int i:=h
   obtain ⟨t,rfl⟩:=r
   exact ⟨_,.int i t⟩
 | .str x, n, v, u, _, h, r => by
   obtain rfl:v=.str x:=h
   obtain ⟨t,rfl⟩:=r
   exact ⟨_,.str x t⟩
 | .tup ds, n, v, u, hp, h, r => by
   cases n with
   |zero=>simp [aC] at hp
   | succ n =>
     obtain ⟨a,vs,rfl,h1,h2⟩:=h
     obtain rfl:u=Value.ref a:=r
     obtain ⟨its,rv,⟨o,e1,e2,k,e3⟩,_⟩:=I.tuple h1
     obtain ⟨as,q⟩:=eW I ds n vs its (by simpa [aC] using hp) h2 rv
     exact ⟨_,.tuple e1 e2 e3 (by simpa using q)⟩
 | .lst ds, n, v, u, hp, h, r => by
   cases n with
   |zero=>simp [aC] at hp
   | succ n =>
     obtain ⟨a,vs,rfl,h1,h2⟩:=h
     obtain rfl:u=Value.ref a:=r
     obtain ⟨its,rv,⟨o,k,e1,e2,e4,e3⟩,_⟩:=I.list (bV.of h1.1)
     obtain ⟨as,q⟩:=eW I ds n vs its (by simpa [aC] using hp) h2 rv
     exact ⟨_,.list e1 e2 e3 (by simpa using q)⟩
 |.frz k,n,v,u,hp,_,_=>by cases n<;>simp [aC] at hp
 |.cell k,n,v,u,hp,_,_=>by cases n<;>simp [aC] at hp
 |.fn f,n,v,u,hp,_,_=>by cases n<;>simp [aC] at hp
 |.exc _ _,n,v,u,hp,_,_=>by cases n<;>simp [aC] at hp
theorem eW (I:Inv X pins σ H s):∀(ds:List D) (n:Nat) (vs:List V) (us:List LY),ds.all (aC n)=true->aF fa X.K μ H ds vs->Vals vs us->∃as,ReadsAll s.heap us (bZ ds) as
 | [], n, vs, us, _, h, r => by
   obtain rfl:vs=[]:=h
   cases r
   exact ⟨_,.nil⟩
 | d :: ds, n, vs, us, hp, h, r => by
   obtain ⟨v,vr,rfl,h1,h2⟩:=h
   simp only [MS,L6] at hp
   cases r with
   | cons r1 r2 =>
     obtain ⟨as,q1⟩:=dv I d n v _ hp.1 h1 r1
     obtain ⟨bs,q2⟩:=eW I ds n vr _ hp.2 h2 r2
     exact ⟨_,.cons q1 q2⟩
end
theorem CM {d:D}{n:Nat}(h:aC n (view M d)=true):(view M d=d/\aC n d=true)\/∃ds,d8 M d=some ds/\view M d=.lst ds:=by
 cases d with
 | cell k =>
   cases e:M[k]? with
   | none =>
     have ev:view M (.cell k)=.cell k:=by simp [view,e]
     rw [ev] at h
     cases n<;>simp [aC] at h
   |some ds=>exact .inr ⟨ds,e,by simp [view,e]⟩
 |frz ds=>exact .inr ⟨ds,rfl,rfl⟩
 |_=>exact .inl ⟨rfl,h⟩
theorem jZ (I:Inv X pins σ H s)(hM:RelM fa X.K μ H M){d:D}{v:V}{u:LY}(hp:aC 64 (view M d)=true)(h:Rep fa X.K μ H d v)(r:RelV v u):∃as,Reads s.heap u (toPy (view M d)) as:=by
 rcases CM hp with ⟨e,hp'⟩|⟨ds,e,ev⟩
 ·rw [e];exact dv I _ 64 v u hp' h r
 ·rw [ev] at hp ⊢
  obtain ⟨a,vs,rfl,h1,h2⟩:=bF (ds:=ds) hM h e
  obtain rfl:u=Value.ref a:=r
  obtain ⟨its,rv,⟨o,k,e1,e2,e4,e3⟩,_⟩:=I.list h1
  obtain ⟨as,q⟩:=eW I ds 63 vs its (by simpa [aC] using hp) h2 rv
  exact ⟨_,.list e1 e2 e3 (by simpa using q)⟩
theorem jz (I:Inv X pins σ H s)(hM:RelM fa X.K μ H M):∀(n m:Nat) (d:D) (v:V) (u:LY),aC m (cQ n M d)=true->Rep fa X.K μ H d v->RelV v u->∃as,Reads s.heap u (toPy (cQ n M d)) as
 |0,m,d,v,u,hp,h,r=>dv I d m v u hp h r
 | n + 1, m, d, v, u, hp, h, r => by
   have ih:=jz I hM n
   have all:∀(m:Nat) (ds:List D) (vs:List V) (us:List LY),(ds.map (cQ n M)).all (aC m)=true->aF fa X.K μ H ds vs->Vals vs us->∃as,ReadsAll s.heap us (bZ (ds.map (cQ n M))) as:=by
    intro m ds
    induction ds with
    | nil =>
      intro vs us _ h r
      obtain rfl:vs=[]:=h
      cases r
      exact ⟨_,.nil⟩
    | cons d ds ihl =>
      intro vs us hp h r
      obtain ⟨v,vr,rfl,h1,h2⟩:=h
      simp only [Nd,MS,L6] at hp
      cases r with
      | cons r1 r2 =>
        obtain ⟨as,q1⟩:=ih m d v _ hp.1 h1 r1
        obtain ⟨bs,q2⟩:=ihl vr _ hp.2 h2 r2
        exact ⟨_,.cons q1 q2⟩
   have lst:∀(ds:List D) (a:Addr) (vs:List V),aC m (.lst (ds.map (cQ n M)))=true->bV X.K H a vs->aF fa X.K μ H ds vs->u=.ref a->∃as,Reads s.heap u (toPy (.lst (ds.map (cQ n M)))) as:=by
    intro ds a vs hp h1 h2 e
    subst e
    cases m with
    |zero=>simp [aC] at hp
    | succ m =>
      obtain ⟨its,rv,⟨o,k,e1,e2,e4,e3⟩,_⟩:=I.list h1
      obtain ⟨as,q⟩:=all m ds vs its (by simpa [aC] using hp) h2 rv
      exact ⟨_,.list e1 e2 e3 (by simpa using q)⟩
   cases d with
   | cell k =>
     cases e:M[k]? with
     | none =>
       have ev:cQ (n+1) M (.cell k)=.cell k:=by simp [cQ,e]
       rw [ev] at hp
       cases m<;>simp [aC] at hp
     | some ds =>
       have ev:cQ (n+1) M (.cell k)=.lst (ds.map (cQ n M)):=by simp [cQ,e]
       rw [ev] at hp ⊢
       obtain ⟨a,vs,rfl,h1,h2⟩:=bF (ds:=ds) hM h e
       exact lst ds a vs hp h1 h2 r
   | frz ds =>
     obtain ⟨a,vs,rfl,h1,h2⟩:=bF (ds:=ds) hM h rfl
     exact lst ds a vs hp h1 h2 r
   | lst ds =>
     obtain ⟨a,vs,rfl,h1,h2⟩:=bF (ds:=ds) hM h rfl
     exact lst ds a vs hp h1 h2 r
   | tup ds =>
     have hp:aC m (.tup (ds.map (cQ n M)))=true:=hp
     cases m with
     |zero=>simp [aC] at hp
     | succ m =>
       obtain ⟨a,vs,rfl,h1,h2⟩:=h
       obtain rfl:u=Value.ref a:=r
       obtain ⟨its,rv,⟨o,e1,e2,k,e3⟩,_⟩:=I.tuple h1
       obtain ⟨as,q⟩:=all m ds vs its (by simpa [aC] using hp) h2 rv
       exact ⟨_,.tuple e1 e2 e3 (by simpa using q)⟩
   |non=>exact dv I .non m v u hp h r
   |bl b=>exact dv I (.bl b) m v u hp h r
   |int i=>exact dv I (.int i) m v u hp h r
   |str x=>exact dv I (.str x) m v u hp h r
   |fn f=>exact dv I (.fn f) m v u hp h r
   |exc y p=>exact dv I (.exc y p) m v u hp h r
abbrev Rm (X:Cx):Prop:=X.A.units+100<cLine
noncomputable def fZ (fa:Fa)(K:LX)(o:iw):R2:=fun x y H Q=>∃μ M dx dy b,RelM fa K μ H M/\Rep fa K μ H dx x/\Rep fa K μ H dy y/\bJ o dx dy M=some b/\Q (.bl b) H
theorem sG {a b:D}{k:Bool}(hs:(gE a&&gE b)=false)(h:sH a b=some k):aC 64 a=true/\aC 64 b=true/\k=gy a b:=by
 unfold sH at h
 rw [hs,Bool.false_or] at h
 split at h
 ·next q=>
  simp only [L6] at q
  exact ⟨q.1,q.2,(L9 h).symm⟩
 ·cases h
theorem sr (d:D):gE (view M d)=gE d:=by
 cases d with
 |cell k=>cases e:M[k]?<;>simp [view,e,gE]
 |_=>rfl
theorem qc (n:Nat)(d:D):gE (cQ n M d)=gE d:=by
 cases n with
 |zero=>rfl
 | succ n =>
   cases d with
   |cell k=>cases e:M[k]?<;>simp [cQ,e,gE]
   |_=>rfl
theorem qf (I:Inv X pins σ H s)(hM:RelM fa X.K μ H M){a b:D}{x y:V}{v u:LY}{k:Bool}(hs:(gE a&&gE b)=false)(h:lA M a b=some k)(h1:Rep fa X.K μ H a x)(h2:Rep fa X.K μ H b y)(rx:RelV x v)(ry:RelV y u) :
 ∃c e as bs,aC 64 c=true/\aC 64 e=true/\k=gy c e/\Reads s.heap v (toPy c) as/\Reads s.heap u (toPy e) bs:=by
 unfold lA at h
 cases q:sH (view M a) (view M b) with
 | some r =>
   rw [q] at h
   cases h
   obtain ⟨p1,p2,e⟩:=sG (by rw [sr,sr];exact hs) q
   obtain ⟨as,r1⟩:=jZ I hM p1 h1 rx
   obtain ⟨bs,r2⟩:=jZ I hM p2 h2 ry
   exact ⟨_,_,as,bs,p1,p2,e,r1,r2⟩
 | none =>
   rw [q] at h
   obtain ⟨p1,p2,e⟩:=sG (by rw [qc,qc];exact hs) h
   obtain ⟨as,r1⟩:=jz I hM 64 64 a x v p1 h1 rx
   obtain ⟨bs,r2⟩:=jz I hM 64 64 b y u p2 h2 ry
   exact ⟨_,_,as,bs,p1,p2,e,r1,r2⟩
theorem rh {a b:D}(h:(gE a&&gE b)=true):∃x y,a=.str x/\b=.str y:=by
 cases a with
 | str x =>
   cases b with
   |str y=>exact ⟨x,y,rfl,rfl⟩
   |_=>cases h
 |_=>cases h
theorem uG {x y:Str}:lA M (.str x) (.str y)=some (x==y):=by
 have e:gy (.str x) (.str y)=(x==y):=rfl
 rw [<- e];rfl
theorem Lv (hu:Rm X):bD X (compareOp .Eq) (fZ fa X.K .eq):=by
 intro pins s σ H x y v u Q I rx ry h
 obtain ⟨μ,M,dx,dy,b,hM,h1,h2,e,q⟩:=h
 cases hs:gE dx&&gE dy with
 | true =>
   obtain ⟨i,j,rfl,rfl⟩:=rh hs
   obtain rfl:x=.str i:=h1
   obtain rfl:y=.str j:=h2
   obtain rfl:(i==j)=b:=L9 (uG.symm.trans e)
   exact IS pins s σ H _ _ v u Q I rx ry ⟨rfl,by rw [mf];exact q⟩
 | false =>
   obtain ⟨_,_,as,bs,p1,p2,rfl,r1,r2⟩:=qf I hM hs (show lA M dx dy=some b from e) h1 h2 rx ry
   refine SeqAt.compareEq_shaped r1 r2 (jm p1) (jm p2) (by unfold Rm at hu;omega) ?_
   rw [l7 64 64 _ _ p1 p2]
   exact ⟨.bl _,H,I,rfl,q⟩
theorem Lo (hu:Rm X):bD X (compareOp .NotEq) (fZ fa X.K .ne):=by
 intro pins s σ H x y v u Q I rx ry h
 obtain ⟨μ,M,dx,dy,b,hM,h1,h2,e,q⟩:=h
 have e:(lA M dx dy).map (!·)=some b:=e
 cases e':lA M dx dy with
 |none=>rw [e'] at e;cases e
 | some k =>
   rw [e'] at e
   obtain rfl:(!k)=b:=L9 e
   cases hs:gE dx&&gE dy with
   | true =>
     obtain ⟨i,j,rfl,rfl⟩:=rh hs
     obtain rfl:x=.str i:=h1
     obtain rfl:y=.str j:=h2
     obtain rfl:(i==j)=k:=L9 (uG.symm.trans e')
     exact IK pins s σ H _ _ v u Q I rx ry ⟨rfl,by rw [mf];exact q⟩
   | false =>
     obtain ⟨_,_,as,bs,p1,p2,rfl,r1,r2⟩:=qf I hM hs e' h1 h2 rx ry
     refine SeqAt.compareNe_shaped r1 r2 (jm p1) (jm p2) (by unfold Rm at hu;omega) ?_
     rw [l7 64 64 _ _ p1 p2]
     exact ⟨.bl _,H,I,rfl,q⟩
end
end LD
namespace LD
open PySem PySem.Spec PyProof.Rows L2
section
variable {fa:Fa}{X:Cx}{μ:Mu}{H:Hp}{σ:L2.St}{pins:List (Addr×Obj)}{s:L4}{M:Mem}
theorem ia {f:LY->LY->Sem LY}{r r':R2}(h:bD X f r)(i:∀x y H Q,r' x y H Q->r x y H Q):bD X f r':=fun pins s σ H x y v u Q I rx ry q=>h pins s σ H x y v u Q I rx ry (i x y H Q q)
theorem jf {f:LY}{r r':List V->Hp->VK->Prop}(h:cy X f r)(i:∀xs H Q,r' xs H Q->r xs H Q):cy X f r':=fun pins s σ H xs us Q I rx q=>h pins s σ H xs us Q I rx (i xs H Q q)
theorem mh {o:iw}{g:Int->Int->Bool}(ho:o=.lt\/o=.le\/o=.gt\/o=.ge)(hg:∀i j,bJ o (.int i) (.int j) []=some (g i j)){x y:V}{Q:VK}(h:fZ fa X.K o x y H Q) :
 ∃i j,x=.int i/\y=.int j/\Q (.bl (g i j)) H:=by
 obtain ⟨μ,M,dx,dy,b,hM,h1,h2,e,q⟩:=h
 have key:∀i j,dx=.int i->dy=.int j->∃i j,x=.int i/\y=.int j/\Q (.bl (g i j)) H:=fun i j e1 e2=>by
  subst e1 e2
  have e3:bJ o (.int i) (.int j) M=some (g i j):=by
   have:=hg i j
   rcases ho with rfl|rfl|rfl|rfl<;>exact this
  rw [e] at e3
  have e4:=L9 e3
  subst e4
  exact ⟨i,j,h1,h2,q⟩
 rcases ho with rfl|rfl|rfl|rfl<;>
 ·cases dx with
  |int i=>cases dy<;>first|exact key _ _ rfl rfl|cases e
  |_=>cases e
theorem Lp:bD X (compareOp .Lt) (fZ fa X.K .lt):=ia IL fun x y H Q h=>mh (.inl rfl) (fun _ _=>rfl) h
theorem Lq:bD X (compareOp .LtE) (fZ fa X.K .le):=ia IM fun x y H Q h=>mh (.inr (.inl rfl)) (fun _ _=>rfl) h
theorem Ls:bD X (compareOp .Gt) (fZ fa X.K .gt):=ia IP fun x y H Q h=>mh (.inr (.inr (.inl rfl))) (fun _ _=>rfl) h
theorem Lu:bD X (compareOp .GtE) (fZ fa X.K .ge):=ia IQ fun x y H Q h=>mh (.inr (.inr (.inr rfl))) (fun _ _=>rfl) h
theorem ub {d:D}{v:V}{K:LX}(h:Rep fa K μ H d v):decide (v=.non)=gX d:=by
 cases d with
 |non=>obtain rfl:v=.non:=h;rfl
 |bl b=>obtain rfl:v=.bl b:=h;rfl
 |int b=>obtain rfl:v=.int b:=h;rfl
 |str b=>obtain rfl:v=.str b:=h;rfl
 |tup b=>obtain ⟨a,vs,rfl,_⟩:=h;rfl
 |lst b=>obtain ⟨a,vs,rfl,_⟩:=h;rfl
 |frz b=>obtain ⟨a,vs,rfl,_⟩:=h;rfl
 |cell b=>obtain ⟨a,rfl,_⟩:=h;rfl
 |fn b=>obtain ⟨a,rfl,_⟩:=h;rfl
 |exc y p=>obtain ⟨a,_,_,rfl,_⟩:=h;rfl
theorem JB:bD X (compareOp .Is) (fZ fa X.K .isN):=ia Gj fun x y H Q h=>by
 obtain ⟨μ,M,dx,dy,b,hM,h1,h2,e,q⟩:=h
 cases dy<;>first|cases (show (none:Option Bool)=some b from e)|skip
 refine ⟨h2,?_⟩
 rw [ub h1]
 have e:some (gX dx)=some b:=e
 rw [L9 e];exact q
theorem HI:bD X (compareOp .IsNot) (fZ fa X.K .notN):=ia DY fun x y H Q h=>by
 obtain ⟨μ,M,dx,dy,b,hM,h1,h2,e,q⟩:=h
 cases dy<;>first|cases (show (none:Option Bool)=some b from e)|skip
 refine ⟨h2,?_⟩
 rw [ub h1]
 have e:some (!gX dx)=some b:=e
 rw [L9 e];exact q
theorem tj (x:D)(hx:aC 64 x=true):∀(ds:List D),ds.all (aC 63)=true->((bZ ds).any fun y=>PyData.eqv y (toPy x))=ds.any fun y=>gy y x
 |[],_=>rfl
 | d :: r, h => by
   simp only [MS,L6] at h
   simp only [bZ,List.any_cons,l7 63 64 d x h.1 hx,tj x hx r h.2]
theorem qY (n:Nat):∀ds:List D,ds.all (aC n)=true->PyData.canLayAll0 (bZ ds)=true/\PyData.depthAll (bZ ds)<=n
 |[],_=>by simp [bZ,PyData.canLayAll0,PyData.depthAll]
 | d :: r, h => by
   simp only [MS,L6] at h
   obtain ⟨h1,h2⟩:=oJ n d h.1
   obtain ⟨h3,h4⟩:=qY n r h.2
   simp only [bZ,PyData.canLayAll0,PyData.depthAll,h1,h3,Bool.and_self,true_and]
   omega
theorem xm (I:Inv X pins σ H s)(hM:RelM fa X.K μ H M){d:D}{v:V}{u:LY}{ds:List D}(hp:ds.all (aC 63)=true)(h:Rep fa X.K μ H d v)(r:RelV v u)(e:bL M d=some ds) :
 (∃as,Reads s.heap u (.list (bZ ds)) as)\/∃as,Reads s.heap u (.tuple (bZ ds)) as:=by
 obtain ⟨a,vs,rfl,h1,h2⟩:=i4 (ds:=ds) hM h e
 obtain rfl:u=Value.ref a:=r
 rcases h1 with h1|h1
 ·obtain ⟨its,rv,⟨o,k,e1,e2,e4,e3⟩,_⟩:=I.list h1
  obtain ⟨as,q⟩:=eW I ds 63 vs its hp h2 rv
  exact .inl ⟨_,.list e1 e2 e3 (by simpa using q)⟩
 ·obtain ⟨its,rv,⟨o,e1,e2,k,e3⟩,_⟩:=I.tuple h1
  obtain ⟨as,q⟩:=eW I ds 63 vs its hp h2 rv
  exact .inr ⟨_,.tuple e1 e2 e3 (by simpa using q)⟩
theorem yq (hu:Rm X){x y:V}{v u:LY}{dx dy:D}{ds:List D}{b:Bool}{Q:LY->L4->Prop}(I:Inv X pins σ H s)(hM:RelM fa X.K μ H M)(h1:Rep fa X.K μ H dx x)(h2:Rep fa X.K μ H dy y)(rx:RelV x v)(ry:RelV y u)
 (e1:bL M dy=some ds) (e2:kY (view M dx) ds=some b) (neg:Bool) (q:Q (.bool (if neg then !b else b)) s):wpAny (model X.prog X.w) X.A (compareOp (if neg then .NotIn else .In) v u) Q X.xe s:=by
 unfold kY at e2
 split at e2
 ·next z=>
  simp only [L6] at z
  obtain ⟨p1,p2⟩:=z
  have e3:=L9 e2
  subst e3
  obtain ⟨as,r1⟩:=jZ I hM p1 h1 rx
  obtain ⟨c1,d1⟩:=oJ 64 _ p1
  obtain ⟨c2,d2⟩:=qY 63 ds p2
  have hu':X.A.units+1+min (PyData.depthAll (bZ ds)) (toPy (view M dx)).depth<cLine:=by unfold Rm at hu;omega
  rw [<- tj _ p1 ds p2] at q
  rcases xm I hM p2 h2 ry e1 with ⟨bs,r2⟩|⟨bs,r2⟩
  ·cases neg
   ·exact SeqAt.in_list_reads r2 r1 c2 c1 hu' q
   ·exact SeqAt.notIn_list_reads r2 r1 c2 c1 hu' q
  ·cases neg
   ·exact SeqAt.in_tuple_reads r2 r1 c2 c1 hu' q
   ·exact SeqAt.notIn_tuple_reads r2 r1 c2 c1 hu' q
 ·cases e2
theorem Lr (hu:Rm X):bD X (compareOp .In) (fZ fa X.K .isin):=by
 intro pins s σ H x y v u Q I rx ry h
 obtain ⟨μ,M,dx,dy,b,hM,h1,h2,e,q⟩:=h
 have gen:(bL M dy).bind (kY (view M dx))=some b->wpAny (model X.prog X.w) X.A (compareOp .In v u) (EP X pins σ Q) X.xe s:=fun e=>by
  cases e1:bL M dy with
  |none=>rw [e1] at e;cases e
  | some ds =>
    rw [e1] at e
    exact yq hu I hM h1 h2 rx ry e1 e false ⟨.bl b,H,I,rfl,q⟩
 by_cases hs:(∃a,dx=.str a)/\∃c,dy=.str c
 ·obtain ⟨⟨a,rfl⟩,c,rfl⟩:=hs
  have e:some (nI a c)=some b:=e
  have e':=L9 e
  subst e'
  exact xN pins s σ H x y v u Q I rx ry ⟨a,c,h1,h2,q⟩
 ·refine gen ?_
  cases dx<;>first|exact e|(cases dy<;>first|exact e|exact absurd ⟨⟨_,rfl⟩,_,rfl⟩ hs)
theorem EH (hu:Rm X):bD X (compareOp .NotIn) (fZ fa X.K .notin):=by
 intro pins s σ H x y v u Q I rx ry h
 obtain ⟨μ,M,dx,dy,b,hM,h1,h2,e,q⟩:=h
 have gen:((bL M dy).bind (kY (view M dx))).map (!·)=some b->wpAny (model X.prog X.w) X.A (compareOp .NotIn v u) (EP X pins σ Q) X.xe s:=fun e=>by
  cases e1:bL M dy with
  |none=>rw [e1] at e;cases e
  | some ds =>
    rw [e1] at e
    cases e2:kY (view M dx) ds with
    |none=>rw [Option.bind_some,e2] at e;cases e
    | some k =>
      rw [Option.bind_some,e2] at e
      have e':=L9 e
      subst e'
      exact yq hu I hM h1 h2 rx ry e1 e2 true ⟨.bl _,H,I,rfl,q⟩
 by_cases hs:(∃a,dx=.str a)/\∃c,dy=.str c
 ·obtain ⟨⟨a,rfl⟩,c,rfl⟩:=hs
  have e:some (!nI a c)=some b:=e
  have e':=L9 e
  subst e'
  exact rS pins s σ H x y v u Q I rx ry ⟨a,c,h1,h2,q⟩
 ·refine gen ?_
  cases dx<;>first|exact e|(cases dy<;>first|exact e|exact absurd ⟨⟨_,rfl⟩,_,rfl⟩ hs)
noncomputable def dF:iw->CmpOp
 |.eq=>.Eq|.ne=>.NotEq|.lt=>.Lt|.le=>.LtE|.gt=>.Gt|.ge=>.GtE|.isN=>.Is|.notN=>.IsNot|.isin=>.In|.notin=>.NotIn
theorem mi (hu:Rm X):∀o:iw,bD X (compareOp (dF o)) (fZ fa X.K o)
 |.eq=>Lv hu|.ne=>Lo hu|.lt=>Lp|.le=>Lq|.gt=>Ls|.ge=>Lu|.isN=>JB|.notN=>HI|.isin=>Lr hu|.notin=>EH hu
noncomputable def kL (fa:Fa)(K:LX)(m:Bool)(o:mI):R2:=fun x y H Q=>∃μ M dx dy,RelM fa K μ H M/\Rep fa K μ H dx x/\Rep fa K μ H dy y/\ag (gL m o dx dy M) (aZ fa K μ H Q)
theorem aY {Q:VK}{d:D}{v:V}(hM:RelM fa X.K μ H M)(h:aZ fa X.K μ H Q d M)(r:Rep fa X.K μ H d v):Q v H:=h v H μ .refl hM r
theorem fC {Q:VK}{m:Bool}{ds:List D}{vs:List V}(hM:RelM fa X.K μ H M)(r:aF fa X.K μ H ds vs)(h:ag (a9 m ds M) (aZ fa X.K μ H Q)):ds.length<=sz/\∀p,H p=none->Q (.ref p) (upd H p (.lst vs)):=by
 unfold a9 at h
 split at h
 ·next hz=>
  refine ⟨hz,fun p hp=>?_⟩
  cases m with
  | true =>
    have h:aZ fa X.K μ H Q (.cell M.length) (M++[ds]):=h
    exact h (.ref p) _ (eY μ M.length p) (Ext.cell hM hp) (hM.cell hp r) ⟨p,rfl,by simp [eY]⟩
  | false =>
    have h:aZ fa X.K μ H Q (.lst ds) M:=h
    exact h (.ref p) _ μ (Ext.alloc hM hp) (hM.alloc hp) ⟨p,vs,rfl,⟨bw,hM.fresh hp⟩,r.ext (Ext.alloc hM hp)⟩
 ·exact h.elim
theorem gG {Q:VK}{ds:List D}{vs:List V}(hM:RelM fa X.K μ H M)(r:aF fa X.K μ H ds vs)(h:aZ fa X.K μ H Q (.tup ds) M):∀p,H p=none->Q (.ref p) (upd H p (.tup vs)):=fun p hp=>
 h (.ref p) _ μ (Ext.alloc hM hp) (hM.alloc hp) ⟨p,vs,rfl,.of bw,r.ext (Ext.alloc hM hp)⟩
theorem cS:sz=sizeLine:=by rw [sizeLine_eq];rfl
theorem Aj:bD X (binaryOp .Add) (fun x y H Q=>∃a b ys,x=.ref a/\y=.ref b/\cZ X.K H a []/\cZ X.K H b ys/\Q (.ref b) H):=by
 intro pins s σ H x y v u Q I rx ry h
 obtain ⟨a,b,ys,rfl,rfl,ha,hb,q⟩:=h
 cases rx
 cases ry
 obtain ⟨its,r1,p1,_⟩:=I.tuple ha
 obtain ⟨its2,r2,p2,_⟩:=I.tuple hb
 cases r1
 obtain ⟨⟨cls,dd,data,sl⟩,ho,hc,n,hd⟩:=id p1
 obtain ⟨⟨cls2,dd2,data2,sl2⟩,ho2,hc2,n2,hd2⟩:=id p2
 simp only at hc hd hc2 hd2
 subst hc hd hc2 hd2
 exact concat_meets ⟨_,ho,rfl⟩ ⟨_,ho2,rfl⟩ noFill_tuple_add seq_tuple_add PySem.F.slot_tuple_add PySem.F.entry_tuple_add (PySem.F.args_tuple_add_2 _ _)
  (tuple_addW0 a b #[] its2.toArray n n2 dd dd2 sl sl2 rfl) ⟨ho,ho2,⟨.ref b,H,I,rfl,q⟩⟩
theorem A5 {m:Bool}{x y:V}{v u:LY}{dx dy:D}{Q:VK}(I:Inv X pins σ H s)(hM:RelM fa X.K μ H M)(h1:Rep fa X.K μ H dx x)(h2:Rep fa X.K μ H dy y)(rx:RelV x v)(ry:RelV y u)
 (h:ag (match ja M dx,ja M dy with|some x,some y=>a9 m (x++y) M|_,_=>.bad) (aZ fa X.K μ H Q)):wpAny (model X.prog X.w) X.A (binaryOp .Add v u) (EP X pins σ Q) X.xe s:=by
 cases e1:ja M dx with
 |none=>rw [e1] at h;exact h.elim
 | some xs =>
   cases e2:ja M dy with
   |none=>rw [e1,e2] at h;exact h.elim
   | some ys =>
     rw [e1,e2] at h
     obtain ⟨a,vs,rfl,ha,ra⟩:=i5 hM h1 e1
     obtain ⟨b,ws,rfl,hb,rb⟩:=i5 hM h2 e2
     obtain ⟨hz,k⟩:=fC hM (ra.append rb) h
     refine Gk pins s σ H _ _ v u Q I rx ry ⟨a,b,vs,ws,rfl,rfl,ha,hb,?_,k⟩
     rw [ra.length,rb.length,<- Mz,<- cS];exact hz
theorem JI (m:Bool):bD X (binaryOp .Add) (kL fa X.K m .add):=by
 intro pins s σ H x y v u Q I rx ry h
 obtain ⟨μ,M,dx,dy,hM,h1,h2,h⟩:=h
 have hi:∀i j,dx=.int i->dy=.int j->wpAny (model X.prog X.w) X.A (binaryOp .Add v u) (EP X pins σ Q) X.xe s:=fun i j e1 e2=>by
  subst e1 e2
  exact Gm pins s σ H x y v u Q I rx ry ⟨i,j,h1,h2,aY (v:=.int (i+j)) hM h rfl⟩
 have hs:∀i j,dx=.str i->dy=.str j->wpAny (model X.prog X.w) X.A (binaryOp .Add v u) (EP X pins σ Q) X.xe s:=fun i j e1 e2=>by
  subst e1 e2
  have h:ag (if i.cps.size+j.cps.size<=sz then .ok (.str ⟨i.cps++j.cps⟩) M else .bad) (aZ fa X.K μ H Q):=h
  split at h
  ·next hz=>exact vh pins s σ H x y v u Q I rx ry ⟨i,j,h1,h2,by rw [<- cS];exact hz,aY (v:=.str ⟨i.cps++j.cps⟩) hM h rfl⟩
  ·exact h.elim
 have ht:∀i j,dx=.tup i->dy=.tup j->wpAny (model X.prog X.w) X.A (binaryOp .Add v u) (EP X pins σ Q) X.xe s:=fun i j e1 e2=>by
  subst e1 e2
  have h:ag (if (i++j).length<=sz then .ok (.tup (i++j)) M else .bad) (aZ fa X.K μ H Q):=h
  split at h
  ·next hz=>
   have h:aZ fa X.K μ H Q (.tup (i++j)) M:=h
   obtain ⟨a,vs,e1,ha,ra⟩:=id h1
   obtain ⟨b,ws,e2,hb,rb⟩:=id h2
   by_cases h0:i=[]
   ·subst h0
    obtain rfl:vs=[]:=ra
    exact Aj pins s σ H x y v u Q I rx ry ⟨a,b,ws,e1,e2,ha,hb,aY hM h ⟨b,ws,rfl,hb,rb⟩⟩
   ·have hv:vs≠[]:=fun z=>h0 (by have:=ra.length;rw [z] at this;exact Od.mp this.symm)
    refine D0 pins s σ H x y v u Q I rx ry ⟨a,b,vs,ws,e1,e2,ha,hb,hv,?_,fun z=>?_,fun _=>gG hM (ra.append rb) h⟩
    ·rw [ra.length,rb.length,<- Mz,<- cS];exact hz
    ·subst z
     have ej:j=[]:=Od.mp rb.length.symm
     subst ej
     exact aY hM h ⟨a,vs,rfl,ha,by simpa using ra⟩
  ·exact h.elim
 cases dx<;>cases dy<;>first|exact hi _ _ rfl rfl|exact hs _ _ rfl rfl|exact ht _ _ rfl rfl|exact A5 (m:=m) I hM h1 h2 rx ry h
theorem qP {op:Operator}{o:mI}{m:Bool}{C:Int->Int->Prop}{g:Int->Int->Int}(hr:bD X (binaryOp op) (rI C fun i j=>.int (g i j)))
 (hD:∀dx dy M (P:D->Mem->Prop),ag (gL m o dx dy M) P->∃i j,dx=.int i/\dy=.int j/\C i j/\P (.int (g i j)) M):bD X (binaryOp op) (kL fa X.K m o):=ia hr fun x y H Q h=>by
 obtain ⟨μ,M,dx,dy,hM,h1,h2,h⟩:=h
 obtain ⟨i,j,rfl,rfl,c,q⟩:=hD dx dy M _ h
 exact ⟨i,j,h1,h2,c,aY (v:=.int (g i j)) hM q rfl⟩
theorem JD (m:Bool):bD X (binaryOp .Sub) (kL fa X.K m .sub):=qP (C:=fun _ _=>True) (g:=fun i j=>i-j) (ia Ge fun x y H Q ⟨i,j,e1,e2,_,q⟩=>⟨i,j,e1,e2,q⟩) fun dx dy M P h=>by
 cases dx<;>cases dy<;>first|exact ⟨_,_,rfl,rfl,trivial,h⟩|exact h.elim
theorem HL (m:Bool):bD X (binaryOp .FloorDiv) (kL fa X.K m .fdiv):=qP DZ fun dx dy M P h=>by
 have key:∀i j,dx=.int i->dy=.int j->∃i j,dx=.int i/\dy=.int j/\H9 i j/\P (.int (i / j)) M:=fun i j e1 e2=>by
  subst e1 e2
  have h:ag (if 0<j/\j<1073741824 then .ok (.int (i / j)) M else .bad) P:=h
  split at h
  ·next c=>exact ⟨i,j,rfl,rfl,c,h⟩
  ·exact h.elim
 cases dx<;>cases dy<;>first|exact key _ _ rfl rfl|exact h.elim
theorem JG (m:Bool):bD X (binaryOp .Mod) (kL fa X.K m .mod):=qP Gi fun dx dy M P h=>by
 have key:∀i j,dx=.int i->dy=.int j->∃i j,dx=.int i/\dy=.int j/\0<j/\P (.int (i % j)) M:=fun i j e1 e2=>by
  subst e1 e2
  have h:ag (if 0<j then .ok (.int (i % j)) M else .bad) P:=h
  split at h
  ·next c=>exact ⟨i,j,rfl,rfl,c,h⟩
  ·exact h.elim
 cases dx<;>cases dy<;>first|exact key _ _ rfl rfl|exact h.elim
theorem JE (m:Bool):bD X (binaryOp .Pow) (kL fa X.K m .pow):=qP Gg fun dx dy M P h=>by
 have key:∀i j,dx=.int i->dy=.int j->∃i j,dx=.int i/\dy=.int j/\H8 i j/\P (.int (i^j.toNat)) M:=fun i j e1 e2=>by
  subst e1 e2
  have h:ag (if 0<=j/\j<=1000000/\i.natAbs<2^64 then .ok (.int (i^j.toNat)) M else .bad) P:=h
  split at h
  ·next c=>exact ⟨i,j,rfl,rfl,c,h⟩
  ·exact h.elim
 cases dx<;>cases dy<;>first|exact key _ _ rfl rfl|exact h.elim
theorem zV {m:Bool}{x y:V}{v u:LY}{dx:D}{j:Int}{Q:VK}(I:Inv X pins σ H s)(hM:RelM fa X.K μ H M)(h1:Rep fa X.K μ H dx x)(h2:Rep fa X.K μ H (.int j) y)(rx:RelV x v)(ry:RelV y u)
 (h:ag (match ja M dx with|some x=>if x.length*j.toNat<=sz/\-(2^63)<=j/\j<2^63 then a9 m (List.replicate j.toNat x).flatten M else .bad|none=>.bad) (aZ fa X.K μ H Q)) :
 wpAny (model X.prog X.w) X.A (binaryOp .Mult v u) (EP X pins σ Q) X.xe s:=by
 cases e1:ja M dx with
 |none=>rw [e1] at h;exact h.elim
 | some xs =>
   rw [e1] at h
   simp only at h
   split at h
   ·next c=>
    obtain ⟨a,vs,rfl,ha,ra⟩:=i5 hM h1 e1
    obtain ⟨hz,k⟩:=fC hM (ra.rep j.toNat) h
    exact Gf pins s σ H _ _ v u Q I rx ry ⟨a,j,vs,rfl,h2,ha,c.2.1,c.2.2,by rw [ra.length,<- cS];exact c.1,k⟩
   ·exact h.elim
end
end LD
namespace LD
open PySem PySem.Spec PyProof.Rows L2 PySem.Builtin
open PySem.Sem (wp)
theorem mX:fillsNumberSlot (.type "tuple") "mul"=pure false:=
 PySem.fillsNumberSlot_seq (id:="tuple.__mul__") (r:=some (.builtin "tuple.__rmul__")) F.slot_tuple_mul.lookup (by decide +kernel) F.slot_tuple_rmul.lookup (by decide +kernel)
theorem rH:seqRepeat? (.type "tuple")=pure (some (.builtin "tuple.__mul__")):=by
 unfold seqRepeat?
 rw [PySem.seqSlot_of (T:="tuple") (name:="__mul__") (id:="tuple.__mul__") F.slot_tuple_mul.lookup (by decide +kernel),PySem.seqSlot_of (T:="tuple") (name:="__rmul__") (id:="tuple.__rmul__") F.slot_tuple_rmul.lookup (by decide +kernel)]
 rfl
theorem oN (a:Int)(t:Tok)(l:Addr)(items:Array LY)(n:Nat)(dd:Option Addr)(sl:Array (Option LY)) :
 Meets (Builtin.«int.__rmul__» ⟨[.int a t,.ref l],[]⟩) (fun _ R s=>s.heap.get? l=some {cls:=.type "tuple",dict:=dd,data:=.seq items n,slots:=sl}/\R (.ok (.ret Value.notImplemented)) s):=
 .of_wp fun prog w A R s h=>by obtain ⟨hp,g,d,tk,os⟩:=s;obtain ⟨hl,h⟩:=h;wp_walk using wpAny_loadPart' hl;exact ⟨_,rfl,h⟩
theorem vg {x:Int}(h0:-(2^63)<=x)(h1:x<2^63):(decide (x < -2^63)||decide (x≥2^63))=false:=by
 rw [decide_eq_false (by omega),decide_eq_false (by omega)];rfl
theorem oR (l:Addr)(items:Array LY)(n:Nat)(dd:Option Addr)(sl:Array (Option LY))(x:Int)(u:Tok)(h0:-(2^63)<=x)(h1:x<2^63)(hc:(items.isEmpty||x==1)=true) :
 Meets (Builtin.«tuple.__mul__» ⟨[.ref l,.int x u],[]⟩) (fun _ R s=>s.heap.get? l=some {cls:=.type "tuple",dict:=dd,data:=.seq items n,slots:=sl}/\R (.ok (.ret (.ref l))) s):=
 .of_wp fun prog w A R s h=>by
  obtain ⟨hp,g,d,tk,os⟩:=s;obtain ⟨hl,h⟩:=h;have f1:=AutoSeq1.idx_int
  wp_walk using wpAny_loadPart' hl
  refine wpAny_ite_false (by rw [vg h0 h1];rfl) ?_
  wp_walk using wpAny_loadPart' hl
  exact ⟨_,rfl,h⟩
theorem oS (l:Addr)(items:Array LY)(n:Nat)(dd:Option Addr)(sl:Array (Option LY))(x:Int)(u:Tok)(h0:-(2^63)<=x)(h1:x<2^63)(hc:(items.isEmpty||x==1)=false)(hc1:(decide (x<=0)||items.isEmpty)=true) :
 Meets (Builtin.«tuple.__mul__» ⟨[.ref l,.int x u],[]⟩) (fun _ R s=>s.heap.get? l=some {cls:=.type "tuple",dict:=dd,data:=.seq items n,slots:=sl}/\R (.ok (.ret (.ref s.heap.objs.size))) {s with heap:=s.heap.push {cls:=Value.type "tuple",data:=Data.seq #[]},toks:=s.toks}):=
 .of_wp fun prog w A R s h=>by
  obtain ⟨hp,g,d,tk,os⟩:=s;obtain ⟨hl,h⟩:=h;have f1:=AutoSeq1.idx_int
  wp_walk using wpAny_loadPart' hl
  refine wpAny_ite_false (by rw [vg h0 h1];rfl) ?_
  wp_walk using wpAny_loadPart' hl
  exact ⟨_,rfl,h⟩
theorem oU (l:Addr)(items:Array LY)(n:Nat)(dd:Option Addr)(sl:Array (Option LY))(x:Int)(u:Tok)(h0:-(2^63)<=x)(h1:x<2^63)(hc:(items.isEmpty||x==1)=false)(hc1:(decide (x<=0)||items.isEmpty)=false)
 (hs:(items.size:Int)*x<=16777216) (hs2:(List.foldl (fun x1 x2=>x1++x2) #[] (List.replicate x.toNat items)).size<=sizeLine) :
 Meets (Builtin.«tuple.__mul__» ⟨[.ref l,.int x u],[]⟩) (fun _ R s=>s.heap.get? l=some {cls:=.type "tuple",dict:=dd,data:=.seq items n,slots:=sl}/\R (.ok (.ret (.ref s.heap.objs.size))) {s with heap:=s.heap.push {cls:=Value.type "tuple",data:=Data.seq (List.foldl (fun x1 x2=>x1++x2) #[] (List.replicate x.toNat items))},toks:=s.toks}):=
 .of_wp fun prog w A R s h=>by
  obtain ⟨hp,g,d,tk,os⟩:=s;obtain ⟨hl,h⟩:=h;have f1:=AutoSeq1.idx_int
  wp_walk using wpAny_loadPart' hl
  refine wpAny_ite_false (by rw [vg h0 h1];rfl) ?_
  wp_walk using wpAny_loadPart' hl
  refine wpAny_ite_false (decide_eq_false (by omega)) ?_
  wp_walk using wpAny_loadPart' hl
  refine wpAny_ite_false (decide_eq_false (by unfold Tuple.tupleTooMany;rw [sizeLine_eq];simp;omega)) ?_
  wp_walk using wpAny_loadPart' hl
  exact ⟨_,rfl,h⟩
section
variable {fa:Fa}{X:Cx}{μ:Mu}{H:Hp}{σ:L2.St}{pins:List (Addr×Obj)}{s:L4}{M:Mem}
theorem pT (its:List LY)(m:Nat):List.foldl (fun x1 x2=>x1++x2) #[] (List.replicate m its.toArray)=(List.replicate m its).flatten.toArray:=by
 have:=foldl_rep its m []
 rw [Oa] at this
 exact this
theorem DU:bD X (binaryOp .Mult) (fun x y H Q=>∃l k xs,x=.ref l/\y=.int k/\cZ X.K H l xs/\-(2^63)<=k/\k<2^63/\xs.length*k.toNat<=sz/\
 ((List.replicate k.toNat xs).flatten=xs->Q (.ref l) H)/\∀p,H p=none->Q (.ref p) (upd H p (.tup (List.replicate k.toNat xs).flatten))):=by
 intro pins s σ H x y v u Q I rx ry h
 obtain ⟨l,k,xs,rfl,rfl,hq,h1,h2,hz,q1,q2⟩:=h
 cases rx
 obtain ⟨t,rfl⟩:=ry
 obtain ⟨its,r,p,hzz⟩:=I.tuple hq
 have hl:=r.length
 obtain ⟨⟨cls,dd,data,sl⟩,ho,hc,n,hd⟩:=id p
 simp only at hc hd
 subst hc hd
 refine wpAny_binaryOp_repeat_ref (T:="tuple") (U:="int") (by decide) ⟨_,ho,rfl⟩ (fun s'=>typeIs_int s' k t) mX F.fills_int_mul F.slot_int_rmul rH F.slot_int_index.lookup
  (call_meets F.slot_int_rmul (typeIs_int s k t) F.entry_int_rmul (F.args_int_rmul_2 _ _) (oN k t l its.toArray n dd sl) ⟨ho,rfl,⟨_,ho,rfl⟩,?_⟩)
 have new:∀(its':List LY),Vals (List.replicate k.toNat xs).flatten its'->EP X pins σ Q (.ref s.heap.objs.size) {s with heap:=s.heap.push {cls:=Value.type "tuple",data:=Data.seq its'.toArray}}:=fun its' r'=>by
  refine ⟨.ref s.heap.objs.size,_,I.laid (t':=s.toks) (o:=.tup (List.replicate k.toNat xs).flatten) (fun b ob q=>L3 _ q) (L7 _) ?_,rfl,q2 _ (I.hok.fresh (L7 _))⟩
  exact ⟨by rw [len_rep,Nat.mul_comm,<- cS];exact hz,_,r',IsTup.new _ _⟩
 by_cases c1:(its.toArray.isEmpty||k==1)=true
 ·refine call_meets F.slot_tuple_mul ⟨_,ho,rfl⟩ F.entry_tuple_mul (F.args_tuple_mul_2 _ _) (oR l its.toArray n dd sl k t h1 h2 c1) ⟨ho,⟨.ref l,H,I,rfl,q1 ?_⟩⟩
  rcases Bool.or_eq_true_iff.mp c1 with z|z
  ·have e:its=[]:=by simpa using z
   subst e
   have e2:xs=[]:=Od.mp hl
   subst e2
   simp
  ·have e:k=1:=by simpa using z
   subst e
   simp
 ·have c1':(its.toArray.isEmpty||k==1)=false:=by simpa using c1
  by_cases c2:(decide (k<=0)||its.toArray.isEmpty)=true
  ·refine call_meets F.slot_tuple_mul ⟨_,ho,rfl⟩ F.entry_tuple_mul (F.args_tuple_mul_2 _ _) (oS l its.toArray n dd sl k t h1 h2 c1' c2) ⟨ho,new [] ?_⟩
   have hk:k<=0:=by
    rcases Bool.or_eq_true_iff.mp c2 with z|z
    ·simpa using z
    ·rw [z] at c1';cases c1'
   have hk0:k.toNat=0:=by omega
   rw [hk0];exact .nil
  ·have c2':(decide (k<=0)||its.toArray.isEmpty)=false:=by simpa using c2
   have hk:0<k:=by
    have:=(Bool.or_eq_false_iff.mp c2').1
    simpa using this
   have hs:(its.toArray.size:Int)*k<=16777216:=by
    have e1:(its.toArray.size:Int)*k=((xs.length*k.toNat:Nat):Int):=by
     rw [L8,<- hl,Int.natCast_mul,Int.toNat_of_nonneg (by omega)]
    rw [e1]
    have:xs.length*k.toNat<=16777216:=hz
    omega
   have hs2:(List.foldl (fun x1 x2=>x1++x2) #[] (List.replicate k.toNat its.toArray)).size<=sizeLine:=by
    rw [pT,L8,len_rep,Nat.mul_comm,<- hl,<- cS];exact hz
   refine call_meets F.slot_tuple_mul ⟨_,ho,rfl⟩ F.entry_tuple_mul (F.args_tuple_mul_2 _ _) (oU l its.toArray n dd sl k t h1 h2 c1' c2' hs hs2) ⟨ho,?_⟩
   rw [pT]
   exact new _ (r.rep k.toNat)
theorem JF (m:Bool):bD X (binaryOp .Mult) (kL fa X.K m .mul):=by
 intro pins s σ H x y v u Q I rx ry h
 obtain ⟨μ,M,dx,dy,hM,h1,h2,h⟩:=h
 have hi:∀i j,dx=.int i->dy=.int j->wpAny (model X.prog X.w) X.A (binaryOp .Mult v u) (EP X pins σ Q) X.xe s:=fun i j e1 e2=>by
  subst e1 e2
  have h:ag (if (-(2^64)<i/\i<2^64)\/(-(2^64)<j/\j<2^64) then .ok (.int (i*j)) M else .bad) (aZ fa X.K μ H Q):=h
  split at h
  ·next c=>exact Gh pins s σ H x y v u Q I rx ry ⟨i,j,h1,h2,c,aY (v:=.int (i*j)) hM h rfl⟩
  ·exact h.elim
 have ht:∀i j,dx=.tup i->dy=.int j->wpAny (model X.prog X.w) X.A (binaryOp .Mult v u) (EP X pins σ Q) X.xe s:=fun i j e1 e2=>by
  subst e1 e2
  have h:ag (if i.length*j.toNat<=sz/\-(2^63)<=j/\j<2^63 then .ok (.tup (List.replicate j.toNat i).flatten) M else .bad) (aZ fa X.K μ H Q):=h
  split at h
  ·next c=>
   have h:aZ fa X.K μ H Q (.tup (List.replicate j.toNat i).flatten) M:=h
   obtain ⟨a,vs,e1,ha,ra⟩:=id h1
   refine DU pins s σ H x y v u Q I rx ry ⟨a,j,vs,e1,h2,ha,c.2.1,c.2.2,by rw [ra.length];exact c.1,fun z=>?_,gG hM (ra.rep j.toNat) h⟩
   refine aY hM h ⟨a,vs,rfl,ha,?_⟩
   have:=ra.rep j.toNat
   rw [z] at this
   exact this
  ·exact h.elim
 have hl:∀j,dy=.int j->ag (match ja M dx with|some x=>if x.length*j.toNat<=sz/\-(2^63)<=j/\j<2^63 then a9 m (List.replicate j.toNat x).flatten M else .bad|none=>.bad) (aZ fa X.K μ H Q)->
  wpAny (model X.prog X.w) X.A (binaryOp .Mult v u) (EP X pins σ Q) X.xe s:=fun j e1 h'=>by
  subst e1
  exact zV (m:=m) I hM h1 h2 rx ry h'
 cases dy with
 |int j=>cases dx<;>first|exact hi _ _ rfl rfl|exact ht _ _ rfl rfl|exact hl _ rfl h
 |_=>cases dx<;>exact h.elim
noncomputable def binOp:mI->Operator
 |.add=>.Add|.sub=>.Sub|.mul=>.Mult|.fdiv=>.FloorDiv|.mod=>.Mod|.pow=>.Pow
theorem JH (m:Bool):∀o:mI,bD X (binaryOp (binOp o)) (kL fa X.K m o)
 |.add=>JI m|.sub=>JD m|.mul=>JF m|.fdiv=>HL m|.mod=>JG m|.pow=>JE m
end
end LD
namespace LD
open PySem PySem.Spec PyProof.Rows L2
section
variable {fa:Fa}{X:Cx}{μ:Mu}{H:Hp}{σ:L2.St}{pins:List (Addr×Obj)}{s:L4}{M:Mem}
theorem G3 {r r':R2}(h:jW X r)(i:∀x y H Q,r' x y H Q->r x y H Q):jW X r':=fun value slice pins s σ H x y v u Q I rx ry q hs=>h value slice pins s σ H x y v u Q I rx ry (i x y H Q q) hs
noncomputable def rIdx (fa:Fa)(K:LX):R2:=fun x y H Q=>∃μ M dx dy d,RelM fa K μ H M/\Rep fa K μ H dx x/\Rep fa K μ H dy y/\cu dx dy M=some d/\aZ fa K μ H Q d M
theorem sq (n:Nat)(i:Int):LD.bz n i=L2.bz n i:=rfl
theorem IY:jW X (rIdx fa X.K):=G3 G2 fun x y H Q h=>by
 obtain ⟨μ,M,dx,dy,d,hM,h1,h2,e,q⟩:=h
 have gen:∀i,dy=.int i->((bL M dx).bind fun ds=>(LD.bz ds.length i).bind fun j=>ds[j]?)=some d->FQ X.K x y H Q:=fun i e0 e'=>by
  subst e0
  clear e
  have e:=e'
  clear e'
  cases e1:bL M dx with
  |none=>rw [e1] at e;cases e
  | some ds =>
    rw [e1,Option.bind_some] at e
    obtain ⟨a,vs,rfl,hq,r⟩:=i4 hM h1 e1
    cases e2:LD.bz ds.length i with
    |none=>rw [e2] at e;cases e
    | some j =>
      rw [e2,Option.bind_some] at e
      obtain ⟨v,hv,rv⟩:=r.get e
      have he:qo vs i=some v:=by
       unfold qo
       rw [r.length,<- sq,e2];exact hv
      rcases hq with hq|hq
      ·exact .inl ⟨a,vs,i,v,rfl,h2,hq,he,aY hM q rv⟩
      ·exact .inr (.inl ⟨a,vs,i,v,rfl,h2,hq,he,aY hM q rv⟩)
 have str:∀z i,dx=.str z->dy=.int i->FQ X.K x y H Q:=fun z i e1 e2=>by
  subst e1 e2
  have e:(if z.cps.size<=sz then (LD.bz z.cps.size i).bind fun j=>(z.cps[j]?).map fun c=>D.str ⟨#[c]⟩ else none)=some d:=e
  split at e
  ·next hz=>
   cases e2:LD.bz z.cps.size i with
   |none=>rw [e2] at e;cases e
   | some j =>
     rw [e2,Option.bind_some] at e
     cases e3:z.cps[j]? with
     |none=>rw [e3] at e;cases e
     | some c =>
       rw [e3] at e
       have e4:D.str ⟨#[c]⟩=d:=L9 e
       subst e4
       refine .inr (.inr ⟨z,i,c,h1,h2,by rw [<- cS];exact hz,?_,aY hM q rfl⟩)
       unfold qo
       rw [show z.cps.toList.length=z.cps.size by simp,<- sq,e2]
       simpa using e3
  ·cases e
 cases dy with
 |int i=>cases dx<;>first|exact str _ _ rfl rfl|exact gen _ rfl e
 |_=>cases dx<;>cases (show (none:Option D)=some d from e)
theorem Fm {r r':V->Option Int->Option Int->Hp->VK->Prop}(h:kF X r)(i:∀x lo hi H Q,r' x lo hi H Q->r x lo hi H Q):kF X r':=fun pins s σ H x v vl vu lo hi sl Q I rx hs pl pu q=>h pins s σ H x v vl vu lo hi sl Q I rx hs pl pu (i x lo hi H Q q)
noncomputable def nU:D->Option (Option Int)
 |.non=>some none
 |.int i=>some (some i)
 |_=>none
theorem mP (n d:Nat)(x:D):LD.aI n d x=(nU x).map (HT.aI n d):=by
 cases x<;>rfl
theorem rE:kF X (fun x lo hi H Q=>∃a xs,x=.ref a/\cZ X.K H a xs/\(HT.aI xs.length 0 lo=0/\HT.aI xs.length xs.length hi=xs.length)/\Q (.ref a) H):=by
 intro pins s σ H x v vl vu lo hi sl Q I rx hs pl pu h
 obtain ⟨a,xs,rfl,hx,hw,q⟩:=h
 cases rx
 obtain ⟨its,r,ht,hz⟩:=I.tuple hx
 refine ⟨"tuple",_,MM.lookup,ht.typeIs,?_⟩
 have hlen:its.toArray.size=xs.length:=by rw [L8];exact r.length.symm
 rw [<- hlen] at hw
 obtain ⟨os,hos,hcs,hds⟩:=id hs
 have hTs:s.TypeIs (.ref sl) "slice":=⟨os,hos,hcs⟩
 unfold getItem
 try with_reducible refine tqo ?_
 first|refine tqa (tqb ?_)|skip
 refine tqa (wpAny_sequenceKey ht.typeIs (by decide) ?_)
 refine tqa (wpAny_callSpecial?_slot (name:=Str.ofString "__getitem__") ht.typeIs MM
  (wpAny_call_entry MM ht.typeIs entry_tuple_getitem ?_ (args_tuple_getitem _ _)))
 show wpAny _ _ (Builtin.Tuple.tupleItemsOf (.ref a) >>= _) _ _ s
 refine tqa (tupleItemsOf_ ht ?_)
 refine tqa (wpAny_typeOf hTs ?_)
 rw [if_pos (by decide)]
 refine tqa (HT.iY hs pl pu ?_)
 have hyes:(((HT.aI its.toArray.size 0 lo:Nat):Int)==0&&(1:Int)==1&&(HT.aI its.toArray.size its.toArray.size hi-HT.aI its.toArray.size 0 lo)==its.toArray.size)=true:=by
  rw [hw.1,hw.2];simp
 show wpAny _ _ (if (((HT.aI its.toArray.size 0 lo:Nat):Int)==0&&(1:Int)==1&&(HT.aI its.toArray.size its.toArray.size hi-HT.aI its.toArray.size 0 lo)==its.toArray.size)=true then _ else _) _ _ s
 rw [if_pos hyes]
 refine tqa (m:=Builtin.Tuple.tupleIsExact (.ref a)) ?_
 unfold Builtin.Tuple.tupleIsExact
 refine tqa (wpAny_typeOf ht.typeIs ?_)
 refine tqb ?_
 rw [if_pos (by decide)]
 exact tqa (wpAny_rule (tqb ⟨_,rfl,tqb ⟨.ref a,H,I,rfl,q⟩⟩))
noncomputable def Ky (fa:Fa)(K:LX)(m:Bool):V->Option Int->Option Int->Hp->VK->Prop:=fun x lo hi H Q=>∃μ M dx dl dh,RelM fa K μ H M/\Rep fa K μ H dx x/\nU dl=some lo/\nU dh=some hi/\ag (fE m dx dl dh M) (aZ fa K μ H Q)
theorem Dl (m:Bool):kF X (Ky fa X.K m):=by
 refine Fm (Dm.or (Fi.or rE)) fun x lo hi H Q h=>?_
 obtain ⟨μ,M,dx,dl,dh,hM,h1,e1,e2,h⟩:=h
 have gen:ag (match d8 M dx with
  | some xs => match LD.aI xs.length 0 dl, LD.aI xs.length xs.length dh with
    |some l,some h=>a9 m (cut xs l h) M
    |_,_=>.bad
  |none=>.bad) (aZ fa X.K μ H Q)->FK X.K x lo hi H Q:=fun h=>by
  cases e:d8 M dx with
  |none=>rw [e] at h;exact h.elim
  | some xs =>
    rw [e] at h
    simp only [mP,e1,e2,Option.map_some] at h
    obtain ⟨a,vs,rfl,hq,r⟩:=bF hM h1 e
    have hl:=r.length
    obtain ⟨_,k⟩:=fC hM ((r.drop (HT.aI xs.length 0 lo)).take (HT.aI xs.length xs.length hi-HT.aI xs.length 0 lo)) h
    refine ⟨a,vs,rfl,hq,?_⟩
    unfold lD
    rw [hl]
    exact k
 have tup:∀xs,dx=.tup xs->FJ X.K x lo hi H Q\/∃a xs,x=.ref a/\cZ X.K H a xs/\(HT.aI xs.length 0 lo=0/\HT.aI xs.length xs.length hi=xs.length)/\Q (.ref a) H:=fun xs e=>by
  subst e
  have h:ag (match LD.aI xs.length 0 dl,LD.aI xs.length xs.length dh with
   |some l,some h=>.ok (.tup (cut xs l h)) M
   |_,_=>.bad) (aZ fa X.K μ H Q):=h
  simp only [mP,e1,e2,Option.map_some] at h
  have h:aZ fa X.K μ H Q (.tup (cut xs (HT.aI xs.length 0 lo) (HT.aI xs.length xs.length hi))) M:=h
  obtain ⟨a,vs,rfl,hq,r⟩:=h1
  have hl:=r.length
  by_cases hw:HT.aI vs.length 0 lo=0/\HT.aI vs.length vs.length hi=vs.length
  ·refine .inr ⟨a,vs,rfl,hq,hw,?_⟩
   rw [hl] at hw
   have e3:cut xs (HT.aI xs.length 0 lo) (HT.aI xs.length xs.length hi)=xs:=by rw [hw.1,hw.2];simp [cut]
   rw [e3] at h
   exact aY hM h ⟨a,vs,rfl,hq,r⟩
  ·refine .inl ⟨a,vs,rfl,hq,hw,?_⟩
   have k:=gG hM ((r.drop (HT.aI xs.length 0 lo)).take (HT.aI xs.length xs.length hi-HT.aI xs.length 0 lo)) h
   unfold lD
   rw [hl]
   exact k
 cases dx<;>first|exact .inr (tup _ rfl)|exact .inl (gen h)
noncomputable def mR (fa:Fa)(K:LX)(f:tD):List V->Hp->VK->Prop:=fun vs H Q=>∃μ M ds,RelM fa K μ H M/\aF fa K μ H ds vs/\ag (dq f ds M) (aZ fa K μ H Q)
theorem nO {d:D}{vs:List V}{K:LX}(h:aF fa K μ H [d] vs):∃v,vs=[v]/\Rep fa K μ H d v:=by
 obtain ⟨v,r,rfl,h1,h2⟩:=h
 obtain rfl:r=[]:=h2
 exact ⟨v,rfl,h1⟩
theorem Jc:cy X (.builtin "len") (mR fa X.K .len):=jf (sR.or sQ) fun vs H Q h=>by
 obtain ⟨μ,M,ds,hM,r,h⟩:=h
 match ds,r,h with
 |[],_,h=>exact h.elim
 |d::_::_,_,h=>cases d<;>exact h.elim
 | [d], r, h =>
   obtain ⟨v,rfl,hv⟩:=nO r
   have gen:ag (match bL M d with|some xs=>.ok (.int xs.length) M|none=>.bad) (aZ fa X.K μ H Q)->∃p ys,[v]=[.ref p]/\(bV X.K H p ys\/cZ X.K H p ys)/\Q (.int ys.length) H:=fun h=>by
    cases e:bL M d with
    |none=>rw [e] at h;exact h.elim
    | some xs =>
      rw [e] at h
      obtain ⟨a,vs,rfl,hq,r⟩:=i4 hM hv e
      refine ⟨a,vs,rfl,hq,?_⟩
      rw [r.length]
      exact aY (v:=.int xs.length) hM h rfl
   have str:∀x,d=.str x->∃z,[v]=[V.str z]/\z.length<=sizeLine/\Q (.int z.length) H:=fun x e=>by
    subst e
    have h:ag (if x.cps.size<=sz then .ok (.int x.cps.size) M else .bad) (aZ fa X.K μ H Q):=h
    split at h
    ·next c=>exact ⟨x,by rw [show v=.str x from hv],by rw [<- cS];exact c,aY (v:=.int x.cps.size) hM h rfl⟩
    ·exact h.elim
   cases d<;>first|exact .inr (str _ rfl)|exact .inl (gen h)
theorem Eh:cy X (.type "tuple") (mR fa X.K .tuple):=jf qz fun vs H Q h=>by
 obtain ⟨μ,M,ds,hM,r,h⟩:=h
 match ds,r,h with
 |[],_,h=>exact h.elim
 |d::_::_,_,h=>cases d<;>exact h.elim
 | [d], r, h =>
   obtain ⟨v,rfl,hv⟩:=nO r
   have gen:ag (match d8 M d with|some xs=>.ok (.tup xs) M|none=>.bad) (aZ fa X.K μ H Q)->∃p ys,[v]=[.ref p]/\((bV X.K H p ys/\∀l,H l=none->Q (.ref l) (upd H l (.tup ys)))\/(cZ X.K H p ys/\Q (.ref p) H)):=fun h=>by
    cases e:d8 M d with
    |none=>rw [e] at h;exact h.elim
    | some xs =>
      rw [e] at h
      obtain ⟨a,vs,rfl,hq,r⟩:=bF hM hv e
      exact ⟨a,vs,rfl,.inl ⟨hq,gG hM r h⟩⟩
   have tup:∀x,d=.tup x->∃p ys,[v]=[.ref p]/\((bV X.K H p ys/\∀l,H l=none->Q (.ref l) (upd H l (.tup ys)))\/(cZ X.K H p ys/\Q (.ref p) H)):=fun x e=>by
    subst e
    obtain ⟨a,vs,rfl,hq,r⟩:=id hv
    exact ⟨a,vs,rfl,.inr ⟨hq,aY hM h hv⟩⟩
   cases d<;>first|exact tup _ rfl|exact gen h
theorem Hf (m:Bool):cy X (.type "list") (mR fa X.K (.list m)):=jf sP fun vs H Q h=>by
 obtain ⟨μ,M,ds,hM,r,h⟩:=h
 match ds,r,h with
 |[],_,h=>exact h.elim
 |_::_::_,_,h=>exact h.elim
 | [d], r, h =>
   obtain ⟨v,rfl,hv⟩:=nO r
   have h:ag (match bL M d with|some xs=>a9 m xs M|none=>.bad) (aZ fa X.K μ H Q):=h
   cases e:bL M d with
   |none=>rw [e] at h;exact h.elim
   | some xs =>
     rw [e] at h
     obtain ⟨a,vs,rfl,hq,r⟩:=i4 hM hv e
     obtain ⟨_,k⟩:=fC hM r h
     exact ⟨a,vs,rfl,hq,k⟩
end
end LD
namespace LD
open PySem PySem.Spec PyProof.Rows L2
section
variable {fa:Fa}{X:Cx}{μ:Mu}{H:Hp}{σ:L2.St}{pins:List (Addr×Obj)}{s:L4}{M:Mem}
theorem Kf {d:D}{v:V}{k:Bool}(hM:RelM fa X.K μ H M)(h:Rep fa X.K μ H d v)(e:jA M d=some k):Ba X.K v H k:=by
 cases d with
 |non=>obtain rfl:v=.non:=h;exact (L9 e).symm
 |bl b=>obtain rfl:v=.bl b:=h;exact (L9 e).symm
 |int i=>obtain rfl:v=.int i:=h;exact (L9 e).symm
 | str x =>
   obtain rfl:v=.str x:=h
   have e:(if x.cps.size<=sz then some (x.cps.size != 0) else none)=some k:=e
   split at e
   ·next c=>
    refine ⟨by rw [<- cS];exact c,?_⟩
    rw [<- L9 e]
    show (x.cps.size != 0)=((x.cps.size:Int) != 0)
    rw [NS];simp
   ·cases e
 | tup ds =>
   obtain ⟨a,vs,rfl,hq,r⟩:=h
   refine .inr (.inl ⟨vs,hq,?_⟩)
   rw [<- L9 e]
   have:=r.length
   cases vs<;>cases ds<;>simp_all
 | lst ds =>
   obtain ⟨a,vs,rfl,hq,r⟩:=bF (ds:=ds) hM h rfl
   refine .inl ⟨vs,hq,?_⟩
   rw [<- L9 e]
   have:=r.length
   cases vs<;>cases ds<;>simp_all
 | frz ds =>
   obtain ⟨a,vs,rfl,hq,r⟩:=bF (ds:=ds) hM h rfl
   refine .inl ⟨vs,hq,?_⟩
   rw [<- L9 e]
   have:=r.length
   cases vs<;>cases ds<;>simp_all
 | cell c =>
   have e:(M[c]?).map (fun ds=>!ds.isEmpty)=some k:=e
   cases e1:M[c]? with
   |none=>rw [e1] at e;cases e
   | some ds =>
     rw [e1] at e
     obtain ⟨a,vs,rfl,hq,r⟩:=bF (ds:=ds) hM h e1
     refine .inl ⟨vs,hq,?_⟩
     rw [<- L9 e]
     have:=r.length
     cases vs<;>cases ds<;>simp_all
 |fn f=>cases e
 |exc y p=>cases e
theorem xp:∀{ds:List D}{bs:List Bool}{vs:List V}{us:List LY},boolsOf ds=some bs->aF fa X.K μ H ds vs->Vals vs us->PyProof.Rows.LSm.BoolsAre us bs:=by
 intro ds
 induction ds with
 | nil =>
   intro bs vs us e h r
   obtain rfl:vs=[]:=h
   cases r;cases e
   exact .nil
 | cons d ds ih =>
   intro bs vs us e h r
   obtain ⟨v,vr,rfl,h1,h2⟩:=h
   cases r with
   | cons r1 r2 =>
     cases d with
     | bl b =>
       have e:(boolsOf ds).map (b::·)=some bs:=e
       cases e1:boolsOf ds with
       |none=>rw [e1] at e;cases e
       | some cs =>
         rw [e1] at e
         have e2:b::cs=bs:=L9 e
         subst e2
         obtain rfl:v=.bl b:=h1
         obtain rfl:_=Value.bool b:=r1
         exact .cons b (ih e1 h2 r2)
     |_=>cases e
theorem pf:cy X (.builtin "all") (fun xs H Q=>∃μ ds bs p vs,xs=[.ref p]/\X.calm=true/\bV X.K H p vs/\aF fa X.K μ H ds vs/\boolsOf ds=some bs/\Q (.bl (bs.all id)) H):=by
 intro pins s σ H xs us Q I r h
 obtain ⟨μ,ds,bs,p,vs,rfl,hc,hq,rl,eb,q⟩:=h
 obtain ⟨u,rfl,rx⟩:=vals1 r
 cases rx
 obtain ⟨its,rv,pl,hz⟩:=I.list hq
 have hb:=xp eb rl rv
 have hlt:p<s.heap.objs.size:=pl.lt
 refine call_all_walk (wpAny_pyIter_list pl.isList ?_)
 refine ⟨s.heap.objs.size,[s.heap.objs.size,p],[s.heap.objs.size],its.toArray.size,_,_,fun i=>(bs[i]?).getD true,rfl,Walks.list (A:=X.A.in1) (I.ok.hd hc) _ p (MO hlt) its.toArray,
  ⟨⟨_,Mo _ rfl,rfl,rfl⟩,pl.isList.push _⟩,fun i v s' Q' E' hP hQ=>?_,fun h' tk hk=>?_⟩
 ·obtain ⟨b,e,rfl⟩:=hb.get i v (by simpa using hP)
  simp only [e,Option.getD_some] at hQ
  exact tqp hQ
 ·have e:((List.range its.toArray.size).all fun i=>(bs[i]?).getD true)=bs.all id:=by
   rw [L8,hb.length];exact PyProof.Rows.LSm.range_all bs
  rw [e]
  exact ⟨.bl _,H,I.kept (PyProof.Rows.LSm.kept_iter hk),rfl,q⟩
theorem zU:∀{ds:List D}{bs:List Int}{vs:List V}{us:List LY},intsOf ds=some bs->aF fa X.K μ H ds vs->Vals vs us->IntsAre us bs:=by
 intro ds
 induction ds with
 | nil =>
   intro bs vs us e h r
   obtain rfl:vs=[]:=h
   cases r;cases e
   exact .nil
 | cons d ds ih =>
   intro bs vs us e h r
   obtain ⟨v,vr,rfl,h1,h2⟩:=h
   cases r with
   | cons r1 r2 =>
     cases d with
     | int b =>
       have e:(intsOf ds).map (b::·)=some bs:=e
       cases e1:intsOf ds with
       |none=>rw [e1] at e;cases e
       | some cs =>
         rw [e1] at e
         have e2:b::cs=bs:=L9 e
         subst e2
         obtain rfl:v=.int b:=h1
         obtain ⟨t,rfl⟩:=r1
         exact .cons b t (ih e1 h2 r2)
     |_=>cases e
theorem qA:cy X (.builtin "sum") (fun xs H Q=>∃μ ds bs p vs,xs=[.ref p]/\X.calm=true/\bV X.K H p vs/\aF fa X.K μ H ds vs/\intsOf ds=some bs/\Q (.int bs.sum) H):=by
 intro pins s σ H xs us Q I r h
 obtain ⟨μ,ds,ns,p,vs,rfl,hc,hq,rl,eb,q⟩:=h
 obtain ⟨u,rfl,rx⟩:=vals1 r
 cases rx
 obtain ⟨its,rv,pl,hz⟩:=I.list hq
 have hi:=zU eb rl rv
 obtain ⟨xs,hx⟩:=hi.allInts.items
 have hl':s.heap.IsList p (intItems xs):=hx ▸ pl.isList
 refine sum_intListG (I.ok.hd hc) hl' fun h' tk t' hk=>?_
 have e1:ns=xs.toList.map (·.1):=by
  rw [<- nums_intItems,<- hx]
  exact (show numsOf its.toArray.toList=ns from hi.numsOf).symm
 have e2:preSum (numAt xs) xs.size=ns.sum:=by
  rw [preSum_eq,Nu (by simp),e1]
 rw [e2]
 exact ⟨.int _,H,I.kept hk,⟨t',rfl⟩,q⟩
theorem Jd (hc:X.calm=true):cy X (.builtin "all") (mR fa X.K .all):=jf (pf (fa:=fa)) fun vs H Q h=>by
 obtain ⟨μ,M,ds,hM,r,h⟩:=h
 match ds,r,h with
 |[],_,h=>exact h.elim
 |d::_::_,_,h=>exact h.elim
 | [d], r, h =>
   obtain ⟨v,rfl,hv⟩:=nO r
   have h:ag (match d8 M d with|some xs=>(match boolsOf xs with|some bs=>.ok (.bl (bs.all id)) M|none=>.bad)|none=>.bad) (aZ fa X.K μ H Q):=h
   cases e:d8 M d with
   |none=>rw [e] at h;exact h.elim
   | some xs =>
     rw [e] at h
     simp only at h
     cases e2:boolsOf xs with
     |none=>rw [e2] at h;exact h.elim
     | some bs =>
       rw [e2] at h
       obtain ⟨a,vs,rfl,hq,r⟩:=bF hM hv e
       exact ⟨μ,xs,bs,a,vs,rfl,hc,hq,r,e2,aY (v:=.bl (bs.all id)) hM h rfl⟩
theorem Jb (hc:X.calm=true):cy X (.builtin "sum") (mR fa X.K .sum):=jf (qA (fa:=fa)) fun vs H Q h=>by
 obtain ⟨μ,M,ds,hM,r,h⟩:=h
 match ds,r,h with
 |[],_,h=>exact h.elim
 |d::_::_,_,h=>exact h.elim
 | [d], r, h =>
   obtain ⟨v,rfl,hv⟩:=nO r
   have h:ag (match d8 M d with|some xs=>(match intsOf xs with|some bs=>.ok (.int bs.sum) M|none=>.bad)|none=>.bad) (aZ fa X.K μ H Q):=h
   cases e:d8 M d with
   |none=>rw [e] at h;exact h.elim
   | some xs =>
     rw [e] at h
     simp only at h
     cases e2:intsOf xs with
     |none=>rw [e2] at h;exact h.elim
     | some bs =>
       rw [e2] at h
       obtain ⟨a,vs,rfl,hq,r⟩:=bF hM hv e
       exact ⟨μ,xs,bs,a,vs,rfl,hc,hq,r,e2,aY (v:=.int bs.sum) hM h rfl⟩
noncomputable def tyName:Ty->String
 |.int=>"int" | .bool=>"bool" | .str=>"str" | .tuple=>"tuple" | .list=>"list" | .own _=>""
noncomputable def JM:D->String
 |.non=>"NoneType" | .bl _=>"bool" | .int _=>"int" | .str _=>"str" | .tup _=>"tuple" | _=>"list"
theorem Ig (t:Ty)(d:D)(b:Bool)(ht:∀c,t≠.own c)(e:dA t d=some b):PySem.W.kitOne X.K (.type (JM d)) (.type (tyName t))=some b:=by
 cases t with
 |own c=>exact absurd rfl (ht c)
 |_=>cases d<;>first|(cases (show (none:Option Bool)=some b from e))|(have e':=L9 e;subst e';(first|rfl|decide +kernel))
theorem zl {d:D}{v:V}{b:Bool}{t:Ty}(hM:RelM fa X.K μ H M)(h:Rep fa X.K μ H d v)(e:dA t d=some b)(I:Inv X pins σ H s){u c:LY}(r:RelV v u){Q:LY->L4->Prop}
 (ek:PySem.W.kitOne X.K (.type (JM d)) c=some b) (q:∀tk,Q (.bool b) {s with toks:=tk}):wpAny (model X.prog X.w) X.A (call (.builtin "isinstance") [u,c]) Q X.xe s:=by
 cases d with
 |non=>obtain rfl:v=.non:=h;exact jr I r .non ek q
 |bl x=>obtain rfl:v=.bl x:=h;exact jr I r (.bl x) ek q
 |int x=>obtain rfl:v=.int x:=h;exact jr I r (.int x) ek q
 |str x=>obtain rfl:v=.str x:=h;exact jr I r (.str x) ek q
 | tup ds =>
   obtain ⟨a,vs,rfl,hq,_⟩:=h
   obtain rfl:u=Value.ref a:=r
   obtain ⟨its,rv,⟨o,h1,h2,_⟩,_⟩:=I.tuple hq
   exact MX PySem.W.kitx_tuple I.kIn ⟨o,h1,h2⟩ ek (fun z=>nomatch z) q
 | lst ds =>
   obtain ⟨a,vs,rfl,hq,_⟩:=bF (ds:=ds) hM h rfl
   obtain rfl:u=Value.ref a:=r
   obtain ⟨its,rv,⟨o,n,h1,h2,_⟩,_⟩:=I.list hq
   exact MX PySem.W.kitx_list I.kIn ⟨o,h1,h2⟩ ek (fun z=>nomatch z) q
 | frz ds =>
   obtain ⟨a,vs,rfl,hq,_⟩:=bF (ds:=ds) hM h rfl
   obtain rfl:u=Value.ref a:=r
   obtain ⟨its,rv,⟨o,n,h1,h2,_⟩,_⟩:=I.list hq
   exact MX PySem.W.kitx_list I.kIn ⟨o,h1,h2⟩ ek (fun z=>nomatch z) q
 | cell k =>
   obtain ⟨a,rfl,hk⟩:=h
   obtain ⟨ds,vs,_,hq,_⟩:=hM.mu_lt hk
   obtain rfl:u=Value.ref a:=r
   obtain ⟨its,rv,⟨o,n,h1,h2,_⟩,_⟩:=I.list (bV.of hq)
   exact MX PySem.W.kitx_list I.kIn ⟨o,h1,h2⟩ ek (fun z=>nomatch z) q
 |fn f=>cases e
 |exc y p=>cases e
noncomputable def Iy (fa:Fa)(K:LX)(t:Ty):List V->Hp->VK->Prop:=fun vs H Q=>∃μ M d v b,vs=[v,.ty (tyName t)]/\RelM fa K μ H M/\Rep fa K μ H d v/\dA t d=some b/\Q (.bl b) H
theorem Hg (t:Ty)(ht:∀c,t≠.own c):cy X (.builtin "isinstance") (Iy fa X.K t):=by
 intro pins s σ H xs us Q I r h
 obtain ⟨μ,M,d,v,b,rfl,hM,hv,e,q⟩:=h
 obtain ⟨u,w,rfl,r1,r2⟩:=vals2 r
 obtain rfl:w=Value.type (tyName t):=r2
 exact zl hM hv e I r1 (Ig t d b ht e) fun tk=>⟨.bl b,H,I.tok _,rfl,q⟩
end
end LD
namespace LD
open PySem PySem.Spec PyProof.Rows L2
section
variable {fa:Fa}{X:Cx}
abbrev DE (fa:Fa)(X:Cx)(e:Expr)(g:Env->Mem->Res D):Prop:=PE X e (tE fa X.K g)
abbrev DT (fa:Fa)(X:Cx)(e:Expr)(g:Env->Mem->Res Bool):Prop:=PT X e (tT fa X.K g)
abbrev DW (fa:Fa)(X:Cx)(e:Expr)(g:Env->Mem->Res Bool):Prop:=PW X e (tT fa X.K g)
abbrev DA (fa:Fa)(X:Cx)(es:List Expr)(g:Env->Mem->Res (List D)):Prop:=PA X es (tA fa X.K g)
abbrev DS (fa:Fa)(X:Cx)(st:Stmt)(g:Env->Mem->Res Fl):Prop:=PS X st (tF fa X g)
abbrev mG (fa:Fa)(X:Cx)(st:List Stmt)(g:Env->Mem->Res Fl):Prop:=lI X st (tF fa X g)
variable {a b d:Expr}{ga gb gd:Env->Mem->Res D}{pos:Pos}
theorem Jk {i:Nat}{x:Str}(hN:X.N[i]?=some x)(hv:qr X.env.scope x)(hd:(x==("__debug__":Str))=false)(hcd:(x==("__classdict__":Str))=false) :
 DE fa X (.Name x pos) (fun Z M=>bR M (Z[i]?.getD none)):=br (nS hN hv hd hcd) fun σ H Q ⟨μ,Z,M,hE,hM,h⟩=>by
 obtain ⟨d,e,w⟩:=jN h
 have e':Z[i]?=some (some d):=by
  cases q:Z[i]? with
  |none=>rw [q] at e;cases e
  |some o=>rw [q] at e;simp at e;rw [e]
 obtain ⟨v,h1,h2⟩:=hE.at' i d e'
 exact ⟨v,h1,aY hM w h2⟩
theorem iT {e:Expr}{dc:D}{v:V}(h:PE X e (tC v))(r:∀μ H,Rep fa X.K μ H dc v):DE fa X e (fun _ M=>.ok dc M):=br h fun σ H Q ⟨μ,Z,M,hE,hM,h⟩=>aY hM h (r μ H)
theorem Ju {i:Int}{j:Nat}:DE fa X (.Constant (.int i) j pos) (fun _ M=>.ok (.int i) M):=iT (v:=.int i) xC fun _ _=>rfl
theorem HH {i:Bool}{j:Nat}:DE fa X (.Constant (.bool i) j pos) (fun _ M=>.ok (.bl i) M):=iT (v:=.bl i) II fun _ _=>rfl
theorem Jm {i:Str}{j:Nat}:DE fa X (.Constant (.str i) j pos) (fun _ M=>.ok (.str i) M):=iT (v:=.str i) F2 fun _ _=>rfl
theorem Jq {j:Nat}:DE fa X (.Constant .none j pos) (fun _ M=>.ok .non M):=iT (v:=.non) F6 fun _ _=>rfl
theorem t2 {μ:Mu}{H:Hp}{σ:L2.St}{Z:Env}{M:Mem}{β:Type}{f:D->D->Mem->Res β}{P:β->Mem->Prop}{R:V->V->Hp->Prop}(hE:a7 fa X.K μ H σ Z)(hM:RelM fa X.K μ H M)
 (h:ag ((ga Z M).bind fun x M=>(gb Z M).bind fun y M=>f x y M) P)
 (k:∀x y M2 v u H2 μ2,Ext μ H μ2 H2->a7 fa X.K μ2 H2 σ Z->RelM fa X.K μ2 H2 M2->Rep fa X.K μ2 H2 x v->Rep fa X.K μ2 H2 y u->ag (f x y M2) P->R v u H2) :
 tE fa X.K ga σ H fun v H1=>tE fa X.K gb σ H1 fun u H2=>R v u H2:=
 t1 hE hM h fun x M1 v H1 μ1 x1 hE1 hM1 r1 h1=>t1 hE1 hM1 h1 fun y M2 u H2 μ2 x2 hE2 hM2 r2 h2=>k x y M2 v u H2 μ2 (x1.trans x2) hE2 hM2 (r1.ext x2) r2 h2
theorem Jz (m:Bool)(o:mI)(ha:DE fa X a ga)(hb:DE fa X b gb):DE fa X (.BinOp a (binOp o) b pos) (fun Z M=>(ga Z M).bind fun x M=>(gb Z M).bind fun y M=>gL m o x y M):=
 br (IE (JH m o) ha hb) fun σ H Q ⟨μ,Z,M,hE,hM,h⟩=>t2 hE hM h fun x y M2 v u H2 μ2 x2 hE2 hM2 r1 r2 h2=>⟨μ2,M2,x,y,hM2,r1,r2,jn h2 x2⟩
theorem nY {r:Option Bool}{M:Mem}{P:D->Mem->Prop}(h:ag ((bR M r).bind fun b M=>.ok (.bl b) M) P):∃b,r=some b/\P (.bl b) M:=by
 obtain ⟨b,M1,e,q⟩:=aJ h
 cases r with
 |none=>cases e
 |some b'=>cases e;exact ⟨_,rfl,q⟩
theorem Jx (hu:Rm X)(o:iw)(ha:DE fa X a ga)(hb:DE fa X b gb)(hm:behindInMarks (dF o) b=false) :
 DE fa X (.Compare a [dF o] [b] pos) (fun Z M=>(ga Z M).bind fun x M=>(gb Z M).bind fun y M=>(bR M (bJ o x y M)).bind fun b M=>.ok (.bl b) M):=
 br (uj (mi hu o) ha hb hm) fun σ H Q ⟨μ,Z,M,hE,hM,h⟩=>t2 hE hM h fun x y M2 v u H2 μ2 x2 hE2 hM2 r1 r2 h2=>by
  obtain ⟨b,e,q⟩:=nY h2
  exact ⟨μ2,M2,x,y,b,hM2,r1,r2,e,aY (v:=.bl b) hM2 (q.ext x2) rfl⟩
theorem Hn (hu:Rm X)(o:iw)(ha:DE fa X a ga)(hb:DE fa X b gb)(hm:behindInMarks (dF o) b=false) :
 DT fa X (.Compare a [dF o] [b] pos) (fun Z M=>((ga Z M).bind fun x M=>(gb Z M).bind fun y M=>(bR M (bJ o x y M)).bind fun b M=>.ok (.bl b) M).bind fun x M=>bR M (jA M x)):=
 jK (oP (mi hu o) ha hb hm) fun σ H Q ⟨μ,Z,M,hE,hM,h⟩=>by
  obtain ⟨z,M3,e,q⟩:=aJ h
  have h':ag ((ga Z M).bind fun x M=>(gb Z M).bind fun y M=>(bR M (bJ o x y M)).bind fun b M=>.ok (.bl b) M) (fun d M=>d=z/\M=M3):=by rw [e];exact ⟨rfl,rfl⟩
  refine t2 hE hM h' fun x y M2 v u H2 μ2 x2 hE2 hM2 r1 r2 h2=>?_
  obtain ⟨b,e1,e2,e3⟩:=nY h2
  subst e2 e3
  exact ⟨μ2,M2,x,y,b,hM2,r1,r2,e1,b,rfl,q H2 μ2 x2 hM2⟩
theorem C3 {g:Env->Mem->Res D}{σ:L2.St}{H:Hp}{Q:Bool->Hp->Prop}(hb:∀Z M x M',g Z M=.ok x M'->∃k,x=.bl k)(h:tT fa X.K (fun Z M=>(g Z M).bind fun x M=>bR M (jA M x)) σ H Q) :
 tE fa X.K g σ H (fun x H'=>∃k,x=.bl k/\Q k H'):=by
 obtain ⟨μ,Z,M,hE,hM,h⟩:=h
 obtain ⟨x,M1,e,q⟩:=aJ h
 obtain ⟨k,rfl⟩:=hb Z M x M1 e
 refine ⟨μ,Z,M,hE,hM,?_⟩
 rw [e]
 intro v H1 μ1 x1 m1 r1
 obtain rfl:v=.bl k:=r1
 exact ⟨k,rfl,q H1 μ1 x1 m1⟩
theorem B6 {o o':iw}{gc:Env->Mem->Res D}(σ:L2.St)(H:Hp)(Q:VK):tE fa X.K (fun Z M=>(ga Z M).bind fun x M=>(gb Z M).bind fun y M=>(bR M (bJ o x y M)).bind fun k M=>
 if k then (gc Z M).bind fun z M=>(bR M (bJ o' y z M)).bind fun b M=>.ok (.bl b) M else .ok (.bl false) M) σ H Q->rf (fZ fa X.K o) (fZ fa X.K o') (tE fa X.K ga) (tE fa X.K gb) (tE fa X.K gc) σ H Q:=fun ⟨μ,Z,M,hE,hM,h⟩=>by
 refine t2 hE hM h fun x y M2 v u H2 μ2 x2 hE2 hM2 r1 r2 h2=>?_
 obtain ⟨k,M3,e,q⟩:=aJ h2
 cases ec:bJ o x y M2 with
 |none=>rw [ec] at e;cases e
 | some k' =>
   rw [ec] at e
   cases e
   refine ⟨μ2,_,x,y,k,hM2,r1,r2,ec,k,rfl,?_⟩
   cases k with
   |false=>exact aY (v:=.bl false) hM2 (aZ.ext q x2) rfl
   | true =>
     refine t1 hE2 hM2 q fun z M4 w H4 μ4 x4 hE4 hM4 r4 h4=>?_
     obtain ⟨b,e4,q4⟩:=nY h4
     exact ⟨μ4,M4,y,z,b,hM4,r2.ext x4,r4,e4,aY (v:=.bl b) hM4 (q4.ext (x2.trans x4)) rfl⟩
theorem Jy (hu:Rm X)(o o':iw){gc:Env->Mem->Res D}(ha:DE fa X a ga)(hb:DE fa X b gb)(hc:DE fa X d gc)(hm:lastMarks [dF o,dF o'] [b,d]=false) :
 DE fa X (.Compare a [dF o,dF o'] [b,d] pos) (fun Z M=>(ga Z M).bind fun x M=>(gb Z M).bind fun y M=>(bR M (bJ o x y M)).bind fun k M=>
  if k then (gc Z M).bind fun z M=>(bR M (bJ o' y z M)).bind fun b M=>.ok (.bl b) M else .ok (.bl false) M):=br (Af (mi hu o) (mi hu o') ha hb hc hm) B6
theorem Ak {r:Option Bool}{M M':Mem}{x:D}(h:((bR M r).bind fun b M=>Res.ok (.bl b) M)=.ok x M'):∃k,x=.bl k:=by
 cases r with
 |none=>cases h
 |some b=>cases h;exact ⟨b,rfl⟩
theorem d3 {α β:Type}{r:Res α}{f:α->Mem->Res β}{x:β}{M:Mem}(h:r.bind f=.ok x M):∃a M1,r=.ok a M1/\f a M1=.ok x M:=by
 cases r with
 |ok a M1=>exact ⟨a,M1,rfl,h⟩
 |err=>cases h
 |bad=>cases h
theorem Ho (hu:Rm X)(o o':iw){gc:Env->Mem->Res D}(ha:DE fa X a ga)(hb:DE fa X b gb)(hc:DE fa X d gc)(hm:lastMarks [dF o,dF o'] [b,d]=false) :
 DT fa X (.Compare a [dF o,dF o'] [b,d] pos) (fun Z M=>((ga Z M).bind fun x M=>(gb Z M).bind fun y M=>(bR M (bJ o x y M)).bind fun k M=>
  if k then (gc Z M).bind fun z M=>(bR M (bJ o' y z M)).bind fun b M=>.ok (.bl b) M else .ok (.bl false) M).bind fun x M=>bR M (jA M x)):=
 jK (Ab (mi hu o) (mi hu o') ha hb hc hm) fun σ H Q h=>B6 σ H _ (C3 (fun Z M x M' e=>by
  obtain ⟨x1,M1,_,e⟩:=d3 e
  obtain ⟨x2,M2,_,e⟩:=d3 e
  obtain ⟨k,M3,_,e⟩:=d3 e
  cases k with
  |false=>cases e;exact ⟨_,rfl⟩
  | true =>
    obtain ⟨x4,M4,_,e⟩:=d3 e
    exact Ak e) h)
theorem Jr (ha:DE fa X a ga):DE fa X (.UnaryOp .USub a pos) (fun Z M=>(ga Z M).bind fun x M=>match x with|.int i=>.ok (.int (-i)) M|_=>.bad):=
 br (BH wu ha) fun σ H Q ⟨μ,Z,M,hE,hM,h⟩=>t1 hE hM h fun x M1 v H1 μ1 x1 hE1 hM1 r1 h1=>by
  cases x with
  |int i=>exact ⟨i,r1,aY (v:=.int (-i)) hM1 (aZ.ext h1 x1) rfl⟩
  |_=>exact h1.elim
theorem JA {rest:List Expr}(ha:DE fa X a ga)(hb:DE fa X (.BoolOp .And (b::rest) pos) gb):DE fa X (.BoolOp .And (a::b::rest) pos) (fun Z M=>(ga Z M).bind fun x M=>match x with
 |.bl true=>gb Z M
 |.bl false=>.ok (.bl false) M
 |_=>.bad):=
 br (Ga ha hb) fun σ H Q ⟨μ,Z,M,hE,hM,h⟩=>t1 hE hM h fun x M1 v H1 μ1 x1 hE1 hM1 r1 h1=>by
  cases x with
  | bl k =>
    refine ⟨k,r1,?_⟩
    cases k with
    |true=>exact ⟨μ1,Z,M1,hE1,hM1,jn h1 x1⟩
    |false=>exact aY (v:=.bl false) hM1 (aZ.ext h1 x1) rfl
  |_=>exact h1.elim
theorem Ln {rest:List Expr}(ha:DE fa X a ga)(hb:DE fa X (.BoolOp .Or (b::rest) pos) gb):DE fa X (.BoolOp .Or (a::b::rest) pos) (fun Z M=>(ga Z M).bind fun x M=>match x with
 |.bl true=>.ok (.bl true) M
 |.bl false=>gb Z M
 |_=>.bad):=
 br (ID ha hb) fun σ H Q ⟨μ,Z,M,hE,hM,h⟩=>t1 hE hM h fun x M1 v H1 μ1 x1 hE1 hM1 r1 h1=>by
  cases x with
  | bl k =>
    refine ⟨k,r1,?_⟩
    cases k with
    |true=>exact aY (v:=.bl true) hM1 (aZ.ext h1 x1) rfl
    |false=>exact ⟨μ1,Z,M1,hE1,hM1,jn h1 x1⟩
  |_=>exact h1.elim
theorem Ce {op:PySem.BoolOp}(ha:DE fa X a ga):DE fa X (.BoolOp op [a] pos) ga:=F4 ha
theorem Jp (ha:DE fa X a ga):DE fa X (.UnaryOp .Not a pos) (fun Z M=>(ga Z M).bind fun x M=>match x with|.bl k=>.ok (.bl (!k)) M|_=>.bad):=
 br (F5 ha) fun σ H Q ⟨μ,Z,M,hE,hM,h⟩=>t1 hE hM h fun x M1 v H1 μ1 x1 hE1 hM1 r1 h1=>by
  cases x with
  |bl k=>exact ⟨k,r1,aY (v:=.bl (!k)) hM1 (aZ.ext h1 x1) rfl⟩
  |_=>exact h1.elim
variable {ta tb:Env->Mem->Res Bool}
theorem El (ha:DT fa X a ta):DW fa X (.BoolOp .And [a] pos) ta:=DC ha
theorem Hk (ha:DT fa X a ta):DW fa X (.BoolOp .Or [a] pos) ta:=FU ha
theorem JW {b':Res Bool}{μ μ':Mu}{H H':Hp}{Q:Bool->Hp->Prop}(x:Ext μ H μ' H')(h:ag b' fun b M'=>∀H'' μ'',Ext μ H μ'' H''->RelM fa X.K μ'' H'' M'->Q b H''):ag b' fun b M'=>∀H'' μ'',Ext μ' H' μ'' H''->RelM fa X.K μ'' H'' M'->Q b H'':=
 aT h fun b M q H'' μ'' y m=>q H'' μ'' (x.trans y) m
theorem Hl {rest:List Expr}(ha:DT fa X a ta)(hb:DW fa X (.BoolOp .And (b::rest) pos) tb):DW fa X (.BoolOp .And (a::b::rest) pos) (fun Z M=>(ta Z M).bind fun k M=>if k then tb Z M else .ok false M):=
 xr (FV ha hb) fun σ H Q ⟨μ,Z,M,hE,hM,h⟩=>wL hE hM h fun k M1 H1 μ1 x1 hE1 hM1 h1=>by
  cases k with
  |true=>exact ⟨μ1,Z,M1,hE1,hM1,JW x1 h1⟩
  |false=>exact h1 H1 μ1 x1 hM1
theorem Jh {rest:List Expr}(ha:DT fa X a ta)(hb:DW fa X (.BoolOp .Or (b::rest) pos) tb):DW fa X (.BoolOp .Or (a::b::rest) pos) (fun Z M=>(ta Z M).bind fun k M=>if k then .ok true M else tb Z M):=
 xr (IB ha hb) fun σ H Q ⟨μ,Z,M,hE,hM,h⟩=>wL hE hM h fun k M1 H1 μ1 x1 hE1 hM1 h1=>by
  cases k with
  |true=>exact h1 H1 μ1 x1 hM1
  |false=>exact ⟨μ1,Z,M1,hE1,hM1,JW x1 h1⟩
theorem Hm (ha:DT fa X a ta):DT fa X (.UnaryOp .Not a pos) (fun Z M=>(ta Z M).bind fun k M=>.ok (!k) M):=
 jK (FW ha) fun σ H Q ⟨μ,Z,M,hE,hM,h⟩=>wL hE hM h fun k M1 H1 μ1 x1 hE1 hM1 h1=>h1 H1 μ1 x1 hM1
theorem AW (ha:DE fa X a ga)(he:∀whole,isTrue a X.env whole=(do let v <- whole;standAt a.pos;holding [v] (truthy v))):DT fa X a (fun Z M=>(ga Z M).bind fun x M=>bR M (jA M x)):=
 jK (Aa ha he) fun σ H Q ⟨μ,Z,M,hE,hM,h⟩=>t1 hE hM h fun x M1 v H1 μ1 x1 hE1 hM1 r1 h1=>by
  obtain ⟨k,e,q⟩:=jN h1
  exact ⟨k,Kf hM1 r1 e,q H1 μ1 x1 hM1⟩
theorem Jt {c:Expr}{gc:Env->Mem->Res Bool}(hc:DT fa X c gc)(ha:DE fa X a ga)(hb:DE fa X b gb):DE fa X (.IfExp c a b pos) (fun Z M=>(gc Z M).bind fun k M=>if k then ga Z M else gb Z M):=
 br (rP hc ha hb) fun σ H Q ⟨μ,Z,M,hE,hM,h⟩=>wL hE hM h fun k M1 H1 μ1 x1 hE1 hM1 h1=>by
  cases k with
  |true=>exact ⟨μ1,Z,M1,hE1,hM1,jn h1 x1⟩
  |false=>exact ⟨μ1,Z,M1,hE1,hM1,jn h1 x1⟩
theorem Jv (ha:DE fa X a ga)(hb:DE fa X b gb)(hs:jV b):DE fa X (.Subscript a b pos) (fun Z M=>(ga Z M).bind fun x M=>(gb Z M).bind fun y M=>bR M (cu x y M)):=
 br (BI IY ha hb hs) fun σ H Q ⟨μ,Z,M,hE,hM,h⟩=>t2 hE hM h fun x y M2 v u H2 μ2 x2 hE2 hM2 r1 r2 h2=>by
  obtain ⟨d,e,q⟩:=jN h2
  exact ⟨μ2,M2,x,y,d,hM2,r1,r2,e,q.ext x2⟩
noncomputable def DO (fa:Fa)(X:Cx)(e:Option Expr)(hp:Bool)(g:Env->Mem->Res D):Prop:=PO X e fun σ H Q=>∃μ Z M,a7 fa X.K μ H σ Z/\RelM fa X.K μ H M/\ag (g Z M) fun d M'=>∃o,c9 hp d=true/\nU d=some o/\∀H' μ',Ext μ H μ' H'->RelM fa X.K μ' H' M'->Q o H'
theorem Es:DO fa X none false (fun _ M=>.ok .non M):=fun pins s σ H Q I ⟨μ,Z,M,hE,hM,o,_,e,k⟩=>by
 cases e
 exact DL pins s σ H Q I (k H μ .refl hM)
theorem Er (ha:DE fa X a ga):DO fa X (some a) true ga:=fun pins s σ H Q I ⟨μ,Z,M,hE,hM,h⟩=>DK ha pins s σ H Q I ⟨μ,Z,M,hE,hM,aT h fun d M' ⟨o,p,e,k⟩ v H' μ' x m r=>by
 cases d with
 |int i=>cases e;exact ⟨i,r,k H' μ' x m⟩
 |_=>cases p⟩
theorem part_of {hp:Bool}{d:D}(h:c9 hp d=true):∃o,nU d=some o:=by
 cases hp<;>cases d<;>first|exact ⟨_,rfl⟩|cases h
theorem Jn (m hl hh:Bool){lo hi:Option Expr}{gl gh:Env->Mem->Res D}{p2:Pos}(ha:DE fa X a ga)(hlo:DO fa X lo hl gl)(hhi:DO fa X hi hh gh):DE fa X (.Subscript a (.Slice lo hi none p2) pos)
 (fun Z M=>(ga Z M).bind fun x M=>(gl Z M).bind fun l M=>(gh Z M).bind fun h M=>if c9 hl l&&c9 hh h then fE m x l h M else .bad):=
 br (rO (Dl (fa:=fa) m) ha hlo hhi) fun σ H Q ⟨μ,Z,M,hE,hM,h⟩=>t1 hE hM h fun x M1 v H1 μ1 x1 hE1 hM1 r1 h1=>by
  obtain ⟨l,M2,e2,h2⟩:=aJ h1
  obtain ⟨u,M3,e3,h3⟩:=aJ h2
  split at h3
  ·next c=>
   rw [L6] at c
   obtain ⟨ol,el⟩:=part_of c.1
   obtain ⟨ou,eu⟩:=part_of c.2
   refine ⟨μ1,Z,M1,hE1,hM1,?_⟩
   rw [e2]
   refine ⟨ol,c.1,el,fun H2 μ2 x2 hM2=>⟨μ2,Z,M2,hE1.ext x2,hM2,?_⟩⟩
   rw [e3]
   exact ⟨ou,c.2,eu,fun H3 μ3 x3 hM3=>⟨μ3,M3,x,l,u,hM3,(r1.ext x2).ext x3,el,eu,jn h3 ((x1.trans x2).trans x3)⟩⟩
  ·exact h3.elim
theorem Hz:DA fa X [] (fun _ M=>.ok [] M):=xM fi fun σ H Q ⟨μ,Z,M,hE,hM,h⟩=>h [] H μ .refl hM rfl
theorem EA {es:List Expr}{gs:Env->Mem->Res (List D)}(ha:DE fa X a ga)(hs:DA fa X es gs)(h0:starEach (a::es) X.env=(false,eval a X.env)::starEach es X.env) :
 DA fa X (a::es) (fun Z M=>(ga Z M).bind fun x M=>(gs Z M).bind fun xs M=>.ok (x::xs) M):=
 xM (cH ha hs h0) fun σ H Q ⟨μ,Z,M,hE,hM,h⟩=>t1 hE hM h fun x M1 v H1 μ1 x1 hE1 hM1 r1 h1=>pJ hE1 hM1 h1 fun xs M2 vs H2 μ2 x2 hE2 hM2 r2 h2=>h2 (v::vs) H2 μ2 (x1.trans x2) hM2 ⟨v,vs,rfl,r1.ext x2,r2⟩
theorem Jl {es:List Expr}{gs:Env->Mem->Res (List D)}{k:Nat}(hs:DA fa X es gs):DE fa X (.Tuple es k pos) (fun Z M=>(gs Z M).bind ka):=
 br (F1 hs) fun σ H Q ⟨μ,Z,M,hE,hM,h⟩=>pJ hE hM h fun xs M1 vs H1 μ1 x1 hE1 hM1 r1 h1=>by
  unfold ka at h1
  split at h1
  ·next c=>exact ⟨by rw [r1.length,<- cS];exact c,gG hM1 r1 (aZ.ext h1 x1)⟩
  ·exact h1.elim
theorem Js (m:Bool){es:List Expr}{gs:Env->Mem->Res (List D)}(hs:DA fa X es gs):DE fa X (.List es pos) (fun Z M=>(gs Z M).bind (a9 m)):=
 br (F7 hs) fun σ H Q ⟨μ,Z,M,hE,hM,h⟩=>pJ hE hM h fun xs M1 vs H1 μ1 x1 hE1 hM1 r1 h1=>by
  obtain ⟨c,k⟩:=fC hM1 r1 (jn h1 x1)
  exact ⟨by rw [r1.length,<- cS];exact c,k⟩
end
end LD
namespace LD
open PySem PySem.Spec PyProof.Rows L2
theorem lC (o:Obj)(f:Array LY->Array LY):(o.mapFields f).dict=o.dict:=by
 obtain ⟨c,d,dt,sl⟩:=o
 cases dt<;>rfl
section
variable {P:Ms}{w:Mv}{M:Model}{A:MZ}{E:LY->L4->Prop}{base:Heap}{env:MN}{outer:List MN}{L a C:Addr}{dx:Option Addr}{New:Addr->Prop}{H:Hp}{s:L4}{Q:Unit->L4->Prop}
theorem tS {oe:Obj}{vs:Array LY}{head:LY}{had:Bool}(hfr:A.frames=some (env::outer))(hl:s.heap.FunFrames base (env::outer))(hf:env.frame=some L)
 (he:s.heap.get? a=some oe) (hd:oe.data=.fields vs) (hsz:1<vs.size)
 (h:∀h' T oT ts,(∀b o,b∉fk (env::outer)->b≠a->s.heap.get? b=some o->h'.get? b=some o)->(∀b o,b≠a->s.heap.get? b=some o->∃sl,h'.get? b=some {o with slots:=sl})->s.heap.objs.size<=T->T≠a->
  h'.get? a=some (oe.mapFields (·.setIfInBounds 1 (.ref T)))->h'.get? T=some oT->oT.data=.fields ts->ts[3]?=some .none->Q () {s with heap:=h'}) :
 wpAny M A (do let f <- frameOf env;let pl <- entryPlaceOf L had;let b <- EntryCells.newEntry head f .none (rawInt L) .none pl;setField (.ref a) 1 b) (fun _ s'=>wpAny M A (setFlight (.ref a) none) Q E s') E s:=by
 have hene:a∉fk (env::outer):=fun hm=>by
  obtain ⟨_,o,ho,hnf⟩:=hl.mem hm
  rw [he] at ho;cases ho;exact hnf vs hd
 refine tqa (wpAny_frameOf_fun hfr hl hf fun h₁ hs₁=>?_)
 refine tqa (wpAny_entryPlaceOf fun pl hpl=>?_)
 unfold EntryCells.newEntry newFields
 refine tqa (wpAny_newObj_type ?_ (hpl.sizeOk5 _ _ _ _ _))
 have he₁:h₁.get? a=some oe:=(hs₁.2.1 a hene).trans he
 generalize ho:({cls:=.type "traceback",dict:=none,data:=.fields ([head,.ref L,.none,rawInt L,.none]++(if pl.isEmpty then List.replicate 6 Value.none else pl)).toArray}:Obj)=o
 have hod:o.data=.fields ([head,.ref L,.none,rawInt L,.none]++(if pl.isEmpty then List.replicate 6 Value.none else pl)).toArray:=by rw [<- ho]
 have he₂:=L3 (h:=h₁) o he₁
 refine wpAny_setField he₂ hd hsz ?_
 have hTe:h₁.objs.size≠a:=Nc (Mi he₁)
 have hd₃:=Nr hd (·.setIfInBounds 1 (Value.ref h₁.objs.size))
 have he₃:=NA (Obj.mapFields (·.setIfInBounds 1 (Value.ref h₁.objs.size))) he₂ (N1 hd₃)
 have hT₃:=(Na (h₁.push o) (Obj.mapFields (·.setIfInBounds 1 (Value.ref h₁.objs.size))) (Ng hTe)).trans (Mo h₁ (N1 hod))
 unfold setFlight
 refine tqa (tqf he₃ hd₃ (x:=.ref h₁.objs.size) (by simp [hsz]) ?_)
 rw [if_pos (show (Value.ref h₁.objs.size != Value.none)=true from by simp)]
 refine wpAny_setField hT₃ hod (by simp only [L8,Mz,MT,List.length_nil]<;>omega) ?_
 have keep:∀b u,b≠a->h₁.get? b=some u->(((h₁.push o).update a (Obj.mapFields (·.setIfInBounds 1 (Value.ref h₁.objs.size)))).update h₁.objs.size (Obj.mapFields (·.setIfInBounds 3 ((none:Option Addr).elim Value.none fun f=>rawInt f)))).get? b=some u:=fun b u hbe hb=>by
  have hbT:h₁.objs.size≠b:=Nc (Mi hb)
  rw [Na _ _ hbT,Na _ _ (Ng hbe)]
  exact L3 _ hb
 refine h _ h₁.objs.size _ _ (fun b u hb hbe q=>keep b u hbe ((hs₁.2.1 b hb).trans q)) (fun b u hbe q=>?_) (Nat.le_of_eq hs₁.1.symm) hTe ?_ (NA _ hT₃ (N1 (Nr hod _))) (Nr hod _) ?_
 ·obtain ⟨sl,e⟩:=hs₁.2.2 b u q
  exact ⟨sl,keep b _ hbe e⟩
 ·rw [Na _ _ hTe];exact he₃
 ·first|(simp;done)|(rcases hpl with rfl|⟨_,_,_,_,_,_,_,rfl⟩<;>simp)
theorem D4 (hfr:A.frames=some (env::outer))(hl:s.heap.FunFrames base (env::outer))(hf:env.frame=some L)(hF:mF New C dx a s.heap H)(hN:∀b,s.heap.objs.size<=b->New b)(hok:dP P w H s.heap)(hfree:∀b∈fk (env::outer),H b=none)
 (h:∀h' ch,(∀b∈ch,New b/\H b=none/\∃o vs,s.heap.get? b=some o/\o.data=.fields vs)->Un (fk (env::outer)) ch H H s.heap h'->dP P w H h'->mF New C dx a h' H->Q () {s with heap:=h'}) :
 wpAny M A (noteFrame (.ref a) env) (fun _ s1=>wpAny M A (setFlight (.ref a) none) Q E s1) E s:=by
 obtain ⟨na,ha,oe,vs,he,hc,hdx,hd,tr⟩:=hF
 have fin:∀h' ch,(∀b∈ch,New b/\H b=none/\∃o vs,s.heap.get? b=some o/\o.data=.fields vs)->(∀b o,b∉fk (env::outer)->b∉ch->s.heap.get? b=some o->h'.get? b=some o)->(∀b o,b∉ch->s.heap.get? b=some o->∃sl,h'.get? b=some {o with slots:=sl})->mF New C dx a h' H->Q () {s with heap:=h'}:=fun h' ch hch keep slot fl=>by
  refine h h' ch hch ⟨fun b o q _ hb hx=>keep b o hb hx q,fun b o q _ _ hx=>slot b o hx q,fun _ _ _ n _=>n,fun b o q hx=>let ⟨sl,e⟩:=slot b o hx q;⟨_,e⟩,fun _ _ e=>e,fun _ _ _ e=>e,fun b ps e=>⟨#[],by rw [e];simp⟩⟩ (fun b u e=>(hok b u e).stay (fun c v hc q=>?_) (fun _ q=>q) fun _ _ q=>q) fl
  have nn:H c≠none:=by rcases hc with z|z<;>(intro z';first|(rw [z,e] at z';cases z')|(rw [z] at z';cases z'))
  exact keep c v (fun z=>nn (hfree c z)) (fun z=>nn (hch c z).2.1) q
 unfold noteFrame
 simp only [hf]
 rcases tr with h1|⟨T,oT,ts,h1,hTa,nT,hT0,hT,hdT,h3⟩
 ·refine tqa (tqf he hd h1 ?_)
  rw [if_neg (by decide)]
  refine tS hfr hl hf he hd (Nb.mp h1).1 fun h' T oT ts k1 k2 k3 k4 k5 k6 k7 k8=>?_
  refine fin h' [a] (fun b hb=>?_) (fun b o hb hx q=>k1 b o hb (fun z=>hx (by simp [z])) q) (fun b o hx q=>k2 b o (fun z=>hx (by simp [z])) q) ⟨na,ha,_,_,k5,?_,?_,Nr hd _,.inr ⟨T,oT,ts,by simp [(Nb.mp h1).1],k4,hN _ k3,hok.fresh k3,k6,k7,k8⟩⟩
  ·rcases NF.mp hb with rfl
   exact ⟨na,ha,oe,vs,he,hd⟩
  ·rw [Obj.cls_mapFields];exact hc
  ·rw [lC];exact hdx
 ·refine tqa (tqf he hd h1 ?_)
  rw [if_pos (show (Value.ref T != Value.none)=true from by simp)]
  refine tqa (tqf hT hdT h3 ?_)
  rw [if_neg (show ¬ ((Value.none==rawInt L)=true) from by simp [rawInt])]
  refine tqa (wpAny_setField hT hdT (Nb.mp h3).1 ?_)
  have other:∀b,b≠T->(s.heap.update T (Obj.mapFields (·.setIfInBounds 3 Value.none))).get? b=s.heap.get? b:=fun b hb=>Na _ _ (Ng hb)
  have noRec:∀b o,s.heap.get? b=some o->(∀vs,o.data≠.fields vs)->b≠T:=fun b o hb hnf q=>by
   rw [q,hT] at hb;cases hb;exact hnf ts hdT
  have hz:(s.heap.update T (Obj.mapFields (·.setIfInBounds 3 Value.none))).objs.size=s.heap.objs.size:=Heap.size_after_update ..
  refine tS (s:={s with heap:=s.heap.update T (Obj.mapFields (·.setIfInBounds 3 Value.none))}) hfr (hl.of_keeps fun b o hb hnf=>⟨o,(other b (noRec b o hb hnf)).trans hb,rfl⟩) hf ((other a (Ng hTa)).trans he) hd (Nb.mp h1).1 fun h' T' oT' ts' k1 k2 k3 k4 k5 k6 k7 k8=>?_
  have k3:s.heap.objs.size<=T':=by rw [<- hz];exact k3
  refine fin h' [a,T] (fun b hb=>?_) (fun b o hb hx q=>k1 b o hb (fun z=>hx (by simp [z])) ((other b (fun z=>hx (by simp [z]))).trans q)) (fun b o hx q=>k2 b o (fun z=>hx (by simp [z])) ((other b (fun z=>hx (by simp [z]))).trans q)) ⟨na,ha,_,_,k5,?_,?_,Nr hd _,.inr ⟨T',oT',ts',by simp [(Nb.mp h1).1],k4,hN _ k3,hok.fresh k3,k6,k7,k8⟩⟩
  ·rcases MJ.mp hb with rfl|hb
   ·exact ⟨na,ha,oe,vs,he,hd⟩
   ·rcases NF.mp hb with rfl
    exact ⟨nT,hT0,oT,ts,hT,hdT⟩
  ·rw [Obj.cls_mapFields];exact hc
  ·rw [lC];exact hdx
end
noncomputable def fu (P:Ms)(w:Mv):mH:=fun outer H s E e s'=>∃a C dx H',e=.ref a/\s'.os=s.os/\AllBare s'.gens/\Un (fk outer) [] H H' s.heap s'.heap/\dP P w H' s'.heap/\mF (fun b=>s.heap.get? b=none) C dx a s'.heap H'/\E (.ref C) dx H'
theorem mF.imp {New New':Addr->Prop}{C a:Addr}{dx:Option Addr}{h:Heap}{H:Hp}(f:mF New C dx a h H)(i:∀b,New b->New' b):mF New' C dx a h H:=by
 obtain ⟨na,ha,o,vs,h1,h2,h3,h4,tr⟩:=f
 refine ⟨i _ na,ha,o,vs,h1,h2,h3,h4,?_⟩
 rcases tr with t|⟨T,oT,ts,t1,t2,t3,t4⟩
 ·exact .inl t
 ·exact .inr ⟨T,oT,ts,t1,t2,i _ t3,t4⟩
section
variable {P:Ms}{w:Mv}{K:LX}{mg:Str->Option LY}{base:Heap}{N:List Str}{qual:Str}{scope:Scope}{f:Addr}{cd:LY}{A:MZ}{outer:List MN}{s:L4}{H:Hp}{E:XK}
theorem Aw {pins:List (Addr×Obj)}{σ:L2.St}{H':Hp}{s':L4}{a C:Addr}{dx:Option Addr}(I:Inv (dY (fu P w) P w K mg base N qual scope f cd A outer s H E) pins σ H' s')(hF:mF (nj (dY (fu P w) P w K mg base N qual scope f cd A outer s H E)) C dx a s'.heap H')(hE:E (.ref C) dx H') :
 (dY (fu P w) P w K mg base N qual scope f cd A outer s H E).xe (.ref a) s':=by
 have hst:=I.stack
 have hsz:s.heap.objs.size<=s'.heap.objs.size:=I.sz
 have hL:∀b o,s.heap.get? b=some o->b∈fk (envOfC qual scope s.heap.objs.size f cd::outer)->b∈fk outer:=fun b o q hb=>by
  rcases MJ.mp (show b∈s.heap.objs.size::fk outer from hb) with e|e
  ·exact absurd (Mi q) (by rw [e];exact Nk _)
  ·exact e
 unfold dY
 dsimp only
 unfold leaving
 refine tqa (D4 (P:=P) (w:=w) (New:=fun b=>s.heap.get? b=none) I.ok.frames hst rfl (hF.imp fun b z=>z.1) (fun b z=>Heap.get?_none_of_le (Mb hsz z)) I.hok I.stkFree fun h' ch hch u hok fl=>?_)
 have nch:∀b o,s.heap.get? b=some o->b∉ch:=fun b o q z=>by have:=(hch b z).1;rw [q] at this;cases this
 have hb0:Un (fk outer) [] H H' s.heap s'.heap:=I.base
 refine ⟨a,C,dx,H',rfl,I.os,I.bare,⟨fun b o q n hb hx=>?_,fun b o q n hb hx=>?_,hb0.free,fun b o q hx=>?_,hb0.tups,hb0.frzs,hb0.tbls⟩,hok,fl,hE⟩
 ·exact u.keep b o (hb0.keep b o q n hb hx) (hb0.free b o q n hx) (fun z=>hb (hL b o q z)) (nch b o q)
 ·obtain ⟨sl,e⟩:=hb0.slot b o q n hb hx
  obtain ⟨sl',e'⟩:=u.any e (hb0.free b o q n hx) (nch b o q)
  exact ⟨sl',e'⟩
 ·obtain ⟨o',e⟩:=hb0.there b o q hx
  exact u.there b o' e (nch b o q)
end
section
variable {X:Cx}{pins:List (Addr×Obj)}{σ:L2.St}{H H':Hp}{s s':L4}{E:XK}{e:LY}
theorem yp (I:Inv X pins σ H s)(hx:X.ex=[])(h:fu X.prog X.w X.stack H s E e s'):∃a C dx H',e=.ref a/\Inv X pins σ H' s'/\mF (nj X) C dx a s'.heap H'/\E (.ref C) dx H':=by
 obtain ⟨a,C,dx,H',rfl,os,bare,un,hok,fl,q⟩:=h
 refine ⟨a,C,dx,H',rfl,I.call' os un hok bare (fun b z=>absurd z (by simp)),fl.imp fun b z=>⟨?_,fun p hp e=>?_⟩,q⟩
 ·cases e:X.s₀.heap.get? b with
  |none=>rfl
  | some o =>
    obtain ⟨o',e'⟩:=I.base.there b o e (by rw [hx];simp)
    rw [z] at e';cases e'
 ·have:=(I.pin p (NY _ hp)).1
  rw [e,z] at this;cases this
theorem yn {a:Addr}{o:HO}(I:Inv X pins σ H s)(hx:X.ex=[])(hn:H a=none)(h0:X.s₀.heap.get? a=none)(hf:∃ob vs,s.heap.get? a=some ob/\ob.data=.fields vs)(hp:∀p∈X.pn++pins,p.1≠a)(new:b8 X.prog X.w (upd H a o) s.heap a o):Inv X pins σ (upd H a o) s:=by
 obtain ⟨ob,vs,hob,hd⟩:=hf
 have ne:∀b u,H b=some u->b≠a:=fun b u e=>aO e hn
 refine ⟨I.ok,I.os,I.bare,⟨I.base.keep,I.base.slot,fun b o e n hx=>?_,I.base.there,fun b xs e=>?_,fun b o u e=>?_,fun b ps e=>?_⟩,I.loc,I.cell,?_,fun x c e=>?_,fun p hp'=>?_,fun b u e=>?_,I.len⟩
 ·rw [ax (fun z=>by rw [z,h0] at e;cases e)];exact I.base.free b o e n hx
 ·have q:=I.base.tups b xs e
  rw [ax (ne b _ q)];exact q
 ·have q:=I.base.frzs b o u e
  rw [ax (ne b _ q)];exact q
 ·obtain ⟨m,q⟩:=I.base.tbls b ps e
  exact ⟨m,by rw [ax (ne b _ q)];exact q⟩
 ·obtain ⟨m,⟨oL,es,ep,ho,hdL,_⟩,_⟩:=id I.loc
  rw [ax (fun z=>by rw [z,hob] at ho;cases ho;rw [hd] at hdL;cases hdL)];exact I.free
 ·obtain ⟨v,o2,e2,d2⟩:=I.cell x c e
  rw [ax (fun z=>by rw [z,hob] at e2;cases e2;rw [hd] at d2;cases d2)];exact I.freeC x c e
 ·obtain ⟨e,n,r⟩:=I.pin p hp'
  exact ⟨e,by rw [ax (hp p hp')];exact n,r⟩
 ·by_cases hb:b=a
  ·subst hb
   rw [bw] at e;cases e
   exact new
  ·rw [ax hb] at e
   exact (I.hok b u e).stay (fun c v _ q=>q) (fun c q=>by rw [ax (ne c _ q)];exact q) fun c xs q=>by rw [ax (ne c _ q)];exact q
end
noncomputable def kB {α:Type}(r:Res α)(k:α->Mem->Prop)(kx:D->Mem->Prop):Prop:=match r with
 |.ok a M=>k a M
 |.err x M=>kx x M
 |.bad=>False
theorem xO {α:Type}{r:Res α}{k:α->Mem->Prop}{kx:D->Mem->Prop}(h:ag r k):kB r k kx:=by
 cases r with
 |ok a M=>exact h
 |err=>exact h.elim
 |bad=>exact h
noncomputable def v9 (fa:Fa)(K:LX)(μ:Mu)(H:Hp)(E:XK)(x:D)(M':Mem):Prop:=∀C dx c p H' μ',Ext μ H μ' H'->RelM fa K μ' H' M'->x=.exc c p->fa (eE c)=some C->v8 H' c dx p->E (.ref C) dx H'
theorem lO {P:Ms}{w:Mv}{X:Cx}:Passes (fu P w) X E0:=fun _ _ _ _ _ _ _ h=>let ⟨_,_,_,_,_,_,_,_,_,_,z⟩:=h;z.elim
end LD
namespace LD
open PySem PySem.Spec PyProof.Rows L2
noncomputable def BB (fa:Fa)(K:LX)(k:Nat)(call:List D->Mem->Res D):Sp:=fun vs H Q E=>vs.length=k/\∃μ M ds,RelM fa K μ H M/\aF fa K μ H ds vs/\kB (call ds M) (aZ fa K μ H Q) (v9 fa K μ H E)
noncomputable def eA (fa:Fa)(P:Ms)(w:Mv)(K:LX)(mg:Str->Option LY)(base:Heap)(n:Nat)(f:Nat)(call:List D->Mem->Res D):Prop:=
 (∀ds M,call ds M=.bad)\/∃(ad:Addr) (fd:N8) (ps:List Str),fa f=some ad/\PySem.W.keepIn K (.ref ad)=true/\Binds K fd ps []/\(∀ds M,ds.length≠ps.length->call ds M=.bad)/\fG P w K mg base (fu P w) (2*n+4) ad fd ps (BB fa K ps.length call)
section
variable {fa:Fa}{X:Cx}{a b d:Expr}{ga gb gd:Env->Mem->Res D}{pos p:Pos}{es:List Expr}{gs:Env->Mem->Res (List D)}{n:Nat}
theorem sY {call:List D->Mem->Res D}{P:D->Mem->Prop}{r:Res (List D)}(hb:∀ds M,call ds M=.bad)(h:ag (r.bind fun ds M=>call ds M) P):False:=by
 obtain ⟨ds,M,_,q⟩:=aJ h
 rw [hb] at q
 exact q
theorem lE {call:List D->Mem->Res D}{k:Nat}{σ:L2.St}{H:Hp}{Q:VK}{μ:Mu}{Z:Env}{M:Mem}(hE:a7 fa X.K μ H σ Z)(hM:RelM fa X.K μ H M)(h:ag ((gs Z M).bind fun ds M=>call ds M) (aZ fa X.K μ H Q))
 (hk:∀ds M1,ds.length≠k->call ds M1=.bad):uX (BB fa X.K k call) [] E0 (tA fa X.K gs) σ H Q:=by
 refine pJ hE hM h fun ds M1 vs H1 μ1 x1 hE1 hM1 r1 h1=>?_
 rw [Ob]
 refine ⟨?_,μ1,M1,ds,hM1,r1,xO (jn h1 x1)⟩
 rw [r1.length]
 by_cases hl:ds.length=k
 ·exact hl
 ·rw [hk ds M1 hl] at h1;exact h1.elim
theorem HG {f:Nat}{x:Str}{call:List D->Mem->Res D}(C:eA fa X.prog X.w X.K X.mg X.base n f call)(hr:bC (2*n+4) X.A)(hg:Gl X x)(hm:∀ad,fa f=some ad->X.mg x=some (.ref ad))(hs:DA fa X (a::es) gs)
 (hdb:(x==("__debug__":Str))=false) (he:starEach (a::es) X.env=(false,eval a X.env)::starEach es X.env) (hpl:(backTo pos (starEach es X.env)).any (·.1)=false) :
 DE fa X (.Call (.Name x p) (a::es) [] pos) (fun Z M=>(gs Z M).bind fun ds M=>call ds M):=by
 rcases C with hb|⟨ad,fd,ps,h1,h2,h3,h4,F⟩
 ·exact fun pins s σ H Q I ⟨μ,Z,M,hE,hM,h⟩=>(sY hb h).elim
 ·exact br (DQ F hr hg (hm ad h1) h2 h3 .nil lO hs hdb he hpl) fun σ H Q ⟨μ,Z,M,hE,hM,h⟩=>lE hE hM h h4
theorem EC {i:Nat}{x:Str}{call:Nat->List D->Mem->Res D}(C:∀f,eA fa X.prog X.w X.K X.mg X.base n f (call f))(hr:bC (2*n+4) X.A)(hN:X.N[i]?=some x)(hv:qr X.env.scope x)(hs:DA fa X (a::es) gs)
 (hd:(x==("__debug__":Str))=false) (hcd:(x==("__classdict__":Str))=false) (he:starEach (a::es) X.env=(false,eval a X.env)::starEach es X.env) (hpl:(backTo pos (starEach es X.env)).any (·.1)=false) :
 DE fa X (.Call (.Name x p) (a::es) [] pos) (fun Z M=>match Z[i]?.getD none with|some (.fn f)=>(gs Z M).bind fun ds M=>call f ds M|_=>.bad):=by
 intro pins s σ H Q I ⟨μ,Z,M,hE,hM,h⟩
 dsimp only at h
 cases e:Z[i]?.getD none with
 |none=>rw [e] at h;exact h.elim
 | some df =>
   cases df with
   | fn f =>
     rw [e] at h
     simp only at h
     have e':Z[i]?=some (some (.fn f)):=by
      cases q:Z[i]? with
      |none=>rw [q] at e;cases e
      |some o=>rw [q] at e;simp at e;rw [e]
     obtain ⟨v,hv1,hv2⟩:=hE.at' i _ e'
     obtain ⟨ad,rfl,had⟩:=hv2
     rcases C f with hb|⟨ad',fd,ps,h1,h2,h3,h4,F⟩
     ·exact (sY hb h).elim
     ·rcases had with had|⟨had,_⟩<;>rw [had] at h1<;>cases h1
      refine wpAny_Call_Name_kw (aP (nS hN hv hd hcd pins s σ H (fun v H'=>v=.ref ad/\H'=H) I ⟨_,hv1,rfl,rfl⟩) fun u s1 ⟨v,H1,I1,r1,e1,e2⟩=>?_)
      subst e1 e2
      obtain rfl:u=Value.ref ad:=r1
      refine NR (h₀:=X.base) I1.ok.mod.kin h2 (aP (hs pos pins s1 σ H1 _ I1 (lE hE hM h h4)) fun us s2 ⟨vs,H2,I2,r,q⟩=>⟨I2.kIn,?_⟩) he hpl
      exact kK F hr h3 .nil lO I2 r q
   |_=>rw [e] at h;exact h.elim
theorem vQ (f:tD){x:Str}{id:String}(hc:cy X (.builtin id) (mR fa X.K f))(hg:Gl X x)(hm:X.mg x=none)(hv:bootBuiltins x=some (.builtin id))(hs:DA fa X (a::es) gs)(hn:x≠"__name__")(hdb:(x==("__debug__":Str))=false)
 (he:starEach (a::es) X.env=(false,eval a X.env)::starEach es X.env) (hpl:(backTo pos (starEach es X.env)).any (·.1)=false):DE fa X (.Call (.Name x p) (a::es) [] pos) (fun Z M=>(gs Z M).bind fun ds M=>dq f ds M):=
 br (rQ hc hg hm hv hs hn hdb he hpl) fun σ H Q ⟨μ,Z,M,hE,hM,h⟩=>pJ hE hM h fun ds M1 vs H1 μ1 x1 hE1 hM1 r1 h1=>⟨μ1,M1,ds,hM1,r1,jn h1 x1⟩
theorem yC (f:tD){x:Str}{T:String}(hc:cy X (.type T) (mR fa X.K f))(hg:Gl X x)(hm:X.mg x=none)(hv:bootBuiltins x=some (.type T))(hs:DA fa X (a::es) gs)(hn:x≠"__name__")(hdb:(x==("__debug__":Str))=false)
 (he:starEach (a::es) X.env=(false,eval a X.env)::starEach es X.env) (hpl:(backTo pos (starEach es X.env)).any (·.1)=false):DE fa X (.Call (.Name x p) (a::es) [] pos) (fun Z M=>(gs Z M).bind fun ds M=>dq f ds M):=
 br (xD hc hg hm hv hs hn hdb he hpl) fun σ H Q ⟨μ,Z,M,hE,hM,h⟩=>pJ hE hM h fun ds M1 vs H1 μ1 x1 hE1 hM1 r1 h1=>⟨μ1,M1,ds,hM1,r1,jn h1 x1⟩
theorem HE (t:Ty)(ht:∀c,t≠.own c){x:Str}{p1 p2:Pos}(ha:DE fa X a ga)(hg:Gl X "isinstance")(hm:X.mg "isinstance"=none)(hv:bootBuiltins "isinstance"=some (.builtin "isinstance"))(hgt:Gl X x)(hmt:X.mg x=none)(hvt:bootBuiltins x=some (.type (tyName t)))
 (hn:x≠"__name__") (hdb:(x==("__debug__":Str))=false)
 (he:starEach [a,.Name x p1] X.env=(false,eval a X.env)::starEach [.Name x p1] X.env):DE fa X (.Call (.Name "isinstance" p2) [a,.Name x p1] [] pos) (fun Z M=>(ga Z M).bind fun x M=>(bR M (dA t x)).bind fun b M=>.ok (.bl b) M):=
 br (rQ (Hg (fa:=fa) t ht) hg hm hv (cH ha (cH (DR hgt hmt hvt (v:=.ty (tyName t)) rfl hn hdb) fi (by rfl)) he) (by decide) (by decide) he (by rfl)) fun σ H Q ⟨μ,Z,M,hE,hM,h⟩=>t1 hE hM h fun x M1 v H1 μ1 x1 hE1 hM1 r1 h1=>by
  obtain ⟨b,e,q⟩:=nY h1
  exact ⟨μ1,M1,x,v,b,rfl,hM1,r1,e,aY (v:=.bl b) hM1 (q.ext x1) rfl⟩
noncomputable def gT (fa:Fa)(K:LX)(t:cD):TG:=fun v σ H Q=>∃μ Z M d ρ1,a7 fa K μ H σ Z/\RelM fa K μ H M/\Rep fa K μ H d v/\b7 t d Z=some ρ1/\∀σ1,a7 fa K μ H σ1 ρ1->Q σ1 H
theorem xB {tg:Expr}{g g':TG}(h:PG X tg g)(i:∀v σ H Q,g' v σ H Q->g v σ H Q):PG X tg g':=fun pins s σ H v u Q I r q=>h pins s σ H v u Q I r (i v σ H Q q)
theorem uh {tg:List Expr}{g g':oB}(h:tu X tg g)(i:∀v σ H Q,g' v σ H Q->g v σ H Q):tu X tg g':=fun pins s σ H v u Q I r q=>h pins s σ H v u Q I r (i v σ H Q q)
theorem uH {i:Nat}{x:Str}(hN:X.N.Nodup)(hi:X.N[i]?=some x)(hx:Loc X.env.scope x)(hf:X.fn x=true\/X.env.scope.names.lookup x=some .local):PG X (.Name x pos) (gT fa X.K (.one i)):=
 xB (ui hN hi hx hf) fun v σ H Q ⟨μ,Z,M,d,ρ1,hE,hM,r,e,k⟩=>by
  have e':Z.set i (some d)=ρ1:=L9 e
  subst e'
  exact k _ (hE.set r)
noncomputable def Hc (fa:Fa)(K:LX)(l:List Nat):oB:=fun vs σ H Q=>∃μ Z M ds ρ1,a7 fa K μ H σ Z/\RelM fa K μ H M/\aF fa K μ H ds vs/\eI l ds Z=some ρ1/\∀σ1,a7 fa K μ H σ1 ρ1->Q σ1 H
inductive jy (X:Cx):List Nat->List Expr->Prop
 |nil:jy X [] []
 |cons {i:Nat}{x:Str}{p:Pos}{l:List Nat}{ns:List Expr} (hi:X.N[i]?=some x) (hx:Loc X.env.scope x) (hf:X.fn x=true\/X.env.scope.names.lookup x=some .local) (r:jy X l ns):jy X (i::l) (.Name x p::ns)
theorem jy.each {l:List Nat}{ns:List Expr}(h:jy X l ns):(assignEach ns X.env).length=l.length/\(assignEach ns X.env).findIdx? (·.1)=none:=by
 induction h with
 |nil=>exact ⟨rfl,rfl⟩
 | cons hi hx hf r ih =>
   rename_i i x p l ns
   have e:assignEach (.Name x p::ns) X.env=(false,assign (.Name x p) X.env)::assignEach ns X.env:=rfl
   rw [e]
   refine ⟨by simp [ih.1],?_⟩
   rw [List.findIdx?_cons]
   simp [ih.2]
theorem AZ (hN:X.N.Nodup){l:List Nat}{ns:List Expr}(h:jy X l ns):tu X ns (Hc fa X.K l):=by
 induction h with
 | nil =>
   refine uh ug fun vs σ H Q ⟨μ,Z,M,ds,ρ1,hE,hM,r,e,k⟩=>?_
   cases ds with
   | nil =>
     obtain rfl:vs=[]:=r
     have e':Z=ρ1:=L9 e
     subst e'
     exact ⟨rfl,k _ hE⟩
   |cons=>cases e
 | cons hi hx hf r ih =>
   refine uh (mV (ui hN hi hx hf) ih (by rfl)) fun vs σ H Q ⟨μ,Z,M,ds,ρ1,hE,hM,r,e,k⟩=>?_
   cases ds with
   |nil=>cases e
   | cons d ds =>
     obtain ⟨v,vr,rfl,r1,r2⟩:=r
     exact ⟨v,vr,rfl,μ,_,M,ds,ρ1,hE.set r1,hM,r2,e,k⟩
theorem kA:∀{l:List Nat}{ds:List D}{Z ρ1:Env},eI l ds Z=some ρ1->ds.length=l.length
 |[],[],_,_,_=>rfl
 |_::_,[],_,_,h=>by cases h
 |[],_::_,_,_,h=>by cases h
 | _ :: l, _ :: ds, _, _, h => by
   have:=kA (l:=l) (ds:=ds) h
   simp [this]
theorem Hx (hc:X.calm=true)(hN:X.N.Nodup){l:List Nat}{ns:List Expr}{k:Nat}(h:jy X l ns):PG X (.Tuple ns k pos) (gT fa X.K (.tup l)):=
 xB (xy (n:=l.length) hc (AZ (fa:=fa) hN h) h.each.1 h.each.2) fun v σ H Q ⟨μ,Z,M,d,ρ1,hE,hM,r,e,k⟩=>by
  cases d with
  | tup ds =>
    obtain ⟨a,vs,rfl,hq,r⟩:=r
    exact ⟨a,vs,rfl,hq,by rw [r.length];exact kA e,μ,Z,M,ds,ρ1,hE,hM,r,e,k⟩
  |_=>cases e
end
end LD
namespace LD
open PySem PySem.Spec PyProof.Rows L2
section
variable {fa:Fa}{X:Cx}{a b d:Expr}{ga gb gd:Env->Mem->Res D}{pos p:Pos}{es:List Expr}{gs:Env->Mem->Res (List D)}{n:Nat}
theorem Hu {tg:Expr}{t:cD}(ha:DE fa X a ga)(hg:PG X tg (gT fa X.K t))(hs:swapsWithSole [tg] a pos.line X.env=pure false)(hw:swappedStores [tg] a X.env=pure none)(h1:(assignEach [tg] X.env).map (·.2)=[assign tg X.env]) :
 DS fa X (.Assign [tg] a pos) (fun Z M=>(ga Z M).bind fun x M=>(bR M (b7 t x Z)).bind fun ρ1 M=>.ok (.next ρ1) M):=
 dw (nQ ha hg hs hw h1) fun D σ H ⟨μ,Z,M,hE,hM,h⟩=>t1 hE hM h fun x M1 v H1 μ1 x1 hE1 hM1 r1 h1=>by
  obtain ⟨ρ1,M2,e,q⟩:=aJ h1
  cases eb:b7 t x Z with
  |none=>rw [eb] at e;cases e
  | some ρ2 =>
    rw [eb] at e
    cases e
    exact ⟨μ1,Z,M1,x,ρ1,hE1,hM1,r1,eb,fun σ1 hE2=>q σ1 H1 μ1 x1 hE2 hM1⟩
theorem pE {D':Ends}{μ:Mu}{H:Hp}{σ:L2.St}{Z:Env}{M:Mem}{k:Nat}{ad:Addr}{ws:List V}{ds:List D}(hE:a7 fa X.K μ H σ Z)(hM:RelM fa X.K μ H M)(hk:μ.pub k=some ad)(r:aF fa X.K μ H ds ws)
 (q:∀σ' H' μ',Ext μ H μ' H'->a7 fa X.K μ' H' σ' Z->RelM fa X.K μ' H' (M.set k ds)->D'.nx σ' H'):D'.nx σ (upd H ad (.lst ws)):=
 q σ _ μ (Ext.write (vs:=ws) hM hk) (hE.ext (Ext.write (vs:=ws) hM hk)) (hM.write hk r)
theorem Hr (ha:DE fa X a ga)(hb:DE fa X b gb)(hd:DE fa X d gd){p2:Pos}
 (h0:∀v,assign (.Subscript a b p2) X.env v=(do
  let ov <- holding [v] (eval a X.env)
  let iv <- holding [v,ov] (eval b X.env)
  standAt p2
  holding [v,ov,iv] (setItem ov iv v)
  release [v,ov,iv] [])) (hs:swapsWithSole [.Subscript a b p2] d pos.line X.env=pure false) (hw:swappedStores [.Subscript a b p2] d X.env=pure none) (h1:(assignEach [.Subscript a b p2] X.env).map (·.2)=[assign (.Subscript a b p2) X.env]) :
 DS fa X (.Assign [.Subscript a b p2] d pos) (fun Z M=>(gd Z M).bind fun z M=>(ga Z M).bind fun x M=>(gb Z M).bind fun y M=>match x,y with
  | .cell k, .int n => match M[k]? with
    | some ds => match bz ds.length n with
      |some j=>.ok (.next Z) (M.set k (ds.set j z))
      |none=>.bad
    |none=>.bad
  |_,_=>.bad):=
 dw (nQ hd (xA ha hb set_list h0) hs hw h1) fun D' σ H ⟨μ,Z,M,hE,hM,h⟩=>t1 hE hM h fun z M1 v H1 μ1 x1 hE1 hM1 r1 h1=>t2 hE1 hM1 h1 fun x y M2 vx vy H2 μ2 x2 hE2 hM2 rx ry h2=>by
  have key:∀k n,x=.cell k->y=.int n->BG vx vy v H2 fun H3=>D'.nx σ H3:=fun k n e1 e2=>by
   subst e1 e2
   dsimp only at h2
   cases e:M2[k]? with
   |none=>rw [e] at h2;exact h2.elim
   | some ds =>
     rw [e] at h2
     dsimp only at h2
     cases ej:LD.bz ds.length n with
     |none=>rw [ej] at h2;exact h2.elim
     | some j =>
       rw [ej] at h2
       obtain ⟨ad,rfl,hk⟩:=rx
       obtain ⟨ws,h4,h5⟩:=hM2.at_ e hk
       have q:∀σ' H' μ',Ext μ H μ' H'->a7 fa X.K μ' H' σ' Z->RelM fa X.K μ' H' (M2.set k (ds.set j z))->D'.nx σ' H':=h2
       refine ⟨ad,ws,n,j,rfl,ry,h4,by rw [h5.length];exact ej,pE hE2 hM2 hk (h5.set j (r1.ext x2)) fun σ' H' μ' x' e' m'=>q σ' H' μ' ((x1.trans x2).trans x') e' m'⟩
  cases x with
  | cell k => cases y with
    |int n=>exact key k n rfl rfl
    |_=>exact h2.elim
  |_=>exact h2.elim
theorem Hv (ha:DE fa X a ga)(hd:DE fa X d gd){apos cpos:Pos}(hbase:attributeBase a "append" X.env (eval a X.env)=eval a X.env)(hline:(apos.endLine==cpos.line)=true)(hs:starEach [d] X.env=[(false,eval d X.env)])
 (hsw:swapsWith (.Call (.Attribute a "append" apos) [d] [] cpos) none pos.line X.env=pure false) :
 DS fa X (.Expr (.Call (.Attribute a "append" apos) [d] [] cpos) pos) (fun Z M=>(ga Z M).bind fun x M=>(gd Z M).bind fun z M=>match x with
  | .cell k => match M[k]? with
    |some ds=>if ds.length<sz then .ok (.next Z) (M.set k (ds++[z])) else .bad
    |none=>.bad
  |_=>.bad):=
 dw (lN (IH PySem.F.plainAttrs_list PySem.F.slot_list_append PySem.F.type_list_append pZ ha (cH hd fi hs) hbase (by rw [hs];rfl) hline hs (by rfl)) hsw) fun D' σ H ⟨μ,Z,M,hE,hM,h⟩=>by
  obtain ⟨x,M1,e1,h1⟩:=aJ h
  obtain ⟨z,M2,e2,h2⟩:=aJ h1
  cases x with
  | cell k =>
    dsimp only at h2
    cases e:M2[k]? with
    |none=>rw [e] at h2;exact h2.elim
    | some ds =>
      rw [e] at h2
      dsimp only at h2
      split at h2
      ·next hz=>
       have q:∀σ' H' μ',Ext μ H μ' H'->a7 fa X.K μ' H' σ' Z->RelM fa X.K μ' H' (M2.set k (ds++[z]))->D'.nx σ' H':=h2
       refine ⟨μ,Z,M,hE,hM,?_⟩
       rw [e1]
       intro vx H1 μ1 x1 hM1 rx
       obtain ⟨ad,rfl,hk⟩:=rx
       obtain ⟨ds1,ws1,_,hH1,_⟩:=hM1.mu_lt hk
       refine ⟨.inl ⟨rfl,ws1,bV.of hH1⟩,μ1,Z,M1,hE.ext x1,hM1,?_⟩
       rw [e2]
       intro vz H2 μ2 x2 hM2 rz
       obtain ⟨ws,h4,h5⟩:=hM2.at_ e (x2.mu k ad hk)
       refine ⟨ad,ws,vz,rfl,rfl,h4,by rw [h5.length,<- cS];exact hz,?_⟩
       exact pE ((hE.ext x1).ext x2) hM2 (x2.mu k ad hk) (h5.append (.one rz)) fun σ' H' μ' x' e' m'=>q σ' H' μ' ((x1.trans x2).trans x') e' m'
      ·exact h2.elim
  |_=>exact h2.elim
theorem Ji (ha:DE fa X a ga)(hs:swapsWith a none pos.line X.env=pure false):DS fa X (.Expr a pos) (fun Z M=>(ga Z M).bind fun _ M=>.ok (.next Z) M):=
 dw (lN ha hs) fun D' σ H ⟨μ,Z,M,hE,hM,h⟩=>t1 hE hM h fun x M1 v H1 μ1 x1 hE1 hM1 r1 h1=>h1 σ H1 μ1 x1 hE1 hM1
theorem Hq (ha:DE fa X a ga):DS fa X (.Return (some a) pos) (fun Z M=>(ga Z M).bind fun x M=>.ok (.ret x) M):=
 dw (xt ha) fun D' σ H ⟨μ,Z,M,hE,hM,h⟩=>by
  obtain ⟨x,M1,e,q⟩:=aJ h
  refine ⟨μ,Z,M,hE,hM,?_⟩
  rw [e];exact q
theorem Eo:DS fa X (.Return none pos) (fun _ M=>.ok (.ret .non) M):=dw DH fun D' σ H ⟨μ,Z,M,hE,hM,h⟩=>aY (v:=.non) hM h rfl
theorem Ep:DS fa X (.Pass pos) (fun Z M=>.ok (.next Z) M):=dw DJ fun D' σ H ⟨μ,Z,M,hE,hM,h⟩=>h σ H μ .refl hE hM
theorem oF.ext {μ μ':Mu}{H H':Hp}{D':Ends}(x:Ext μ H μ' H'){fl:Fl}{M:Mem}(q:oF fa X μ H D' fl M):oF fa X μ' H' D' fl M:=by
 cases fl with
 |next ρ'=>exact fun σ' H'' μ'' y e m=>q σ' H'' μ'' (x.trans y) e m
 |ret d=>exact aZ.ext q x
 |exc x' ρ'=>exact XW.ext q x
theorem Gp {r:Res Fl}{μ μ':Mu}{H H':Hp}{D':Ends}(x:Ext μ H μ' H')(h:ag r (oF fa X μ H D')):ag r (oF fa X μ' H' D'):=aT h fun fl M q=>q.ext x
theorem Hs {c:Expr}{gc:Env->Mem->Res Bool}{st sf:List Stmt}{gt gf:Env->Mem->Res Fl}(hc:DT fa X c gc)(ht:mG fa X st gt)(hf:mG fa X sf gf):DS fa X (.If c st sf pos) (fun Z M=>(gc Z M).bind fun k M=>if k then gt Z M else gf Z M):=
 dw (IC hc ht hf) fun D' σ H ⟨μ,Z,M,hE,hM,h⟩=>wL hE hM h fun k M1 H1 μ1 x1 hE1 hM1 h1=>by
  cases k with
  |true=>exact ⟨μ1,Z,M1,hE1,hM1,Gp x1 h1⟩
  |false=>exact ⟨μ1,Z,M1,hE1,hM1,Gp x1 h1⟩
theorem Em:mG fa X [] (fun Z M=>.ok (.next Z) M):=uf ue fun D' σ H ⟨μ,Z,M,hE,hM,h⟩=>h σ H μ .refl hE hM
theorem AX {st:Stmt}{ss:List Stmt}{g:Env->Mem->Res Fl}{g':Env->Mem->Res Fl}(h1:DS fa X st g)(h2:mG fa X ss g'):mG fa X (st::ss) (fun Z M=>(g Z M).bind fun fl M=>match fl with
 |.next Z=>g' Z M
 |fl=>.ok fl M):=
 uf (mS h1 h2) fun D' σ H ⟨μ,Z,M,hE,hM,h⟩=>by
  obtain ⟨fl,M1,e,q⟩:=aJ h
  refine ⟨μ,Z,M,hE,hM,?_⟩
  rw [e]
  cases fl with
  |next ρ1=>exact fun σ1 H1 μ1 x1 hE1 hM1=>⟨μ1,ρ1,M1,hE1,hM1,Gp x1 q⟩
  |ret d=>exact q
  |exc x ρ1=>exact q
end
end LD
namespace LD
open PySem PySem.Spec PyProof.Rows L2
noncomputable def cY (fa:Fa)(K:LX)(μ0:Mu)(H0:Hp)(w:Walk)(J:It):Prop:=
 ∀(μ:Mu) (H:Hp) (M:Mem) (ds:List D),ExtW μ0 H0 μ H->RelM fa K μ H M->w M=some ds->(∀(i:Nat) (d:D),ds[i]?=some d->J.go i H/\∀x H',J.yld i H x H'->Ext μ H μ H'/\RelM fa K μ H' M/\Rep fa K μ H' d x)/\∀i,ds.length<=i->J.stop i H
noncomputable def tI (fa:Fa)(K:LX)(g:Env->Mem->Res Walk):TI:=fun σ H R=>∃μ Z M,a7 fa K μ H σ Z/\RelM fa K μ H M/\ag (g Z M) fun w M'=>∀J H' μ',Ext μ H μ' H'->RelM fa K μ' H' M'->cY fa K μ' H' w J->R J H'
abbrev DI (fa:Fa)(X:Cx)(tg iter:Expr)(g:Env->Mem->Res Walk):Prop:=PI X tg iter (tI fa X.K g)
theorem wo {fa:Fa}{K:LX}{μ0 μ1:Mu}{H0 H1:Hp}{w:Walk}{J:It}(h:cY fa K μ0 H0 w J)(x:ExtW μ0 H0 μ1 H1):cY fa K μ1 H1 w J:=fun μ H M ds y hM e=>h μ H M ds (x.trans y) hM e
section
variable {fa:Fa}{X:Cx}{tg a b d:Expr}{ga gb gd:Env->Mem->Res D}{pos p:Pos}{es:List Expr}{n:Nat}
theorem wq {μ0:Mu}{H0:Hp}{dd:D}{ad:Addr}(h:Rep fa X.K μ0 H0 dd (.ref ad)):cY fa X.K μ0 H0 (fun M=>d8 M dd) (HX X.K ad):=fun μ H M ds x hM e=>by
 obtain ⟨ad',vs,ea,s,r⟩:=bF hM (Rep.extW x h) e
 cases ea
 refine ⟨fun i d hd=>?_,fun i hi=>⟨vs,s,by rw [r.length];exact hi⟩⟩
 obtain ⟨v,hv,rv⟩:=r.get hd
 refine ⟨⟨vs,v,s,hv⟩,fun y H' ⟨e,hy⟩=>?_⟩
 subst e
 have:=hy vs s
 rw [hv] at this;cases this
 exact ⟨.refl,hM,rv⟩
theorem yX {μ0:Mu}{H0:Hp}{ds:List D}{ad:Addr}(h:Rep fa X.K μ0 H0 (.tup ds) (.ref ad)):cY fa X.K μ0 H0 (fun _=>some ds) (HV X.K ad):=fun μ H M ds' x hM e'=>by
 cases e'
 obtain ⟨ad',vs,e,s,r⟩:=Rep.extW x h
 cases e
 refine ⟨fun i d hd=>?_,fun i hi=>⟨vs,s,by rw [r.length];exact hi⟩⟩
 obtain ⟨v,hv,rv⟩:=r.get hd
 refine ⟨⟨vs,v,s,hv⟩,fun y H' ⟨e,hy⟩=>?_⟩
 subst e
 have:=hy vs s
 rw [hv] at this;cases this
 exact ⟨.refl,hM,rv⟩
theorem yZ {μ0:Mu}{H0:Hp}(lo:Int)(n:Nat):cY fa X.K μ0 H0 (fun _=>some ((List.range n).map fun (k:Nat)=>D.int (lo+(k:Int)))) (Cy lo n):=fun μ H M ds x hM e=>by
 cases e
 refine ⟨fun i d hd=>?_,fun i hi=>(show n<=i by simpa using hi)⟩
 rw [MU] at hd
 by_cases hi:i<n
 ·rw [List.getElem?_range hi] at hd
  have e:D.int (lo+(i:Int))=d:=L9 hd
  subst e
  refine ⟨hi,fun y H' ⟨e1,e2⟩=>?_⟩
  subst e1 e2
  exact ⟨.refl,hM,rfl⟩
 ·rw [NI (by simpa using hi)] at hd;cases hd
noncomputable def di (ga:Env->Mem->Res D):Env->Mem->Res Walk:=fun Z M=>(ga Z M).bind fun x M=>match x with
 |.lst ds=>.ok (fun _=>some ds) M
 |.tup ds=>.ok (fun _=>some ds) M
 |.frz ds=>.ok (fun _=>some ds) M
 |.cell k=>.ok (fun M=>M[k]?) M
 |_=>.bad
theorem Hw (ha:DE fa X a ga):DI fa X tg a (di ga):=fun pins s σ H R I ⟨μ,Z,M,hE,hM,h⟩=>by
 obtain ⟨x,M1,e,q⟩:=aJ h
 have lst:(∀μ' H',RelM fa X.K μ' H' M1->∀v,Rep fa X.K μ' H' x v->∃ds,d8 M1 x=some ds)->(∀J H' μ',Ext μ H μ' H'->RelM fa X.K μ' H' M1->cY fa X.K μ' H' (fun M=>d8 M x) J->R J H')->
  wpAny (model X.prog X.w) X.A (eval a X.env) (fun v s1=>wpAny (model X.prog X.w) X.A (pyIter v) (Cs X pins σ tg R) X.xe s1) X.xe s:=fun hx q=>by
  refine DM ha pins s σ H R I ⟨μ,Z,M,hE,hM,?_⟩
  rw [e]
  intro v H1 μ1 x1 m1 r1
  obtain ⟨ds,er⟩:=hx μ1 H1 m1 v r1
  obtain ⟨ad,vs,rfl,s1,r⟩:=bF m1 r1 er
  exact ⟨ad,rfl,⟨vs,s1⟩,q _ H1 μ1 x1 m1 (wq r1)⟩
 cases x with
 |lst ds=>exact lst (fun _ _ _ _ _=>⟨ds,rfl⟩) q
 |frz ds=>exact lst (fun _ _ _ _ _=>⟨ds,rfl⟩) q
 | tup ds =>
   refine FZ ha pins s σ H R I ⟨μ,Z,M,hE,hM,?_⟩
   rw [e]
   intro v H1 μ1 x1 m1 r1
   obtain ⟨ad,vs,rfl,s1,r⟩:=id r1
   exact ⟨ad,rfl,⟨vs,s1⟩,q _ H1 μ1 x1 m1 (yX r1)⟩
 |cell k=>exact lst (fun μ' H' m' v ⟨ad,_,hk⟩=>let ⟨ds,_,e,_⟩:=m'.mu_lt hk;⟨ds,e⟩) q
 |_=>exact q.elim
noncomputable def dB (ga:Env->Mem->Res D):Env->Mem->Res Walk:=fun Z M=>(ga Z M).bind fun x M=>match x with
 |.int n=>if -(2^62)<=n/\n<2^62 then .ok (fun _=>some ((List.range n.toNat).map fun (k:Nat)=>D.int (k:Int))) M else .bad
 |_=>.bad
theorem Ex (ha:DE fa X a ga)(hg:Gl X "range")(hm:X.mg "range"=none)(hs:starEach [a] X.env=[(false,eval a X.env)]):DI fa X tg (.Call (.Name "range" p) [a] [] pos) (dB ga):=fun pins s σ H R I ⟨μ,Z,M,hE,hM,h⟩=>by
 refine xx hg hm (cH ha fi hs) hs pins s σ H R I ?_
 refine t1 hE hM h fun x M1 v H1 μ1 x1 hE1 hM1 r1 h1=>?_
 cases x with
 | int n =>
   dsimp only at h1
   split at h1
   ·next c=>
    obtain rfl:v=.int n:=r1
    refine ⟨n,rfl,c.1,c.2,h1 _ H1 μ1 x1 hM1 ?_⟩
    have:=yZ (fa:=fa) (X:=X) (μ0:=μ1) (H0:=H1) 0 n.toNat
    simpa using this
   ·exact h1.elim
 |_=>exact h1.elim
noncomputable def fW (t:cD)(gb:Env->Mem->Res Fl):Fl->D->Mem->Res Fl:=fun fl d M=>match fl with
 |.next Z=>(bR M (b7 t d Z)).bind fun ρ1 M=>gb ρ1 M
 |fl=>.ok fl M
noncomputable def Fl.out:Fl->Bool
 |.next _=>false
 |_=>true
theorem kg {t:cD}{gb:Env->Mem->Res Fl}{fl:Fl}{w:Walk}{P:Fl->Mem->Prop}(ho:fl.out=true):∀(n i:Nat) (M:Mem),ag (dX (fW t gb) w n i fl M) P->P fl M
 |0,_,_,h=>h.elim
 | n + 1, i, M, h => by
   unfold dX at h
   cases e:w M with
   |none=>rw [e] at h;exact h.elim
   | some ds =>
     rw [e] at h
     dsimp only at h
     cases e2:ds[i]? with
     |none=>rw [e2] at h;exact h
     | some d' =>
       rw [e2] at h
       cases fl with
       |next Z=>cases ho
       |ret d=>exact kg ho n (i+1) M h
       |exc x Z=>exact kg ho n (i+1) M h
theorem Ht {t:cD}{body:List Stmt}{gw:Env->Mem->Res Walk}{gb:Env->Mem->Res Fl}(hp:PassesOwn (model X.prog X.w) X.A X.env X.xe)(hc:X.calm=true)(hi:DI fa X tg a gw)(hg:PG X tg (gT fa X.K t))(hb:mG fa X body gb)
 (hs:∀x,foldedSetIterable a X.env x=pure x):DS fa X (.For tg a body [] pos) (fun Z M=>(gw Z M).bind fun w M=>c6 (fW t gb) w (.next Z) M):=
 dw (FX hp hc hi hg hb hs) fun D' σ H ⟨μ,Z,M,hE,hM,h⟩=>by
  obtain ⟨w,M1,e,q⟩:=aJ h
  refine ⟨μ,Z,M,hE,hM,?_⟩
  rw [e]
  intro J H1 μ1 x1 hM1 wk
  have hE1:=hE.ext x1
  refine ⟨fun i m σ' H'=>∃μ' ρ' M',Ext μ1 H1 μ' H'/\a7 fa X.K μ' H' σ' ρ'/\RelM fa X.K μ' H' M'/\ag (dX (fW t gb) w m i (.next ρ') M') (oF fa X μ H D'),
   ⟨_,μ1,Z,M1,.refl,hE1,hM1,q⟩,?_⟩
  rintro i m σ2 H2 ⟨μ2,ρ2,M2,x2,hE2,hM2,q2⟩
  cases m with
  |zero=>exact q2.elim
  | succ m =>
    unfold dX at q2
    cases e2:w M2 with
    |none=>rw [e2] at q2;exact q2.elim
    | some ds =>
      rw [e2] at q2
      dsimp only at q2
      obtain ⟨go,stop⟩:=wk μ2 H2 M2 ds x2.toExtW hM2 e2
      cases ed:ds[i]? with
      | none =>
        rw [ed] at q2
        exact .inl ⟨stop i (List.getElem?_eq_none_iff.mp ed),q2 σ2 H2 μ2 (x1.trans x2) hE2 hM2⟩
      | some d =>
        rw [ed] at q2
        obtain ⟨g1,g2⟩:=go i d ed
        refine .inr ⟨g1,fun σ' H'=>∃μ' ρ' M',Ext μ1 H1 μ' H'/\a7 fa X.K μ' H' σ' ρ'/\RelM fa X.K μ' H' M'/\ag (dX (fW t gb) w m (i+1) (.next ρ') M') (oF fa X μ H D'),fun σ' H' z=>⟨m,by omega,z⟩,fun y H3 hy=>?_⟩
        obtain ⟨x3,hM3,r3⟩:=g2 y H3 hy
        have q2:ag (((bR M2 (b7 t d ρ2)).bind fun ρ1 M=>gb ρ1 M).bind (dX (fW t gb) w m (i+1))) (oF fa X μ H D'):=q2
        obtain ⟨fl,M4,e4,q4⟩:=aJ q2
        obtain ⟨ρ4,M5,e5,e6⟩:=d3 e4
        cases eb:b7 t d ρ2 with
        |none=>rw [eb] at e5;cases e5
        | some ρ5 =>
          rw [eb] at e5
          cases e5
          refine ⟨μ2,ρ2,_,d,ρ4,hE2.ext x3,hM3,r3,eb,fun σ5 hE5=>⟨μ2,ρ4,_,hE5,hM3,?_⟩⟩
          rw [e6]
          cases fl with
          |next ρ6=>exact fun σ6 H6 μ6 x6 hE6 hM6=>⟨μ6,ρ6,M4,(x2.trans x3).trans x6,hE6,hM6,q4⟩
          |ret d6=>exact (kg rfl m (i+1) M4 q4).ext ((x1.trans x2).trans x3)
          |exc x6 ρ6=>exact (kg rfl m (i+1) M4 q4).ext ((x1.trans x2).trans x3)
end
end LD
namespace LD
open PySem PySem.Spec PyProof.Rows L2
abbrev FF:LY->L4->Prop:=fun _ _=>False
section
variable {prog:Ms}{w:Mv}{A:MZ}{s:L4}
theorem yF {elt:Expr}{gens:List NC}{scope:Scope}{pos p:Pos}{k:Nat}{it acc:LY}{env:MN}{R:Result->L4->Prop}{target:Expr}{body:Sem Unit}
 (heq:compTurn (.ListComp elt gens scope pos) k it acc env=(standAt p >>= fun _=>pyNext it >>= fun r=>match r with
  |none=>pure (.done .next)
  |some v=>letOwnedTupleGo target it v >>= fun _=>assign target env v >>= fun _=>body >>= fun _=>again (.compLoop (.ListComp elt gens scope pos) k it acc env)))
 (I:Nat->L4->Prop)
 (turn:∀n s,I n s->wpAny (model prog w) A (pyNext it) (fun r s₁=>match r with
  |none=>R (.ok .next) s₁
  |some v=>wpAny (model prog w) A (letOwnedTupleGo target it v) (fun _ s₂=>wpAny (model prog w) A (assign target env v) (fun _ s₃=>wpAny (model prog w) A body (fun _ s₄=>∃m,m<n/\I m s₄) FF s₃) FF s₂) FF s₁) FF s)
 (n:Nat) (h:I n s):codeAny (model prog w) A (.compLoop (.ListComp elt gens scope pos) k it acc env) R s:=by
 refine codeAny_loop rfl I (fun n s hI=>?_) n h
 show wpAny _ _ ((compTurn (.ListComp elt gens scope pos) k it acc env).onRaise (fun x=>do noteFrame x env;theTreesLotGoes x)) _ _ s
 refine wpAny_noted ?_
 rw [heq]
 refine wpAny_noRaise ?_
 refine tqa (wpAny_standAt (tqa (aP (turn n s hI) fun r s₁ h₁=>?_)))
 cases r with
 |none=>exact tqb h₁
 | some v =>
   refine tqa (aP h₁ fun _ s₂ h₂=>?_)
   exact tqa (aP h₂ fun _ s₃ h₃=>tqa (aP h₃ fun _ s₄ h₄=>tqb ⟨rfl,h₄⟩))
theorem zq (elt target iter:Expr)(gs:List NC)(scope:Scope)(pos:Pos)(it acc:LY)(env:MN) :
 compTurn (.ListComp elt [⟨target,iter,[],0⟩] scope pos) 0 it acc env=(standAt iter.pos >>= fun _=>pyNext it >>= fun r=>match r with
  |none=>pure (.done .next)
  |some v=>letOwnedTupleGo target it v >>= fun _=>assign target env v >>= fun _=>(eval elt env >>= fun x=>call (.builtin "list.append") [acc,x] >>= fun _=>pure ()) >>= fun _=>again (.compLoop (.ListComp elt [⟨target,iter,[],0⟩] scope pos) 0 it acc env)):=by rfl
theorem turn_if (elt target iter c:Expr)(scope:Scope)(pos:Pos)(it acc:LY)(env:MN) :
 compTurn (.ListComp elt [⟨target,iter,[c],0⟩] scope pos) 0 it acc env=(standAt iter.pos >>= fun _=>pyNext it >>= fun r=>match r with
  |none=>pure (.done .next)
  |some v=>letOwnedTupleGo target it v >>= fun _=>assign target env v >>= fun _=>(isTrue c env (eval c env) >>= fun ok=>if ok=true then (eval elt env >>= fun x=>call (.builtin "list.append") [acc,x] >>= fun _=>pure ()) else pure ()) >>= fun _=>again (.compLoop (.ListComp elt [⟨target,iter,[c],0⟩] scope pos) 0 it acc env)):=by
 rw [compTurn_list]
 refine congrArg _ (funext fun _=>congrArg _ (funext fun r=>?_))
 cases r with
 |none=>rfl
 | some v =>
   simp only [List.forIn_cons,List.forIn_nil,if_true,bind_assoc,pure_bind]
   refine congrArg _ (funext fun _=>congrArg _ (funext fun _=>congrArg _ (funext fun ok=>?_)))
   cases ok<;>simp
theorem zo (elt target iter t2 i2:Expr)(scope:Scope)(pos:Pos)(it acc:LY)(env:MN) :
 compTurn (.ListComp elt [⟨target,iter,[],0⟩,⟨t2,i2,[],0⟩] scope pos) 0 it acc env=(standAt iter.pos >>= fun _=>pyNext it >>= fun r=>match r with
  |none=>pure (.done .next)
  |some v=>letOwnedTupleGo target it v >>= fun _=>assign target env v >>= fun _=>(eval i2 env >>= fun x=>standAt i2.pos >>= fun _=>foldedSetIterable i2 env x >>= fun x=>holding [x] (pyIter x) >>= fun j=>runOwn (.compStart (.ListComp elt [⟨target,iter,[],0⟩,⟨t2,i2,[],0⟩] scope pos) 1 j acc env) env >>= fun _=>pure ()) >>= fun _=>again (.compLoop (.ListComp elt [⟨target,iter,[],0⟩,⟨t2,i2,[],0⟩] scope pos) 0 it acc env)):=by
 unfold compTurn
 simp only [Oe,bne_self_eq_false,Bool.false_eq_true,if_false]
 refine bind_congr fun _=>bind_congr fun r=>?_
 cases r with
 |none=>rfl
 |some v=>simp
theorem zp (elt target iter t2 i2:Expr)(scope:Scope)(pos:Pos)(it acc:LY)(env:MN) :
 compTurn (.ListComp elt [⟨target,iter,[],0⟩,⟨t2,i2,[],0⟩] scope pos) 1 it acc env=(standAt i2.pos >>= fun _=>pyNext it >>= fun r=>match r with
  |none=>pure (.done .next)
  |some v=>letOwnedTupleGo t2 it v >>= fun _=>assign t2 env v >>= fun _=>(eval elt env >>= fun x=>call (.builtin "list.append") [acc,x] >>= fun _=>pure ()) >>= fun _=>again (.compLoop (.ListComp elt [⟨target,iter,[],0⟩,⟨t2,i2,[],0⟩] scope pos) 1 it acc env)):=by
 rfl
theorem ku (env:MN):∀(ns:List (Str×NameKind)) (cs:List (Str×Addr)),(∀y∈ns,y.2=.free->∃c,env.cells.lookup y.1=some c)->(∀x c,cs.lookup x=some c->env.cells.lookup x=some c)->
 ∃cl,(forIn ns cs fun (y:Str×NameKind) (r:List (Str×Addr))=>if (y.2==NameKind.free)=true then cellOf env y.1 >>= fun a=>pure (ForInStep.yield ((y.1,a)::r)) else pure (ForInStep.yield r):Sem _)=pure cl/\
  (∀x c,cl.lookup x=some c->env.cells.lookup x=some c)/\(∀x c,cs.lookup x=some c->∃c',cl.lookup x=some c')/\∀y∈ns,y.2=.free->∃c,cl.lookup y.1=some c
 |[],cs,_,h2=>⟨cs,by simp,h2,fun x c e=>⟨c,e⟩,fun y hy=>nomatch hy⟩
 | (n, k) :: ns, cs, h1, h2 => by
   by_cases hk:k=.free
   ·subst hk
    obtain ⟨a,ha⟩:=h1 (n,.free) My rfl
    have lk:∀x c,((n,a)::cs).lookup x=some c->env.cells.lookup x=some c:=fun x c e=>by
     rw [MK] at e
     split at e
     ·next q=>cases e;rw [eq_of_beq q];exact ha
     ·exact h2 x c e
    obtain ⟨cl,e,p1,p2,p3⟩:=ku env ns ((n,a)::cs) (fun y hy=>h1 y (Mh _ hy)) lk
    refine ⟨cl,?_,p1,fun x c q=>?_,fun y hy hf=>?_⟩
    ·rw [List.forIn_cons]
     have ec:cellOf env n=pure a:=by unfold cellOf;rw [ha]
     simp only [beq_self_eq_true,if_true,ec]
     exact e
    ·by_cases hx:x=n
     ·exact p2 x a (by rw [MK,hx];simp)
     ·exact p2 x c (by rw [MK,MP.mpr hx];exact q)
    ·rcases MJ.mp hy with z|z
     ·subst z;exact p2 n a (by simp [MK])
     ·exact p3 y z hf
   ·obtain ⟨cl,e,p1,p2,p3⟩:=ku env ns cs (fun y hy=>h1 y (Mh _ hy)) h2
    refine ⟨cl,?_,p1,p2,fun y hy hf=>?_⟩
    ·rw [List.forIn_cons]
     have eb:(k==NameKind.free)=false:=by simpa using hk
     simp only [eb,Bool.false_eq_true,if_false]
     exact e
    ·rcases MJ.mp hy with z|z
     ·subst z;exact absurd hf hk
     ·exact p3 y z hf
theorem vW {scope:Scope}{env:MN}(h:∀y∈scope.names,y.2=.free->∃c,env.cells.lookup y.1=some c) :
 ∃cl,closureFor scope env=pure cl/\(∀x c,cl.lookup x=some c->env.cells.lookup x=some c)/\∀y∈scope.names,y.2=.free->∃c,cl.lookup y.1=some c:=by
 obtain ⟨cl,e,p1,_,p3⟩:=ku env scope.names [] h (fun x c q=>nomatch q)
 exact ⟨cl,by unfold closureFor;simp only [bind_pure];exact e,p1,p3⟩
end
end LD
namespace LD
open PySem PySem.Spec PyProof.Rows L2
noncomputable def gx (X:Cx)(own bn:List Str)(scope:Scope)(cl:List (Str×Addr))(C:Addr)(fp:List Addr)(s:L4)(H:Hp):Cx:=
 {X with N:=own++bn,s₀:=s,H₀:=H,env:=compEnvC scope cl C X.env,outer:=X.stack,ex:=fp,fn:=fun _=>false,pn:=[],xe:=FF}
theorem mem_of_lookup {β:Type}:∀{l:List (Str×β)}{x:Str}{k:β},l.lookup x=some k->(x,k)∈l
 |[],_,_,h=>by cases h
 | (n, b) :: r, x, k, h => by
   rw [MK] at h
   split at h
   ·next q=>cases h;rw [eq_of_beq q];exact My
   ·exact Mh _ (mem_of_lookup h)
theorem fY {env:MN}:∀{names:List (Str×NameKind)}{x:Str}{k:NameKind},
 (names.map fun (n,k)=>if (k==NameKind.free&&env.scope.kind==.function&&env.kindOf n==some .cell) then (n,NameKind.cell) else (n,k)).lookup x=some k->
 ∃k0,(x,k0)∈names/\names.lookup x=some k0/\(k=k0\/(k0=.free/\k=.cell))
 |[],_,_,h=>by cases h
 | (n, k0) :: r, x, k, h => by
   have ih:=@fY env r x k
   have h:List.lookup x ((if (k0==NameKind.free&&env.scope.kind==.function&&env.kindOf n==some .cell)=true then (n,NameKind.cell) else (n,k0))::_)=some k:=h
   cases hx:x==n with
   | true =>
     have e:=eq_of_beq hx
     subst e
     refine ⟨k0,My,by simp [MK],?_⟩
     split at h
     ·next c=>
      simp [MK] at h
      simp at c
      exact .inr ⟨c.1.1,h.symm⟩
     ·simp [MK] at h
      exact .inl h.symm
   | false =>
     have h':List.lookup x (r.map fun (n,k)=>if (k==NameKind.free&&env.scope.kind==.function&&env.kindOf n==some .cell) then (n,NameKind.cell) else (n,k))=some k:=by
      split at h<;>simpa [MK,hx] using h
     obtain ⟨k1,h1,h2,h3⟩:=ih h'
     exact ⟨k1,Mh _ h1,by simp [MK,hx];exact h2,h3⟩
theorem nW {α β:Type}{R:α->β->Prop}:∀{l:List α}{r:List β}{i:Nat}{x:α},N6 R l r->l[i]?=some x->∃y,r[i]?=some y/\R x y
 |_,_,_,_,.nil,e=>by simp at e
 |_,_,0,_,.cons p _,e=>by simp at e;subst e;exact ⟨_,rfl,p⟩
 | _, _, i + 1, x, .cons _ t, e => by
   obtain ⟨y,h1,h2⟩:=nW (i:=i) (x:=x) t (by simpa using e)
   exact ⟨y,by simpa using h1,h2⟩
structure ie (X:Cx) (own bn:List Str) (scope:Scope):Prop where
 kind:scope.kind=.function
 nocell:∀y∈scope.names,y.2≠.cell
 loc:∀y∈scope.names,y.2=.local->scope.names.lookup y.1=some .local
 free:∀y∈scope.names,y.2=.free->X.env.kindOf y.1=some .cell\/X.env.kindOf y.1=some .free
 dis:N6 (fun b x=>(b=x/\scope.names.lookup x≠some .local)\/scope.names.lookup b=none) bn X.N
section
variable {X:Cx}{pins:List (Addr×Obj)}{σ:L2.St}{H:Hp}{s:L4}{fp:List Addr}{scope:Scope}{cl:List (Str×Addr)}{own bn:List Str}
structure Cl (X:Cx) (scope:Scope) (cl:List (Str×Addr)):Prop where
 sub:∀x c,cl.lookup x=some c->X.env.cells.lookup x=some c
 has:∀y∈scope.names,y.2=.free->∃c,cl.lookup y.1=some c
theorem EF (I:Inv X pins σ H s)(S:ie X own bn scope)(hcl:Cl X scope cl)(hfp:∀b∈fp,fh X pins H b)(hfo:∀b∈fp,∃o,s.heap.get? b=some o) :
 (gx X own bn scope cl s.heap.objs.size fp s H).Ok where
 mod:=I.ok.mod
 kind:=S.kind
 glob:=I.ok.glob
 blt:=I.ok.blt
 above:=L7 _
 inj:=fun x y c h1 h2=>I.ok.inj x y c (hcl.sub x c h1) (hcl.sub y c h2)
 has:=fun x h=>by
  have key:∀k,(relabel scope X.env).names.lookup x=some k->(k=.cell\/k=.free)->∃c,cl.lookup x=some c:=fun k hk hh=>by
   obtain ⟨k0,h1,h2,h3⟩:=fY hk
   have hf:k0=.free:=by
    rcases h3 with e|⟨e,_⟩
    ·rcases hh with z|z
     ·exact absurd (e.symm.trans z) (S.nocell _ h1)
     ·exact e.symm.trans z
    ·exact e
   exact hcl.has _ h1 hf
  rcases h with h|h
  ·exact key _ h (.inl rfl)
  ·exact key _ h (.inr rfl)
 cab:=fun x c h=>nomatch h
 hd:=I.ok.hd
 frames:=I.ok.frames
 stk:=.inl rfl
 exf:=fun b hb=>⟨fun e=>by
  obtain ⟨o,ho⟩:=hfo b hb
  exact absurd (Mi ho) (by rw [e];exact Nk _),fun x c e=>(hfp b hb).2.2.2.2.1 x c (hcl.sub x c e)⟩
 bs:=fun b o e=>I.bs b o e
 bsz:=Mb I.ok.bsz I.sz
 noex:=fun b o e hb=>by
  rcases (hfp b hb).2.2.2.1 with z|z
  ·exact I.ok.noex b o e z
  ·exact absurd (Mj (Mi e) (Mb I.ok.bsz z)) (Nk _)
 exfs:=fun b hb hx=>by
  rcases MJ.mp (I.stkSub b hx) with e|e
  ·exact (hfp b hb).2.1 e
  ·exact (hfp b hb).2.2.1 e
 funs:=I.stack
 frf:=fun b hb=>I.stkFree b hb
theorem A4 (I:Inv X pins σ H s)(S:ie X own bn scope)(hcl:Cl X scope cl)(hfp:∀b∈fp,fh X pins H b)(hfo:∀b∈fp,∃o,s.heap.get? b=some o){h':Heap}{t':Nat}{m:Str->Option LY}
 (hn:h'.Ns s.heap.objs.size m) (hk:∀b o,s.heap.get? b=some o->h'.get? b=some o) :
 Inv (gx X own bn scope cl s.heap.objs.size fp s H) [] (List.replicate own.length none++σ) H {s with heap:=h',toks:=t'} where
 ok:=EF I S hcl hfp hfo
 os:=rfl
 bare:=I.bare
 base:=Un.kept hk
 loc:=by
  refine ⟨m,hn,fun i x v e1 e2 hv=>?_⟩
  have e1:(own++bn)[i]?=some x:=e1
  have hi:own.length<=i:=by
   by_cases q:i<own.length
   ·rw [Mw (by simpa using q),NP] at e2
    simp [q] at e2
   ·omega
  rw [ME hi] at e1
  rw [ME (by simpa using hi)] at e2
  simp only [List.length_replicate] at e2
  have hx:X.N[i-own.length]?=some x/\scope.names.lookup x≠some .local:=by
   rcases nW S.dis e1 with ⟨y,h1,⟨h2,h3⟩|h2⟩
   ·subst h2;exact ⟨h1,h3⟩
   ·exfalso
    have no:∀k,(relabel scope X.env).names.lookup x≠some k:=fun k hk=>by
     obtain ⟨k0,_,h3,_⟩:=fY hk
     rw [h2] at h3;cases h3
    rcases hv with z|z|z
    ·exact no _ z
    ·exact no _ z
    ·exact no _ z
  have key:∀k,(relabel scope X.env).names.lookup x=some k->(k=.local\/k=.cell\/k=.free)->∃c,(k=.cell\/k=.free)/\cl.lookup x=some c/\(X.env.kindOf x=some .cell\/X.env.kindOf x=some .free):=fun k hk2 hh=>by
   obtain ⟨k0,h1,h2,h3⟩:=fY hk2
   have nl:k0≠.local:=fun e=>hx.2 (by rw [h2,e])
   have hf:k0=.free:=by
    rcases h3 with e|⟨e,_⟩
    ·rcases hh with z|z|z
     ·exact absurd (e.symm.trans z) nl
     ·exact absurd (e.symm.trans z) (S.nocell _ h1)
     ·exact e.symm.trans z
    ·exact e
   obtain ⟨c,hc⟩:=hcl.has _ h1 hf
   refine ⟨c,?_,hc,S.free _ h1 hf⟩
   rcases hh with z|z|z
   ·rcases h3 with e|⟨_,e⟩
    ·rw [hf] at e;rw [e] at z;cases z
    ·rw [e] at z;cases z
   ·exact .inl z
   ·exact .inr z
  have fin:∀k,(relabel scope X.env).names.lookup x=some k->(k=.local\/k=.cell\/k=.free)->∃u,RelV v u/\Look (compEnvC scope cl s.heap.objs.size X.env) h' m x u:=fun k hk2 hh=>by
   obtain ⟨c,h1,h2,h3⟩:=key k hk2 hh
   obtain ⟨m0,_,hl⟩:=I.loc
   obtain ⟨u,r,l⟩:=hl _ x v hx.1 e2 (.inr h3)
   refine ⟨u,r,.inr ⟨?_,c,h2,?_⟩⟩
   ·rcases h1 with z|z
    ·subst z;exact .inl hk2
    ·subst z;exact .inr hk2
   ·rcases l with ⟨z,_⟩|⟨_,c',hc',hcell⟩
    ·rcases h3 with q|q
     ·rw [z] at q;cases q
     ·rw [z] at q;cases q
    ·rw [hcl.sub x c h2] at hc';cases hc'
     obtain ⟨o,ho,hd⟩:=hcell
     exact ⟨o,hk _ _ ho,hd⟩
  rcases hv with z|z|z
  ·exact fin _ z (.inl rfl)
  ·exact fin _ z (.inr (.inl rfl))
  ·exact fin _ z (.inr (.inr rfl))
 cell:=fun x c e=>by
  obtain ⟨v,o,ho,hd⟩:=I.cell x c (hcl.sub x c e)
  exact ⟨v,o,hk _ _ ho,hd⟩
 free:=I.hok.fresh (L7 _)
 freeC:=fun x c e=>I.freeC x c (hcl.sub x c e)
 pin:=fun p hp=>nomatch hp
 hok:=I.hok.kept hk
 len:=by
  show (List.replicate own.length none++σ).length=(own++bn).length
  have:=Paired.length S.dis
  simp [I.len,this]
theorem comp_back (I:Inv X pins σ H s)(hfp:∀b∈fp,fh X pins H b){pins':List (Addr×Obj)}{σ':L2.St}{H':Hp}{s':L4}{C:Addr}(I':Inv (gx X own bn scope cl C fp s H) pins' σ' H' s'):Inv X pins σ H' s':=
 I.call' (ch:=fp) I'.os I'.base I'.hok I'.bare fun b hb=>⟨(hfp b hb).2.2.2.1,(hfp b hb).2.1,(hfp b hb).2.2.2.2.1,(hfp b hb).2.2.2.2.2⟩
theorem yG (I:Inv X pins σ H s){σ':L2.St}{H':Hp}{s':L4}(hf:H' s.heap.objs.size=none)(I':Inv X pins σ' H' s'){h'':Heap}(hs:Heap.SameBut s.heap.objs.size s'.heap h''):Inv X pins σ' H' {s' with heap:=h''}:=
 I'.turned (t':=s'.toks) (fun b o hb e=>(hs.2 b hb).trans e) hf (Nc I.lt) (.inr I.sz) (fun x c e z=>by
  obtain ⟨v,q⟩:=I.cell x c e
  exact absurd q.lt (by rw [z];exact Nk _)) fun p hp z=>absurd (Mi (I.pin p hp).1) (by rw [z];exact Nk _)
end
end LD
namespace LD
open PySem PySem.Spec PyProof.Rows L2
structure eT (a:Addr) (μ:Mu) (H:Hp) (μ':Mu) (H':Hp):Prop extends ExtW μ H μ' H' where
 pr:μ'.priv=μ.priv
 pk:∀b∈μ.priv,b≠a->H' b=H b
theorem eT.refl {a:Addr}{μ:Mu}{H:Hp}:eT a μ H μ H:=⟨.refl,rfl,fun _ _ _=>rfl⟩
theorem eT.trans {a:Addr}{μ μ1 μ2:Mu}{H H1 H2:Hp}(x:eT a μ H μ1 H1)(y:eT a μ1 H1 μ2 H2):eT a μ H μ2 H2:=
 ⟨x.toExtW.trans y.toExtW,y.pr.trans x.pr,fun b hb n=>(y.pk b (by rw [x.pr];exact hb) n).trans (x.pk b hb n)⟩
theorem Ext.toD {a:Addr}{μ μ':Mu}{H H':Hp}(x:Ext μ H μ' H'):eT a μ H μ' H':=⟨x.toExtW,x.pr,fun b hb _=>x.pk b hb⟩
noncomputable def slots:cD->List Nat
 |.one i=>[i]
 |.tup l=>l
noncomputable def Clear (W:List Nat)(Z:Env):Prop:=∀i∈W,∀d,Z[i]?≠some (some d)
section
variable {fa:Fa}{K:LX}{μ μ':Mu}{H H':Hp}{σ:L2.St}{Z ρ1:Env}{M:Mem}{a:Addr}
theorem a7.weak (h:a7 fa K μ H σ ρ1)(hl:ρ1.length=Z.length)(w:∀(i:Nat) d,Z[i]?=some (some d)->ρ1[i]?=some (some d)):a7 fa K μ H σ Z:=
 ⟨h.len.trans hl,fun i d e=>h.at' i d (w i d e)⟩
theorem nK:∀{l:List Nat}{ds:List D}{Z ρ1:Env},eI l ds Z=some ρ1->ρ1.length=Z.length/\∀i,i∉l->ρ1[i]?=Z[i]?
 |[],[],Z,ρ1,h=>by cases h;exact ⟨rfl,fun _ _=>rfl⟩
 |_::_,[],_,_,h=>by cases h
 |[],_::_,_,_,h=>by cases h
 | j :: l, d :: ds, Z, ρ1, h => by
   obtain ⟨h1,h2⟩:=nK (l:=l) (ds:=ds) h
   refine ⟨by simpa using h1,fun i hi=>?_⟩
   rw [h2 i (fun z=>hi (Mh _ z)),Mc (fun z=>hi (by rw [z];exact My))]
theorem qh {t:cD}{d:D}(h:b7 t d Z=some ρ1):ρ1.length=Z.length/\∀i,i∉slots t->ρ1[i]?=Z[i]?:=by
 cases t with
 | one j =>
   have h:some (Z.set j (some d))=some ρ1:=h
   cases h
   exact ⟨by simp,fun i hi=>Mc (fun z=>hi (by rw [z];exact My))⟩
 | tup l =>
   cases d with
   |tup ds=>exact nK h
   |_=>cases h
theorem a7.unbind {t:cD}{d:D}(h:b7 t d Z=some ρ1)(c:Clear (slots t) Z)(r:a7 fa K μ H σ ρ1):a7 fa K μ H σ Z:=by
 obtain ⟨h1,h2⟩:=qh h
 refine r.weak h1 fun i d e=>?_
 by_cases hi:i∈slots t
 ·exact absurd e (c i hi d)
 ·rw [h2 i hi];exact e
theorem RelM.writeP (h:RelM fa K μ H M){ws vs:List V}(e:a∈μ.priv)(hH:H a=some (.lst vs)):RelM fa K μ (upd H a (.lst ws)) M:=by
 have x:ExtW μ H μ (upd H a (.lst ws)):=ExtW.write hH (.inr e)
 refine ⟨fun k ds q=>?_,h.out,h.oout,h.inj,h.oinj,h.sep,fun b hb=>⟨?_,(h.pv b hb).2⟩⟩
 ·rcases h.at' k ds q with ⟨b,us,h1,h2,h3⟩|⟨b,c,C,dx,fs,es,h1,h2,h3,h4,h5,h6,h7⟩
  ·have nb:b≠a:=fun z=>(h.pv a e).2 k (by rw [h1,z])
   exact .inl ⟨b,us,h1,by rw [ax nb];exact h2,h3.extW x⟩
  ·have nb:b≠a:=fun z=>by rw [z,hH] at h4;cases h4
   exact .inr ⟨b,c,C,dx,fs,es,h1,h2,h3,by rw [ax nb];exact h4,h5,h6,h7.extW x⟩
 ·by_cases hb':b=a
  ·subst hb';exact ⟨ws,bw⟩
  ·obtain ⟨us,q⟩:=(h.pv b hb).1
   exact ⟨us,by rw [ax hb'];exact q⟩
theorem eT.writeP {ws vs:List V}(e:a∈μ.priv)(hH:H a=some (.lst vs)):eT a μ H μ (upd H a (.lst ws)):=
 ⟨ExtW.write hH (.inr e),rfl,fun b _ n=>by rw [ax n]⟩
end
noncomputable def WB (fa:Fa)(K:LX)(a:Addr)(μ:Mu)(H:Hp)(Z:Env)(Q:L2.St->Hp->Prop)(acc:List D)(M':Mem):Prop:=
 ∀σ' H' μ' vs',eT a μ H μ' H'->a7 fa K μ' H' σ' Z->RelM fa K μ' H' M'->H' a=some (.lst vs')->aF fa K μ' H' acc vs'->Q σ' H'
theorem WB.ext {fa:Fa}{K:LX}{a:Addr}{μ μ1:Mu}{H H1:Hp}{Z:Env}{Q:L2.St->Hp->Prop}{acc:List D}{M':Mem}(h:WB fa K a μ H Z Q acc M')(x:eT a μ H μ1 H1):WB fa K a μ1 H1 Z Q acc M':=
 fun σ' H' μ' vs' y e m h1 h2=>h σ' H' μ' vs' (x.trans y) e m h1 h2
noncomputable def DB (fa:Fa)(X:Cx)(a:Addr)(W:List Nat)(body:Sem Unit)(g:Env->List D->Mem->Res (List D)):Prop:=
 ∀(pins:List (Addr×Obj)) (s:L4) (σ:L2.St) (H:Hp) (Q:L2.St->Hp->Prop) (μ:Mu) (Z:Env) (M:Mem) (acc:List D) (vs:List V),Inv X pins σ H s->a7 fa X.K μ H σ Z->RelM fa X.K μ H M->Clear W Z->a∈μ.priv->H a=some (.lst vs)->aF fa X.K μ H acc vs->
  ag (g Z acc M) (WB fa X.K a μ H Z Q)->wpAny (model X.prog X.w) X.A body (fun _ s'=>∃σ' H',Inv X pins σ' H' s'/\Q σ' H') X.xe s
noncomputable def bH (ge:Env->Mem->Res D):Env->List D->Mem->Res (List D):=fun Z acc M=>(ge Z M).bind fun x M=>if acc.length<sz then .ok (acc++[x]) M else .bad
noncomputable def Kb (gc:Env->Mem->Res Bool)(g:Env->List D->Mem->Res (List D)):Env->List D->Mem->Res (List D):=fun Z acc M=>(gc Z M).bind fun k M=>if k then g Z acc M else .ok acc M
noncomputable def dn (t:cD)(g:Env->List D->Mem->Res (List D))(Z:Env):List D->D->Mem->Res (List D):=fun acc d M=>(bR M (b7 t d Z)).bind fun ρ1 M=>g ρ1 acc M
noncomputable def sD (t:cD)(gw:Env->Mem->Res Walk)(g:Env->List D->Mem->Res (List D)):Env->List D->Mem->Res (List D):=fun Z acc M=>(gw Z M).bind fun w M=>c6 (dn t g Z) w acc M
section
variable {fa:Fa}{X:Cx}{a:Addr}
theorem sL {elt:Expr}{ge:Env->Mem->Res D}(he:DE fa X elt ge):DB fa X a [] (eval elt X.env >>= fun x=>call (.builtin "list.append") [.ref a,x] >>= fun _=>pure ()) (bH ge):=by
 intro pins s σ H Q μ Z M acc vs I hE hM hc ha hH hr h
 obtain ⟨x,M1,e,q⟩:=aJ h
 split at q
 ·next hz=>
  have q:WB fa X.K a μ H Z Q (acc++[x]) M1:=q
  refine tqa (aP (he pins s σ H (fun v H1=>∃μ1,Ext μ H μ1 H1/\RelM fa X.K μ1 H1 M1/\Rep fa X.K μ1 H1 x v) I ⟨μ,Z,M,hE,hM,?_⟩) fun u s1 ⟨v,H1,I1,rv,μ1,x1,m1,r1⟩=>?_)
  ·rw [e];exact fun v H1 μ1 x1 m1 r1=>⟨μ1,x1,m1,r1⟩
  have hH1:H1 a=some (.lst vs):=by rw [x1.pk a ha];exact hH
  have ha1:a∈μ1.priv:=by rw [x1.pr];exact ha
  have hl:vs.length<sizeLine:=by rw [hr.length,<- cS];exact hz
  refine tqa (aP (pZ pins s1 σ H1 (.ref a) [v] (.ref a) [u] (fun _ H2=>H2=upd H1 a (.lst (vs++[v]))) I1 rfl (.cons rv .nil) ⟨a,vs,v,rfl,rfl,hH1,hl,rfl⟩) fun _ s2 ⟨_,H2,I2,_,e2⟩=>tqb ⟨σ,H2,I2,?_⟩)
  subst e2
  have xd:eT a μ1 H1 μ1 (upd H1 a (.lst (vs++[v]))):=eT.writeP ha1 hH1
  exact q σ _ μ1 (vs++[v]) (x1.toD.trans xd) ((hE.ext x1).extW xd.toExtW) (m1.writeP ha1 hH1) bw (((hr.ext x1).append (.one r1)).extW xd.toExtW)
 ·exact q.elim
theorem Jj {c:Expr}{gc:Env->Mem->Res Bool}{W:List Nat}{body:Sem Unit}{g:Env->List D->Mem->Res (List D)}(hc:DT fa X c gc)(hb:DB fa X a W body g) :
 DB fa X a W (isTrue c X.env (eval c X.env) >>= fun ok=>if ok=true then body else pure ()) (Kb gc g):=by
 intro pins s σ H Q μ Z M acc vs I hE hM hw ha hH hr h
 obtain ⟨k,M1,e,q⟩:=aJ h
 refine tqa (aP (hc pins s σ H (fun b H1=>b=k/\∃μ1,Ext μ H μ1 H1/\RelM fa X.K μ1 H1 M1) I ⟨μ,Z,M,hE,hM,?_⟩) fun b s1 ⟨H1,I1,eb,μ1,x1,m1⟩=>?_)
 ·rw [e];exact fun H1 μ1 x1 m1=>⟨rfl,μ1,x1,m1⟩
 subst eb
 have hH1:H1 a=some (.lst vs):=by rw [x1.pk a ha];exact hH
 have ha1:a∈μ1.priv:=by rw [x1.pr];exact ha
 cases b with
 | true =>
   rw [if_pos rfl]
   exact hb pins s1 σ H1 Q μ1 Z M1 acc vs I1 (hE.ext x1) m1 hw ha1 hH1 (hr.ext x1) (aT q fun _ _ w=>w.ext x1.toD)
 | false =>
   rw [if_neg Mx]
   have q:WB fa X.K a μ H Z Q acc M1:=q
   exact tqb ⟨σ,H1,I1,q σ H1 μ1 vs x1.toD (hE.ext x1) m1 hH1 (hr.ext x1)⟩
theorem uL {elt:Expr}{gens:List NC}{scope:Scope}{pos p:Pos}{k:Nat}{tg:Expr}{body:Sem Unit}{t:cD}{W:List Nat}{g:Env->List D->Mem->Res (List D)}{it:Addr}{fp:List Addr}{tn:Nat->Heap->Prop}{J:It}
 (heq:compTurn (.ListComp elt gens scope pos) k (.ref it) (.ref a) X.env=(standAt p >>= fun _=>pyNext (.ref it) >>= fun r=>match r with
  |none=>pure (.done .next)
  |some v=>letOwnedTupleGo tg (.ref it) v >>= fun _=>assign tg X.env v >>= fun _=>body >>= fun _=>again (.compLoop (.ListComp elt gens scope pos) k (.ref it) (.ref a) X.env)))
 (hx:X.xe=FF) (hcalm:X.calm=true) (T:Turn X.prog X.w X.K tg J fp it tn) (hg:PG X tg (gT fa X.K t)) (hb:DB fa X a W body g) (hW:∀i∈W,i∉slots t)
 {pins:List (Addr×Obj)}{s:L4}{σ:L2.St}{H:Hp}{Q:L2.St->Hp->Prop}{μ:Mu}{Z:Env}{M:Mem}{acc:List D}{vs:List V}{w:Walk} (I:Inv X pins σ H s) (st:tn 0 s.heap) (hf:∀b∈fp,fh X pins H b) (hE:a7 fa X.K μ H σ Z) (hM:RelM fa X.K μ H M)
 (hcl:Clear (slots t++W) Z) (ha:a∈μ.priv) (hH:H a=some (.lst vs)) (hr:aF fa X.K μ H acc vs) (wk:cY fa X.K μ H w J) (q:ag (c6 (dn t g Z) w acc M) (WB fa X.K a μ H Z Q)) :
 codeAny (model X.prog X.w) X.A (.compLoop (.ListComp elt gens scope pos) k (.ref it) (.ref a) X.env) (fun r s'=>r=.ok .next/\∃σ' H',Inv X pins σ' H' s'/\Q σ' H') s:=by
 have stat:∀{H':Hp},(∀b∈fp,H' b=none)->∀b∈fp,fh X pins H' b:=fun hn b hb=>⟨hn b hb,(hf b hb).2⟩
 have clt:Clear (slots t) Z:=fun i hi=>hcl i (NY _ hi)
 have clW:∀d ρ1,b7 t d Z=some ρ1->Clear W ρ1:=fun d ρ1 e i hi d' z=>by
  rw [(qh e).2 i (hW i hi)] at z
  exact hcl i (MW _ hi) d' z
 let P:Nat->Nat->L4->Prop:=fun m i s'=>∃σ' H' μ' M' acc' vs',Inv X pins σ' H' s'/\tn i s'.heap/\(∀b∈fp,H' b=none)/\eT a μ H μ' H'/\a7 fa X.K μ' H' σ' Z/\RelM fa X.K μ' H' M'/\H' a=some (.lst vs')/\aF fa X.K μ' H' acc' vs'/\
  ag (dX (dn t g Z) w m i acc' M') (WB fa X.K a μ H Z Q)
 have P0:∃m,P m 0 s:=⟨_,σ,H,μ,M,acc,vs,I,st,fun b hb=>(hf b hb).1,.refl,hE,hM,hH,hr,q⟩
 obtain ⟨m0,P0⟩:=P0
 have hturn:∀(n:Nat) (i:Nat) (s3:L4),P n i s3->wpAny (model X.prog X.w) X.A (pyNext (.ref it)) (fun r s₁=>match r with
  |none=>(∃σ' H',Inv X pins σ' H' s₁/\Q σ' H')
  |some v=>wpAny (model X.prog X.w) X.A (letOwnedTupleGo tg (.ref it) v) (fun _ s₂=>wpAny (model X.prog X.w) X.A (assign tg X.env v) (fun _ s₃=>wpAny (model X.prog X.w) X.A body (fun _ s₄=>∃m,m<n/\P m (i+1) s₄) FF s₃) FF s₂) FF s₁) FF s3:=by
  rintro n i s3 ⟨σ3,H3,μ3,M3,acc3,vs3,I3,st3,fr3,x3,hE3,hM3,hH3,hr3,q3⟩
  have ha3:a∈μ3.priv:=by rw [x3.pr];exact ha
  have one:∀(d:D) (rest:List D->Mem->Res (List D)) (next:List D->Mem->Prop),J.go i H3->(∀x H',J.yld i H3 x H'->Ext μ3 H3 μ3 H'/\RelM fa X.K μ3 H' M3/\Rep fa X.K μ3 H' d x)->ag ((dn t g Z acc3 d M3).bind rest) (WB fa X.K a μ H Z Q)->
   (∀σ' H' μ' M' acc' vs' s',Inv X pins σ' H' s'->tn (i+1) s'.heap->(∀b∈fp,H' b=none)->eT a μ H μ' H'->a7 fa X.K μ' H' σ' Z->RelM fa X.K μ' H' M'->H' a=some (.lst vs')->aF fa X.K μ' H' acc' vs'->ag (rest acc' M') (WB fa X.K a μ H Z Q)->∃m,m<n/\P m (i+1) s')->
   wpAny (model X.prog X.w) X.A (pyNext (.ref it)) (fun r s₁=>match r with
    |none=>(∃σ' H',Inv X pins σ' H' s₁/\Q σ' H')
    |some v=>wpAny (model X.prog X.w) X.A (letOwnedTupleGo tg (.ref it) v) (fun _ s₂=>wpAny (model X.prog X.w) X.A (assign tg X.env v) (fun _ s₃=>wpAny (model X.prog X.w) X.A body (fun _ s₄=>∃m,m<n/\P m (i+1) s₄) FF s₃) FF s₂) FF s₁) FF s3:=by
   intro d rest next go yl qd fin
   refine aP (T.item X rfl rfl rfl hcalm i pins s3 σ3 H3 FF I3 (stat fr3) st3 go) fun r s4 ⟨u,hr4,h4⟩=>?_
   subst hr4
   refine aP h4 fun _ s5 ⟨x,H5,I5,r5,y5,st5,fr5⟩=>?_
   obtain ⟨x5,hM5,rd⟩:=yl x H5 y5
   have I5':=I5.pinned (stat fr5) (T.obj _ _ st5)
   obtain ⟨acc6,M6,e6,q6⟩:=aJ qd
   obtain ⟨ρ1,M7,e7,e8⟩:=d3 e6
   cases eb:b7 t d Z with
   |none=>rw [eb] at e7;cases e7
   | some ρ2 =>
     rw [eb] at e7
     cases e7
     have hg':=hg _ s5 σ3 H5 x u (fun σ' H'=>H'=H5/\a7 fa X.K μ3 H5 σ' ρ1) I5' r5 ⟨μ3,Z,_,d,ρ1,hE3.ext x5,hM5,rd,eb,fun σ1 h1=>⟨rfl,h1⟩⟩
     rw [hx] at hg'
     refine aP hg' fun _ s6 ⟨σ6,H6,I6,eH,hE6⟩=>?_
     subst eH
     have hH6:H6 a=some (.lst vs3):=by rw [x5.pk a ha3];exact hH3
     have hb':=hb _ s6 σ6 H6 (fun σ' H'=>∃μ' vs',eT a μ3 H6 μ' H'/\a7 fa X.K μ' H' σ' ρ1/\RelM fa X.K μ' H' M6/\H' a=some (.lst vs')/\aF fa X.K μ' H' acc6 vs') μ3 ρ1 _ acc3 vs3 I6 hE6 hM5 (clW d ρ1 eb) ha3 hH6 (hr3.ext x5) (by
      rw [e8];exact fun σ' H' μ' vs' z1 z2 z3 z4 z5=>⟨μ',vs',z1,z2,z3,z4,z5⟩)
     rw [hx] at hb'
     refine aP hb' fun _ s7 ⟨σ7,H7,I7,μ7,vs7,x7,hE7,hM7,hH7,hr7⟩=>?_
     refine fin σ7 H7 μ7 M6 acc6 vs7 s7 I7.unpinned (T.keep _ _ _ st5 fun b hb o e=>(I7.pin (b,o) (MW _ (MW _ (iD hb e)))).1) (fun b hb=>?_) ((x3.trans x5.toD).trans x7) (hE7.unbind eb clt) hM7 hH7 hr7 q6
     obtain ⟨o,e,dd⟩:=T.obj _ _ st5 b hb
     exact (I7.pin (b,o) (MW _ (MW _ (iD hb e)))).2.1
  have stop:J.stop i H3->ag (.ok acc3 M3) (WB fa X.K a μ H Z Q)->wpAny (model X.prog X.w) X.A (pyNext (.ref it)) (fun r s₁=>match r with
   |none=>(∃σ' H',Inv X pins σ' H' s₁/\Q σ' H')
   |some v=>wpAny (model X.prog X.w) X.A (letOwnedTupleGo tg (.ref it) v) (fun _ s₂=>wpAny (model X.prog X.w) X.A (assign tg X.env v) (fun _ s₃=>wpAny (model X.prog X.w) X.A body (fun _ s₄=>∃m,m<n/\P m (i+1) s₄) FF s₃) FF s₂) FF s₁) FF s3:=fun hs q=>by
   refine aP (T.done X rfl rfl rfl hcalm i pins s3 σ3 H3 FF I3 (stat fr3) st3 hs) fun r s4 ⟨hr4,I4⟩=>?_
   subst hr4
   have q:WB fa X.K a μ H Z Q acc3 M3:=q
   exact ⟨σ3,H3,I4,q σ3 H3 μ3 vs3 x3 hE3 hM3 hH3 hr3⟩
  cases n with
  |zero=>exact q3.elim
  | succ n =>
    unfold dX at q3
    cases e2:w M3 with
    |none=>rw [e2] at q3;exact q3.elim
    | some ds =>
      rw [e2] at q3
      dsimp only at q3
      obtain ⟨go,stp⟩:=wk μ3 H3 M3 ds x3.toExtW hM3 e2
      cases ed:ds[i]? with
      | none =>
        rw [ed] at q3
        exact stop (stp i (List.getElem?_eq_none_iff.mp ed)) q3
      | some d =>
        rw [ed] at q3
        obtain ⟨g1,g2⟩:=go i d ed
        refine one d (dX (dn t g Z) w n (i+1)) (fun _ _=>True) g1 g2 q3 ?_
        intro σ' H' μ' M' acc' vs' s' z1 z2 z3 z4 z5 z6 z7 z8 z9
        exact ⟨n,by omega,σ',H',μ',M',acc',vs',z1,z2,z3,z4,z5,z6,z7,z8,z9⟩
 refine yF heq (fun n s'=>∃i,P n i s') (fun n s3 ⟨i,h3⟩=>?_) m0 ⟨0,P0⟩
 refine aP (hturn n i s3 h3) fun r s1 h=>?_
 cases r with
 |none=>exact ⟨rfl,h⟩
 |some v=>exact aP h fun _ s2 h=>aP h fun _ s3 h=>aP h fun _ s4 ⟨m,hm,h⟩=>⟨m,hm,i+1,h⟩
end
end LD
namespace LD
open PySem PySem.Spec PyProof.Rows L2
section
variable {prog:Ms}{w:Mv}{A:MZ}{s:L4}{R:Result->L4->Prop}
theorem qy {elt t1 i1 t2 i2:Expr}{f1 f2:List Expr}{scope:Scope}{pos:Pos}{it acc:LY}{env:MN}
 (h0:codeAny (model prog w) A (.compLoop (.ListComp elt [⟨t1,i1,f1,0⟩,⟨t2,i2,f2,0⟩] scope pos) 1 it acc env) R s)
 (h:wpAny (model prog w) A (pyIter it) (fun it' s'=>codeAny (model prog w) A (.compLoop (.ListComp elt [⟨t1,i1,f1,0⟩,⟨t2,i2,f2,0⟩] scope pos) 1 it' acc env) R s')
  (notedBy (model prog w) A env fun x s'=>R (.error x) s') s) :
 codeAny (model prog w) A (.compStart (.ListComp elt [⟨t1,i1,f1,0⟩,⟨t2,i2,f2,0⟩] scope pos) 1 it acc env) R s:=by
 refine codeAny_of_tree ?_
 show wpAny _ _ ((compStart (.ListComp elt [⟨t1,i1,f1,0⟩,⟨t2,i2,f2,0⟩] scope pos) 1 it acc env).onRaise (fun x=>do noteFrame x env;standAt theWindowsPlace)) _ _ s
 refine wpAny_notedAt ?_
 unfold compStart
 show wpAny _ _ (ask >>= _) _ _ s
 refine tqa (wpAny_askSetting (wpAny_ite ?_))
 split
 ·first
   |exact tqa (tqb (tqb (And.intro rfl h0)))
   |exact tqb (And.intro rfl h0)
 ·first
   |exact tqa (wpAny_rule (tqa (wpAny_standAt (tqa (wpAny_mono h (fun it' s' h'=>tqb (And.intro rfl h')) fun _ _ x=>x)))))
   |(refine tqa (wpAny_rule ?_);show wpAny _ _ (standAt i2.pos >>= _) _ _ s;exact tqa (wpAny_standAt (tqa (wpAny_mono h (fun it' s' h'=>tqb (And.intro rfl h')) fun _ _ x=>x))))
end
section
variable {fa:Fa}{X:Cx}{a:Addr}
theorem Hy {elt t1 i1 t2 i2:Expr}{scope:Scope}{pos:Pos}{t:cD}{gw:Env->Mem->Res Walk}{ge:Env->Mem->Res D}(hx:X.xe=FF)(hcalm:X.calm=true)(hi:DI fa X t2 i2 gw)(hg:PG X t2 (gT fa X.K t))(he:DE fa X elt ge)
 (hs:∀x,foldedSetIterable i2 X.env x=pure x) :
 DB fa X a (slots t) (eval i2 X.env >>= fun x=>standAt i2.pos >>= fun _=>foldedSetIterable i2 X.env x >>= fun x=>holding [x] (pyIter x) >>= fun j=>runOwn (.compStart (.ListComp elt [⟨t1,i1,[],0⟩,⟨t2,i2,[],0⟩] scope pos) 1 j (.ref a) X.env) X.env >>= fun _=>pure ()) (sD t gw (bH ge)):=by
 intro pins s σ H Q μ Z M acc vs I hE hM hc ha hH hr h
 obtain ⟨w,M1,e,q⟩:=aJ h
 refine tqa (aP (hi pins s σ H (fun J H1=>∃μ1,Ext μ H μ1 H1/\RelM fa X.K μ1 H1 M1/\cY fa X.K μ1 H1 w J) I ⟨μ,Z,M,hE,hM,?_⟩) fun v s1 h1=>?_)
 ·rw [e];exact fun J H1 μ1 x1 m1 wk=>⟨μ1,x1,m1,wk⟩
 refine tqa (wpAny_standAt (tqa (wpAny_of_eq (hs v) (tqa (tqo (aP h1 fun itv s2 h2=>?_))))))
 obtain ⟨it,fp,tn,J,H2,ei,I2,T,st2,f2,μ2,x2,m2,wk⟩:=h2
 subst ei
 have hH2:H2 a=some (.lst vs):=by rw [x2.pk a ha];exact hH
 have ha2:a∈μ2.priv:=by rw [x2.pr];exact ha
 have go:=uL (elt:=elt) (gens:=[⟨t1,i1,[],0⟩,⟨t2,i2,[],0⟩]) (scope:=scope) (pos:=pos) (W:=[]) (Q:=Q) (zp elt t1 i1 t2 i2 scope pos (.ref it) (.ref a) X.env) hx hcalm T hg (sL he) (fun i hi=>nomatch hi) I2 st2 f2 (hE.ext x2) m2 (by simpa using hc) ha2 hH2 (hr.ext x2) wk (aT q fun _ _ z=>z.ext x2.toD)
 refine tqa (wpAny_runOwn (h:=none) ?_)
 have go':codeAny (model X.prog X.w) (X.A.mark none) (.compLoop (.ListComp elt [⟨t1,i1,[],0⟩,⟨t2,i2,[],0⟩] scope pos) 1 (.ref it) (.ref a) X.env) (fun r s'=>match r with|.ok f=>wpAny (model X.prog X.w) X.A (pure ():Sem Unit) (fun _ s'=>∃σ' H',Inv X pins σ' H' s'/\Q σ' H') X.xe s'|.error e=>cameBackBy (model X.prog X.w) X.A X.env X.xe e s') s2:=
  codeAny_mono go fun r s' ⟨er,z⟩=>by subst er;exact tqb z
 exact qy go' (T.self _ 0 _ _ _ st2 go')
end
end LD
namespace LD
open PySem PySem.Spec PyProof.Rows L2
section
variable {fa:Fa}{K:LX}{μ1 μ':Mu}{H1 H':Hp}{M1 M':Mem}{a:Addr}
noncomputable def GJ (μ:Mu)(a:Addr):Mu:=⟨μ.pub,a::μ.priv,μ.ob⟩
theorem lh (h:RelM fa K μ1 H1 M1)(ha:H1 a=none)(o:HO):ExtW μ1 H1 (GJ μ1 a) (upd H1 a o):=by
 have x:ExtW μ1 H1 μ1 (upd H1 a o):=(Ext.alloc h ha).toExtW
 refine ⟨x.mu,x.tups,fun b vs e n=>⟨(x.lsts b vs e n).1,fun z=>?_⟩,x.frzs,x.exts,x.obs⟩
 rcases z with z|z
 ·exact n (.inl z)
 ·rcases MJ.mp z with z|z
  ·subst z;rw [ha] at e;cases e
  ·exact n (.inr z)
theorem xq (h:RelM fa K μ1 H1 M1)(ha:H1 a=none)(vs:List V):RelM fa K (GJ μ1 a) (upd H1 a (.lst vs)) M1:=by
 have x:=lh h ha (.lst vs)
 refine ⟨fun k ds e=>(h.at' k ds e).imp (fun ⟨b,ws,h1,h2,h3⟩=>⟨b,ws,h1,by rw [ax (aO h2 ha)];exact h2,h3.extW x⟩) fun ⟨b,c,C,dx,fs,es,h1,h2,h3,h4,h5,h6,h7⟩=>⟨b,c,C,dx,fs,es,h1,h2,h3,by rw [ax (aO h4 ha)];exact h4,h5,h6,h7.extW x⟩,h.out,h.oout,h.inj,h.oinj,h.sep,fun b hb=>?_⟩
 ·rcases MJ.mp hb with z|z
  ·subst z
   exact ⟨⟨vs,bw⟩,fun k e=>by
    obtain ⟨_,_,_,q,_⟩:=h.mu_lt e
    rw [ha] at q;cases q⟩
  ·obtain ⟨⟨ws,q⟩,n⟩:=h.pv b z
   exact ⟨⟨ws,by rw [ax (aO q ha)];exact q⟩,n⟩
theorem DF {m:Bool}{acc:List D}{vs:List V}{Q:VK}(h:RelM fa K μ1 H1 M1)(ha:H1 a=none)(x:eT a (GJ μ1 a) (upd H1 a (.lst [])) μ' H')(hM:RelM fa K μ' H' M')(hH:H' a=some (.lst vs))(hr:aF fa K μ' H' acc vs)
 (q:ag (a9 m acc M') (aZ fa K μ1 H1 Q)):Q (.ref a) H':=by
 have na:a∉μ1.priv:=fun z=>h.pne ha z rfl
 have hp:μ'.priv=a::μ1.priv:=x.pr
 have nk:∀k,μ'.pub k≠some a:=(hM.pv a (by rw [hp];exact My)).2
 have x0:=lh h ha (.lst [])
 have xe:Ext μ1 H1 ⟨μ'.pub,μ1.priv,μ'.ob⟩ H':=by
  refine ⟨⟨fun k b e=>x.mu k b e,fun b ws e=>x.tups b ws (x0.tups b ws e),fun b ws e n=>?_,fun b ob u e=>x.frzs b ob u (x0.frzs b ob u e),fun b o i e=>x.exts b o i (x0.exts b o i e),fun k b e=>x.obs k b (x0.obs k b e)⟩,rfl,fun b hb=>?_⟩
  ·obtain ⟨z1,z2⟩:=x0.lsts b ws e n
   obtain ⟨z3,z4⟩:=x.lsts b ws z1 z2
   refine ⟨z3,fun z=>z4 ?_⟩
   rcases z with z|z
   ·exact .inl z
   ·exact .inr (by rw [hp];exact Mh _ z)
  ·have nb:b≠a:=fun e=>na (by rw [<- e];exact hb)
   rw [x.pk b (Mh _ hb) nb,ax nb]
 have xw:ExtW μ' H' ⟨μ'.pub,μ1.priv,μ'.ob⟩ H':=⟨fun _ _ e=>e,fun _ _ e=>e,fun b ws e n=>⟨e,fun z=>n (z.elim .inl fun z=>.inr (by rw [hp];exact Mh _ z))⟩,fun _ _ _ e=>e,fun _ _ _ e=>e,fun _ _ e=>e⟩
 have me:RelM fa K ⟨μ'.pub,μ1.priv,μ'.ob⟩ H' M':=⟨fun k ds e=>(hM.at' k ds e).imp (fun ⟨b,ws,h1,h2,h3⟩=>⟨b,ws,h1,h2,h3.extW xw⟩) fun ⟨b,c,C,dx,fs,es,h1,h2,h3,h4,h5,h6,h7⟩=>⟨b,c,C,dx,fs,es,h1,h2,h3,h4,h5,h6,h7.extW xw⟩,hM.out,hM.oout,hM.inj,hM.oinj,hM.sep,fun b hb=>hM.pv b (by rw [hp];exact Mh _ hb)⟩
 have re:aF fa K ⟨μ'.pub,μ1.priv,μ'.ob⟩ H' acc vs:=hr.extW xw
 have nMt:¬ (⟨μ'.pub,μ1.priv,μ'.ob⟩:Mu).Mt a:=fun z=>z.elim (fun ⟨k,e⟩=>nk k e) na
 unfold a9 at q
 split at q
 ·cases m with
  | false =>
    have q:aZ fa K μ1 H1 Q (.lst acc) M':=q
    exact q (.ref a) H' _ xe me ⟨a,vs,rfl,⟨hH,nMt⟩,re⟩
  | true =>
    have q:aZ fa K μ1 H1 Q (.cell M'.length) (M'++[acc]):=q
    have pc:∀k b,(eY ⟨μ'.pub,μ1.priv,μ'.ob⟩ M'.length a).pub k=some b->(k=M'.length/\b=a)\/(k≠M'.length/\μ'.pub k=some b):=fun k b e=>by
     have e:(if k=M'.length then some a else μ'.pub k)=some b:=e
     split at e
     ·next z=>cases e;exact .inl ⟨z,rfl⟩
     ·next z=>exact .inr ⟨z,e⟩
    have mc:∀k b,μ'.pub k=some b->(eY ⟨μ'.pub,μ1.priv,μ'.ob⟩ M'.length a).pub k=some b:=fun k b e=>by
     show (if k=M'.length then some a else μ'.pub k)=some b
     split
     ·next z=>rw [z,hM.out _ (L7 _)] at e;cases e
     ·exact e
    have ac:(eY ⟨μ'.pub,μ1.priv,μ'.ob⟩ M'.length a).pub M'.length=some a:=by
     show (if M'.length=M'.length then some a else _)=some a
     rw [if_pos rfl]
    have nc:∀b,¬ μ'.Mt b->¬ (eY ⟨μ'.pub,μ1.priv,μ'.ob⟩ M'.length a).Mt b:=fun b n z=>by
     rcases z with ⟨k,z⟩|z
     ·rcases pc k b z with ⟨_,e⟩|⟨_,e⟩
      ·exact n (.inr (by rw [hp,e];exact My))
      ·exact n (.inl ⟨k,e⟩)
     ·exact n (.inr (by rw [hp];exact Mh _ z))
    have xc:ExtW μ' H' (eY ⟨μ'.pub,μ1.priv,μ'.ob⟩ M'.length a) H':=⟨mc,fun _ _ e=>e,fun b ws e n=>⟨e,nc b n⟩,fun _ _ _ e=>e,fun _ _ _ e=>e,fun _ _ e=>e⟩
    have xe2:Ext μ1 H1 (eY ⟨μ'.pub,μ1.priv,μ'.ob⟩ M'.length a) H':=by
     refine ⟨⟨fun k b e=>mc k b (x.mu k b e),xe.tups,fun b ws e n=>?_,xe.frzs,xe.exts,xe.obs⟩,rfl,xe.pk⟩
     obtain ⟨z1,z2⟩:=x0.lsts b ws e n
     obtain ⟨z3,z4⟩:=x.lsts b ws z1 z2
     exact ⟨z3,nc b z4⟩
    have mce:RelM fa K (eY ⟨μ'.pub,μ1.priv,μ'.ob⟩ M'.length a) H' (M'++[acc]):=by
     refine ⟨fun k ds e=>?_,fun k hk=>?_,fun k hk=>hM.oout k (by simp at hk;omega),fun j k b e1 e2=>?_,hM.oinj,fun k b z=>?_,fun b hb=>?_⟩
     ·by_cases hk:k<M'.length
      ·rw [Mw hk] at e
       rcases hM.at' k ds e with ⟨b,ws,h1,h2,h3⟩|⟨b,c,C,dx,fs,es,h1,h2,h3,h4,h5,h6,h7⟩
       ·exact .inl ⟨b,ws,mc k b h1,h2,h3.extW xc⟩
       ·exact .inr ⟨b,c,C,dx,fs,es,h1,by show (if k=M'.length then some a else μ'.pub k)=none;rw [if_neg (MO hk)];exact h2,h3,h4,h5,h6,h7.extW xc⟩
      ·have hk':k=M'.length:=by
        have:=(LZ.mp e).1
        simp at this;omega
       subst hk'
       rw [ME (L7 _)] at e
       simp at e
       subst e
       exact .inl ⟨a,vs,ac,hH,hr.extW xc⟩
     ·simp at hk
      show (if k=M'.length then some a else μ'.pub k)=none
      rw [if_neg (by omega)]
      exact hM.out k (by omega)
     ·rcases pc j b e1 with ⟨j1,j2⟩|⟨j1,j2⟩<;>rcases pc k b e2 with ⟨k1,k2⟩|⟨k1,k2⟩
      ·omega
      ·exact absurd (j2 ▸ k2) (nk k)
      ·exact absurd (k2 ▸ j2) (nk j)
      ·exact hM.inj j k b j2 k2
     ·show μ'.ob (aQ k)=none
      rcases pc k b z with ⟨e,_⟩|⟨_,e⟩
      ·rw [e];exact hM.oout _ (L7 _)
      ·exact hM.sep k b e
     ·have hb:b∈μ1.priv:=hb
      obtain ⟨z1,z2⟩:=hM.pv b (by rw [hp];exact Mh _ hb)
      refine ⟨z1,fun k e=>?_⟩
      rcases pc k b e with ⟨_,e⟩|⟨_,e⟩
      ·exact na (e ▸ hb)
      ·exact z2 k e
    exact q (.ref a) H' _ xe2 mce ⟨a,rfl,ac⟩
 ·exact q.elim
end
section
variable {fa:Fa}{X:Cx}
noncomputable def bI (m:Bool)(n:Nat)(t:cD)(gw:Env->Mem->Res Walk)(g:Env->List D->Mem->Res (List D)):Env->Mem->Res D:=fun Z M=>
 (gw Z M).bind fun w M=>(c6 (dn t g (List.replicate n none++Z)) w [] M).bind (a9 m)
noncomputable def oA (X:Cx)(elt tg iter:Expr)(ifs:List Expr)(rest:List NC)(scope:Scope)(pos:Pos)(body:Addr->MN->Sem Unit):Prop:=
 ∀(it a:Addr) (env:MN),compTurn (.ListComp elt (⟨tg,iter,ifs,0⟩::rest) scope pos) 0 (.ref it) (.ref a) env=(standAt iter.pos >>= fun _=>pyNext (.ref it) >>= fun r=>match r with
  |none=>pure (.done .next)
  |some v=>letOwnedTupleGo tg (.ref it) v >>= fun _=>assign tg env v >>= fun _=>body a env >>= fun _=>again (.compLoop (.ListComp elt (⟨tg,iter,ifs,0⟩::rest) scope pos) 0 (.ref it) (.ref a) env))
structure Block (fa:Fa) (X:Cx) (own bn:List Str) (scope:Scope) (tg:Expr) (t:cD) (W:List Nat) (body:Addr->MN->Sem Unit) (g:Env->List D->Mem->Res (List D)):Prop where
 pg:∀cl C fp s H,PG (gx X own bn scope cl C fp s H) tg (gT fa X.K t)
 db:∀cl C fp s H a,DB fa (gx X own bn scope cl C fp s H) a W (body a (compEnvC scope cl C X.env)) g
theorem yJ {n:Nat}{W:List Nat}{Z:Env}(h:∀i∈W,i<n):Clear W (List.replicate n none++Z):=fun i hi d e=>by
 rw [Mw (by simpa using h i hi),NP] at e
 simp [h i hi] at e
theorem zX {K:LX}{μ:Mu}{H:Hp}{σ:L2.St}{Z:Env}(n:Nat)(h:a7 fa K μ H σ Z):a7 fa K μ H (List.replicate n none++σ) (List.replicate n none++Z):=by
 refine ⟨by simp [h.len],fun i d e=>?_⟩
 by_cases hi:i<n
 ·rw [Mw (by simpa using hi),NP] at e
  simp [hi] at e
 ·rw [ME (by simp;omega)] at e ⊢
  simp only [List.length_replicate] at e ⊢
  exact h.at' _ d e
theorem ot {elt tg iter:Expr}{ifs:List Expr}{rest:List NC}{scope:Scope}{pos p0:Pos}{own bn:List Str}{t:cD}{W:List Nat}{body:Addr->MN->Sem Unit}{gw:Env->Mem->Res Walk}{g:Env->List D->Mem->Res (List D)}{m:Bool}
 (S:ie X own bn scope) (hcalm:X.calm=true) (hi:DI fa X tg iter gw) (B:Block fa X own bn scope tg t W body g) (hT:oA X elt tg iter ifs rest scope pos body) (hW:∀i∈W,i∉slots t) (hn:∀i∈slots t++W,i<own.length)
 (hs:∀x,foldedSetIterable iter X.env x=pure x) {use:Option (LY->Sem Unit)}{QQ:LY->L4->Prop}
 {pins:List (Addr×Obj)}{s:L4}{σ:L2.St}{H:Hp}{Q:VK}{μ:Mu}{Z:Env}{M:Mem} (I:Inv X pins σ H s) (hE:a7 fa X.K μ H σ Z) (hM:RelM fa X.K μ H M) (h:ag (bI m own.length t gw g Z M) (aZ fa X.K μ H Q))
 (post:∀(a C:Addr) (s':L4) (H':Hp),Inv X pins σ H' s'->Q (.ref a) H'->(∃m,s'.heap.Ns C m)->(∀σ2 H2 s2,Inv X pins σ2 H2 s2->(H' C=none->H2 C=none)->H2 C=none/\∀h'',Heap.SameBut C s2.heap h''->Inv X pins σ2 H2 {s2 with heap:=h''})->H' C=none->(C≠X.env.locals/\∀x c,X.env.cells.lookup x=some c->c≠C)->compPost (model X.prog X.w) X.A X.xe use QQ (.ref a) C (.ok .next) s') :
 wpAny (model X.prog X.w) X.A (comprehension (.ListComp elt (⟨tg,iter,ifs,0⟩::rest) scope pos) scope X.env p0 (newList []) false (eval iter X.env) use) QQ X.xe s:=by
 obtain ⟨w,M1,ew,q⟩:=aJ h
 obtain ⟨acc,M2,ea,q2⟩:=aJ q
 obtain ⟨cl,hcl,hsub,hhas⟩:=vW (scope:=scope) (env:=X.env) fun y hy hf=>I.ok.has y.1 (S.free y hy hf)
 have CL:Cl X scope cl:=⟨hsub,hhas⟩
 refine wpAny_comprehension_free (use:=use) rfl hs hcl S.kind S.loc ?_
 refine aP (hi pins s σ H (fun J H1=>∃μ1,Ext μ H μ1 H1/\RelM fa X.K μ1 H1 M1/\cY fa X.K μ1 H1 w J) I ⟨μ,Z,M,hE,hM,?_⟩) fun v s1 h1=>aP h1 fun itv s2 h2=>?_
 ·rw [ew];exact fun J H1 μ1 x1 m1 wk=>⟨μ1,x1,m1,wk⟩
 obtain ⟨it,fp,tn,J,H2,ei,I2,T,st2,f2,μ2,x2,m2,wk⟩:=h2
 subst ei
 refine wpAny_newObj_type ?_
 have ha:H2 s2.heap.objs.size=none:=I2.hok.fresh (L7 _)
 have I3:Inv X pins σ (upd H2 s2.heap.objs.size (.lst [])) {s2 with heap:=s2.heap.push {cls:=.type "list",dict:=none,data:=.seq ([]:List LY).toArray}}:=
  I2.laid (t':=s2.toks) (fun b o e=>L3 _ e) (L7 _) ⟨NJ _,[],_,.nil,Mo _ rfl⟩
 generalize hs3:({s2 with heap:=s2.heap.push {cls:=.type "list",dict:=none,data:=.seq ([]:List LY).toArray}}:L4)=s3 at I3 ⊢
 have k3:∀b o,s2.heap.get? b=some o->s3.heap.get? b=some o:=fun b o e=>by rw [<- hs3];exact L3 _ e
 have fo2:=T.obj _ _ st2
 have f3:∀b∈fp,fh X pins (upd H2 s2.heap.objs.size (.lst [])) b:=fun b hb=>by
  obtain ⟨o,e,_⟩:=fo2 b hb
  exact ⟨by rw [ax (MO (Mi e))];exact (f2 b hb).1,(f2 b hb).2⟩
 have fo3:∀b∈fp,∃o,s3.heap.get? b=some o:=fun b hb=>let ⟨o,e,_⟩:=fo2 b hb;⟨o,k3 b o e⟩
 refine wpAny_newFunctionEnv S.nocell (by intro y hy;simp at hy) (fun h₁ hns₁ hsb₁=>?_) S.kind
 have k4:∀b o,s3.heap.get? b=some o->h₁.get? b=some o:=fun b o e=>hsb₁.extBut b o (MO (Mi e)) (L3 _ e)
 have I4:=A4 (own:=own) (bn:=bn) (t':=s3.toks+([]:List (Str×LY)).length) I3 S CL f3 fo3 hns₁ k4
 have ok4:=I4.ok
 have f4:∀b∈fp,fh (gx X own bn scope cl s3.heap.objs.size fp s3 (upd H2 s2.heap.objs.size (.lst []))) [] (upd H2 s2.heap.objs.size (.lst [])) b:=fun b hb=>
  ⟨(f3 b hb).1,(ok4.exf b hb).1,ok4.exfs b hb,.inl hb,(ok4.exf b hb).2,fun p hp=>nomatch hp⟩
 have st4:tn 0 h₁:=T.keep _ _ _ st2 fun b hb o e=>k4 b o (k3 b o e)
 have x3:=lh m2 ha (.lst [])
 have go:=uL (X:=gx X own bn scope cl s3.heap.objs.size fp s3 (upd H2 s2.heap.objs.size (.lst []))) (fa:=fa) (a:=s2.heap.objs.size) (W:=W) (t:=t) (g:=g) (acc:=[]) (vs:=[]) (Q:=fun _ H'=>Q (.ref s2.heap.objs.size) H') (hT it s2.heap.objs.size _) rfl hcalm T (B.pg _ _ _ _ _) (B.db _ _ _ _ _ _) hW I4 st4 f4
  (zX own.length ((hE.ext x2).extW x3)) (xq m2 ha []) (yJ hn) My bw rfl (wo wk x3) (by
   rw [ea]
   intro σ' H' μ' vs' z1 z2 z3 z4 z5
   exact DF (m:=m) m2 ha z1 z3 z4 z5 (jn q2 x2))
 have go':codeAny (model X.prog X.w) X.A (.compLoop (.ListComp elt (⟨tg,iter,ifs,0⟩::rest) scope pos) 0 (.ref it) (.ref s2.heap.objs.size) (compEnvC scope cl s3.heap.objs.size X.env)) (compPost (model X.prog X.w) X.A X.xe use QQ (.ref s2.heap.objs.size) s3.heap.objs.size) {s3 with heap:=h₁,toks:=s3.toks+([]:List (Str×LY)).length}:=
  codeAny_mono go fun r s' ⟨er,σ',H',I',z⟩=>by
   subst er
   refine post _ _ s' H' (comp_back I3 f3 I') z (let ⟨m,hn,_⟩:=I'.loc;⟨m,hn⟩) (fun σ2 H2 s2' I2' hf=>⟨hf I'.free,fun h'' hs''=>yG I3 (hf I'.free) I2' hs''⟩) I'.free ⟨Nc I3.lt,fun x c e z=>by
    obtain ⟨v,q⟩:=I3.cell x c e
    exact absurd q.lt (by rw [z];exact Nk _)⟩
 exact codeAny_compStart_list go' (T.self _ 0 _ _ _ st4 go')
theorem HF (m:Bool){elt tg iter:Expr}{ifs:List Expr}{rest:List NC}{scope:Scope}{pos:Pos}{own bn:List Str}{t:cD}{W:List Nat}{body:Addr->MN->Sem Unit}{gw:Env->Mem->Res Walk}{g:Env->List D->Mem->Res (List D)}
 (S:ie X own bn scope) (hcalm:X.calm=true) (hi:DI fa X tg iter gw) (B:Block fa X own bn scope tg t W body g) (hT:oA X elt tg iter ifs rest scope pos body) (hW:∀i∈W,i∉slots t) (hn:∀i∈slots t++W,i<own.length)
 (hs:∀x,foldedSetIterable iter X.env x=pure x):DE fa X (.ListComp elt (⟨tg,iter,ifs,0⟩::rest) scope pos) (bI m own.length t gw g):=by
 intro pins s σ H Q I ⟨μ,Z,M,hE,hM,h⟩
 rw [eval_ListComp]
 refine ot (use:=none) S hcalm hi B hT hW hn hs I hE hM h ?_
 intro a C s' H' I' q ⟨m,hn⟩ gone hf _
 exact ⟨m,hn,fun h' hs'=>⟨.ref a,H',(gone σ H' s' I' id).2 h' hs',rfl,q⟩⟩
theorem vP (m:Bool){i:Nat}{y:Str}{py spos:Pos}{elt tg iter:Expr}{ifs:List Expr}{rest:List NC}{scope:Scope}{pos:Pos}{own bn:List Str}{t:cD}{W:List Nat}{body:Addr->MN->Sem Unit}{gw:Env->Mem->Res Walk}{g:Env->List D->Mem->Res (List D)}
 (S:ie X own bn scope) (hcalm:X.calm=true) (hi:DI fa X tg iter gw) (B:Block fa X own bn scope tg t W body g) (hT:oA X elt tg iter ifs rest scope pos body) (hW:∀i∈W,i∉slots t) (hn:∀i∈slots t++W,i<own.length)
 (hs:∀x,foldedSetIterable iter X.env x=pure x) (hN:X.N.Nodup) (hy:X.N[i]?=some y) (hl:X.env.scope.names.lookup y=some .local)
 (hsw:swapsWith (.ListComp elt (⟨tg,iter,ifs,0⟩::rest) scope pos) (some (.Name y py)) spos.line X.env=pure true) :
 DS fa X (.Assign [.Name y py] (.ListComp elt (⟨tg,iter,ifs,0⟩::rest) scope pos) spos) (fun Z M=>(bI m own.length t gw g Z M).bind fun x M=>(bR M (b7 (.one i) x Z)).bind fun ρ1 M=>.ok (.next ρ1) M):=by
 intro pins s σ H D' I ⟨μ,Z,M,hE,hM,h⟩
 obtain ⟨x,M1,ex,q⟩:=aJ h
 have q:∀σ' H' μ',Ext μ H μ' H'->a7 fa X.K μ' H' σ' (Z.set i (some x))->RelM fa X.K μ' H' M1->D'.nx σ' H':=q
 rw [exec_Assign_Name_used _ _ _ _ hsw]
 refine tqa (wpAny_standAt (tqa ?_))
 show wpAny _ X.A (do let _ <- comprehension (.ListComp elt (⟨tg,iter,ifs,0⟩::rest) scope pos) scope X.env _ (newList []) false (eval iter X.env) (some (assign (.Name y py) X.env))) _ _ s
 refine tqa (aP (ot (use:=some (assign (.Name y py) X.env)) (QQ:=fun _ s'=>SP X pins D' .next s') (Q:=fun v H'=>D'.nx (σ.set i (some v)) H') S hcalm hi B hT hW hn hs I hE hM (by
  rw [ex]
  exact fun v H' μ' x1 m1 r1=>q _ H' μ' x1 ((hE.ext x1).set r1) m1) ?_) fun _ s' hq=>tqb (tqb hq))
 intro a C s' H' I' q ⟨m,hn⟩ gone hf ⟨nL,nC⟩
 refine wpAny_assign_Name (pK I' hN hy (.inl hl) (v:=.ref a) rfl (fun s2 I2 ⟨b,hb,hb2⟩=>?_) (.inr hl))
 have nb:C≠b:=by
  rcases hb2 with z|z
  ·rw [z];exact nL
  ·exact Ng (nC y b z)
 exact ⟨m,hn.sameBut hb nb,fun h' hs'=>⟨_,H',(gone _ H' s2 I2 id).2 h' hs',q⟩⟩
end
end LD
namespace LD
open PySem PySem.Spec PyProof.Rows L2
section
variable {X:Cx}{pins:List (Addr×Obj)}{σ:L2.St}{H:Hp}{s:L4}{h':Heap}{t':Nat}{ch:List Addr}
theorem tP (I:Inv X pins σ H s)(hf:∀b∈ch,fh X pins H b)(k:∀b o,b∉ch->s.heap.get? b=some o->h'.get? b=some o):Inv X pins σ H {s with heap:=h',toks:=t'}:=by
 have nit:∀b u,H b=some u->b∉ch:=fun b u e z=>by rw [(hf b z).1] at e;cases e
 refine I.step (g':=s.gens) (d':=s.drawn) (ch:=ch) (fun b hb=>⟨(hf b hb).2.2.2.1,(hf b hb).2.1,(hf b hb).2.2.2.2.1,(hf b hb).2.2.2.2.2⟩) (fun b o _ _ hc e _=>k b o hc e) (fun b o _ _ hc e _=>⟨o.slots,k b o hc e⟩) (fun _ _ _ _ n=>n)
  (fun b o hc e=>⟨o,k b o hc e⟩) (fun _ _ e=>e) (fun _ _ _ e=>e) (fun b ps e=>⟨#[],by rw [e];simp⟩) (fun m hm=>?_) (fun b u e=>?_) I.bare
 ·obtain ⟨o,es,ep,ho,r⟩:=hm
  exact ⟨o,es,ep,k _ o (fun z=>(hf _ z).2.1 rfl) ho,r⟩
 ·refine (I.hok b u e).stay (fun c v hc q=>k c v ?_ q) (fun _ q=>q) fun _ _ q=>q
  rcases hc with z|z
  ·rw [z];exact nit b u e
  ·exact nit c _ z
theorem pG {T:Addr}{o:HO}(I:Inv X pins σ H s)(hf:∀b∈ch,fh X pins H b)(k:∀b o,b∉ch->s.heap.get? b=some o->h'.get? b=some o)(hT:s.heap.objs.size<=T)(new:b8 X.prog X.w (upd H T o) h' T o) :
 Inv X pins σ (upd H T o) {s with heap:=h',toks:=t'}:=by
 have hn:H T=none:=I.hok.fresh hT
 have nit:∀b u,H b=some u->b∉ch:=fun b u e z=>by rw [(hf b z).1] at e;cases e
 refine I.step (g':=s.gens) (d':=s.drawn) (ch:=ch) (fun b hb=>⟨(hf b hb).2.2.2.1,(hf b hb).2.1,(hf b hb).2.2.2.2.1,(hf b hb).2.2.2.2.2⟩) (fun b o _ _ hc e _=>k b o hc e) (fun b o _ _ hc e _=>⟨o.slots,k b o hc e⟩)
  (fun b o _ e n=>by rw [ax (MO (Mj (Mi e) hT))];exact n)
  (fun b o hc e=>⟨o,k b o hc e⟩) (fun b xs e=>by rw [ax (aO e hn)];exact e) (fun b ob u e=>by rw [ax (aO e hn)];exact e) (fun b ps e=>⟨#[],by rw [ax (aO e hn),e];simp⟩) (fun m hm=>?_) (fun b u e=>?_) I.bare
 ·obtain ⟨o,es,ep,ho,r⟩:=hm
  exact ⟨o,es,ep,k _ o (fun z=>(hf _ z).2.1 rfl) ho,r⟩
 ·by_cases hb:b=T
  ·subst hb;rw [bw] at e;cases e;exact new
  ·rw [ax hb] at e
   refine (I.hok b u e).stay (fun c v hc q=>k c v ?_ q) (fun c q=>by rw [ax (aO q hn)];exact q) fun c xs q=>by rw [ax (aO q hn)];exact q
   rcases hc with z|z
   ·rw [z];exact nit b u e
   ·exact nit c _ z
end
noncomputable def Ke (K:LX)(a:Addr):It:=
 ⟨fun i H=>∃xs x,bV K H a xs/\xs[i]?=some x,fun i H v H'=>∃p x,H p=none/\v=.ref p/\H'=upd H p (.tup [.int i,x])/\∀xs,bV K H a xs->xs[i]?=some x,fun i H=>∃xs,bV K H a xs/\xs.length<=i⟩
theorem wI {P:Ms}{w:Mv}{K:LX}{elts:List Expr}{kk:Nat}{pos:Pos}(a it e:Addr)(hne:e≠it) :
 Turn P w K (.Tuple elts kk pos) (Ke K a) [e,it] e (fun i h=>(∃old,IsEnum h e it (i:Nat) old)/\h.IsListIter it a i) where
 mem:=by simp
 obj:=fun i h ⟨⟨old,he⟩,o,ho,c,d⟩ b hb=>by
  rcases MJ.mp hb with z|z
  ·subst z;exact ⟨_,he,fun v z=>by cases z⟩
  ·have e:b=it:=by simpa using z
   subst e
   exact ⟨o,ho,fun v z=>by rw [d] at z;cases z⟩
 keep:=fun i h h' ⟨⟨old,he⟩,st⟩ k=>⟨⟨old,k e (by simp) _ he⟩,st.at fun o e=>k it (by simp) o e⟩
 item:=by
  intro X hP hw hK hc i pins s σ H E I hf st hg
  subst hP hw hK
  obtain ⟨xs,x,hq,hx⟩:=hg
  obtain ⟨⟨old,he⟩,hit⟩:=st
  obtain ⟨its,rv,p,hz⟩:=I.list hq
  obtain ⟨u,hu,ru⟩:=rv.get hx
  refine wpAny_pyNext_enum_item he hit p.isList (x:=u) (by simpa using hu) hne fun h1 ho hit1 hT hsz hk=>⟨_,rfl,?_⟩
  have hT0:H s.heap.objs.size=none:=I.hok.fresh (L7 _)
  have elt:e<s.heap.objs.size:=Mi he
  refine wpAny_letOwnedTupleGo_enum (s:={s with heap:=h1,toks:=s.toks+1}) ho fun h2 he2 hs2=>?_
  have he2:IsEnum h2 e it ((i+1:Nat):Int) u:=by simpa using he2
  have hT2:h2.get? s.heap.objs.size=some {cls:=.type "tuple",data:=.seq #[.int i s.toks,u]}:=(hs2.2 _ (Nc elt)).trans hT
  refine ⟨.ref s.heap.objs.size,upd H s.heap.objs.size (.tup [.int i,x]),pG (s:=s) (t':=s.toks+1) I hf (fun b o hb q=>(hs2.2 b (fun z=>hb (by simp [z]))).trans (hk b o (fun z=>hb (by simp [z])) (fun z=>hb (by simp [z])) q)) (L7 _) ⟨?_,[.int i s.toks,u],.cons ⟨_,rfl⟩ (.cons ru .nil),⟨_,hT2,rfl,_,rfl⟩⟩,rfl,
   ⟨_,x,hT0,rfl,rfl,fun ys hy=>by rw [I.list_inj hy hq];exact hx⟩,⟨⟨u,he2⟩,hit1.extBut hs2.extBut (Ng hne)⟩,fun b hb=>?_⟩
  ·show 2<=sizeLine;decide
  ·have:b<s.heap.objs.size:=by
    rcases MJ.mp hb with z|z
    ·subst z;exact elt
    ·have e:b=it:=by simpa using z
     subst e
     obtain ⟨o,e,_⟩:=hit;exact Mi e
   rw [ax (MO this)];exact (hf b hb).1
 done:=by
  intro X hP hw hK hc i pins s σ H E I hf st hg
  subst hP hw hK
  obtain ⟨xs,hq,hx⟩:=hg
  obtain ⟨⟨old,he⟩,hit⟩:=st
  obtain ⟨its,rv,p,hz⟩:=I.list hq
  have hl:=rv.length
  exact wpAny_pyNext_enum_end (I.ok.hd hc) he hit p.isList (by simp;omega) fun h' eb=>⟨rfl,tP I hf (t':=s.toks) fun b o hb q=>eb b o (fun z=>hb (by simp [z])) q⟩
 self:=fun _ _ _ _ _ ⟨⟨old,he⟩,_⟩ h=>wpAny_pyIter_enum he h
section
variable {fa:Fa}{X:Cx}{a:Expr}{ga:Env->Mem->Res D}{pos p:Pos}
theorem js:∀(ds:List D) (k i:Nat),(dE k ds)[i]?=(ds[i]?).map fun d=>.tup [.int ((k+i:Nat):Int),d]
 |[],_,_=>by simp [dE]
 |d::ds,k,0=>by simp [dE]
 | d :: ds, k, i + 1 => by
   have:=js ds (k+1) i
   simp only [dE,Of,this]
   congr 1
   funext d
   congr 3
   omega
theorem lB:∀(ds:List D) (k:Nat),(dE k ds).length=ds.length
 |[],_=>rfl
 |d::ds,k=>by simp [dE,lB ds]
theorem wt {μ0:Mu}{H0:Hp}{dd:D}{ad:Addr}(h:Rep fa X.K μ0 H0 dd (.ref ad)):cY fa X.K μ0 H0 (fun M=>(d8 M dd).map (dE 0)) (Ke X.K ad):=fun μ H M ds x hM e=>by
 dsimp only at e
 cases e0:d8 M dd with
 |none=>rw [e0] at e;cases e
 | some es =>
   rw [e0] at e
   have e:dE 0 es=ds:=L9 e
   subst e
   obtain ⟨ad',vs,ea,s,r⟩:=bF hM (Rep.extW x h) e0
   cases ea
   refine ⟨fun i d hd=>?_,fun i hi=>⟨vs,s,by rw [r.length,<- lB es 0];exact hi⟩⟩
   rw [js] at hd
   cases e1:es[i]? with
   |none=>rw [e1] at hd;cases hd
   | some d0 =>
     rw [e1] at hd
     have hd:D.tup [.int ((0+i:Nat):Int),d0]=d:=L9 hd
     subst hd
     obtain ⟨v,hv,rv⟩:=r.get e1
     refine ⟨⟨vs,v,s,hv⟩,fun y H' ⟨q,z,hq,ey,eH,hy⟩=>?_⟩
     have:=hy vs s
     rw [hv] at this;cases this
     subst eH ey
     refine ⟨Ext.alloc hM hq,hM.alloc hq,q,[.int i,v],rfl,.inl (.inl bw),.int i,[v],rfl,?_,v,[],rfl,rv.ext (Ext.alloc hM hq),rfl⟩
     show V.int i=V.int ((0+i:Nat):Int)
     rw [Nat.zero_add]
noncomputable def lZ (ga:Env->Mem->Res D):Env->Mem->Res Walk:=fun Z M=>(ga Z M).bind fun x M=>match x with
 |.lst ds=>.ok (fun _=>some (dE 0 ds)) M
 |.frz ds=>.ok (fun _=>some (dE 0 ds)) M
 |.cell k=>.ok (fun M=>(M[k]?).map (dE 0)) M
 |_=>.bad
theorem Ey {elts:List Expr}{kk:Nat}{tp:Pos}(ha:DE fa X a ga)(hg:Gl X "enumerate")(hm:X.mg "enumerate"=none)(hs:starEach [a] X.env=[(false,eval a X.env)]):DI fa X (.Tuple elts kk tp) (.Call (.Name "enumerate" p) [a] [] pos) (lZ ga):=by
 intro pins s σ H R I ⟨μ,Z,M,hE,hM,h⟩
 obtain ⟨x,M1,e,q⟩:=aJ h
 have key:(∀μ' H',RelM fa X.K μ' H' M1->∀v,Rep fa X.K μ' H' x v->∃ds,d8 M1 x=some ds)->(∀J H' μ',Ext μ H μ' H'->RelM fa X.K μ' H' M1->cY fa X.K μ' H' (fun M=>(d8 M x).map (dE 0)) J->R J H')->
  wpAny (model X.prog X.w) X.A (eval (.Call (.Name "enumerate" p) [a] [] pos) X.env) (fun v s1=>wpAny (model X.prog X.w) X.A (pyIter v) (Cs X pins σ (.Tuple elts kk tp) R) X.xe s1) X.xe s:=fun hx q=>by
  refine Call_ (gk I hg hm boot_enumerate (Nf (aP (cH ha fi hs pos pins s σ H (fun vs H1=>∃v μ1,vs=[v]/\Ext μ H μ1 H1/\RelM fa X.K μ1 H1 M1/\Rep fa X.K μ1 H1 x v) I ⟨μ,Z,M,hE,hM,?_⟩) fun us s1 ⟨vs,H1,I1,r1,v,μ1,ev,x1,m1,rv⟩=>?_) hs rfl))
  ·rw [e];exact fun v H1 μ1 x1 m1 r1=>⟨v,μ1,rfl,x1,m1,r1⟩
  subst ev
  obtain ⟨ds,er⟩:=hx μ1 H1 m1 v rv
  obtain ⟨ad,vs,rfl,s1',r⟩:=bF m1 rv er
  cases r1 with
  | cons r1 rr =>
    cases rr
    obtain rfl:=r1
    obtain ⟨its,rvs,pl,hz⟩:=I1.list s1'
    refine call_enumerate_list pl.isList fun h1 he hit hsz hk=>?_
    have I2:Inv X pins σ H1 {s1 with heap:=h1}:=I1.kept (t':=s1.toks) hk
    refine wpAny_pyIter_enum (s:={s1 with heap:=h1}) he ?_
    refine ⟨s1.heap.objs.size+1,[s1.heap.objs.size+1,s1.heap.objs.size],_,_,H1,rfl,I2,wI ad s1.heap.objs.size (s1.heap.objs.size+1) (Nat.succ_ne_self _),⟨⟨.none,he⟩,hit⟩,fun b hb=>?_,q _ H1 μ1 x1 m1 (wt rv)⟩
    have hb:s1.heap.objs.size<=b:=by
     rcases MJ.mp hb with z|z
     ·subst z;exact NQ _
     ·have e:b=s1.heap.objs.size:=by simpa using z
      subst e;exact L7 _
    exact I1.fpOk hb (I1.hok.fresh hb)
 cases x with
 |lst ds=>exact key (fun _ _ _ _ _=>⟨ds,rfl⟩) q
 |frz ds=>exact key (fun _ _ _ _ _=>⟨ds,rfl⟩) q
 |cell k=>exact key (fun μ' H' m' v ⟨ad,_,hk⟩=>let ⟨ds,_,e,_⟩:=m'.mu_lt hk;⟨ds,e⟩) q
 |_=>exact q.elim
end
end LD
namespace LD
open PySem PySem.Spec PyProof.Rows L2
noncomputable def bK:Bool->Heap->Addr->Array LY->Prop
 |true,h,a,its=>h.IsList a its
 |false,h,a,its=>h.IsTuple a its
noncomputable def jl:Bool->Heap->Addr->Addr->Nat->Prop
 |true,h,it,a,i=>h.IsListIter it a i
 |false,h,it,a,i=>h.IsTupleIter it a i
theorem bK.at {b:Bool}{h h':Heap}{a:Addr}{its:Array LY}(x:bK b h a its)(k:∀o,h.get? a=some o->h'.get? a=some o):bK b h' a its:=by
 cases b<;>(obtain ⟨o,ho,r⟩:=x;exact ⟨o,k o ho,r⟩)
theorem jl.at {b:Bool}{h h':Heap}{it a:Addr}{i:Nat}(x:jl b h it a i)(k:∀o,h.get? it=some o->h'.get? it=some o):jl b h' it a i:=by
 cases b<;>(obtain ⟨o,ho,r⟩:=x;exact ⟨o,k o ho,r⟩)
theorem jl.obj {b:Bool}{h:Heap}{it a:Addr}{i:Nat}(x:jl b h it a i):∃o,h.get? it=some o/\∀v,o.data≠.cell v:=by
 cases b<;>(obtain ⟨o,ho,c,d⟩:=x;exact ⟨o,ho,fun v z=>by rw [d] at z;cases z⟩)
section
variable {prog:Ms}{w:Mv}{A:MZ}{E:LY->L4->Prop}{s:L4}
theorem tm {a b:Nat}(h:a≠b):@Ne Addr a b:=h
theorem E1 {T:Addr}{its:Array LY}{k:Nat}{x:LY}{Q:Unit->L4->Prop}(hT:s.heap.get? T=some {cls:=.type "tuple",data:=.seq its})(hz:its.size<=64)
 (h:∀h',h'.get? T=some {cls:=.type "tuple",data:=.seq (its.setIfInBounds k x)}->Heap.SameBut T s.heap h'->Q () {s with heap:=h'}) :
 wpAny (model prog w) A (updateSeq T (·.setIfInBounds k x)) Q E s:=by
 refine wpAny_updateSeq hT rfl (h _ ?_ (Heap.SameBut.update ..)) (Mb hz (by decide)) (by rw [Array.size_setIfInBounds];exact Mb hz (by decide))
 rw [NA _ hT rfl]
 simp [Obj.mapSeq]
theorem vk {b:Bool}{it a:Addr}{i:Nat}{its:Array LY}{Q:LY->L4->Prop}(hh:A.handled=none)(hit:jl b s.heap it a i)(hl:bK b s.heap a its)
 (hQ:∀x h',its[i]?=some x->jl b h' it a (i+1)->Heap.SameBut it s.heap h'->Q x {s with heap:=h'})
 (hE:its[i]?=none->∀h' e,Heap.ExtBut it s.heap h'->(∃o,h'.get? e=some o/\o.cls=.type "StopIteration")->E (.ref e) {s with heap:=h'}):wpAny (model prog w) A (Builtin.SmallTypes.nextOf (.ref it)) Q E s:=by
 cases b with
 | true => cases hx : its[i]? with
   |some x=>exact wpAny_nextOf_list_item hit hl hx fun h'=>hQ x h' hx
   |none=>exact wpAny_nextOf_list_end hh hit hl hx (hE hx)
 | false =>
   have hit:s.heap.IsTupleIter it a i:=hit
   obtain ⟨o,ho,hc,hd⟩:=id hit
   obtain ⟨ol,hol,_,nl,hdl⟩:=hl
   unfold Builtin.SmallTypes.nextOf
   refine tqa (wpAny_callSpecial?_slot (name:=Str.ofString "__next__") hit.typeIs F.slot_tuple_iterator_next
    (wpAny_call_entry F.slot_tuple_iterator_next hit.typeIs F.entry_tuple_iterator_next ?_ (F.args_tuple_iterator_next_1 _)))
   show wpAny _ _ (field (.ref it) 0 >>= _) _ _ s
   refine tqa (tqf ho hd (x:=.ref a) rfl ?_)
   show wpAny _ _ (if (Value.ref a==Value.none)=true then _ else _) _ _ s
   rw [if_neg (show ¬ ((Value.ref a==Value.none)=true) from Mx)]
   show wpAny _ _ (field (.ref it) 1 >>= _) _ _ s
   refine tqa (tqf ho hd (x:=.int i 0) rfl ?_)
   show wpAny _ _ (seqItems? (.ref a) >>= _) _ _ s
   refine tqa (wpAny_seqItems hol hdl ?_)
   cases hx:its[i]? with
   | some x =>
     simp only [NB,hx]
     refine tqa (wpAny_setField ho hd (by simp) (tqb ⟨x,rfl,tqb (hQ x _ hx ?_ (Heap.SameBut.update ..))⟩))
     exact ⟨_,NA _ ho (N1 (Nr hd _)),(Obj.cls_mapFields ..).trans hc,by
      rw [Nr hd];simp [rawInt]⟩
   | none =>
     simp only [NB,hx]
     refine tqa (wpAny_rule (tqa (wpAny_setField ho hd (by simp) ?_)))
     show wpAny _ _ (newExc (.type "StopIteration") [] >>= _) _ _ _
     refine tqa ?_
     simp only [newExc,newTuple]
     refine tqa (wpAny_newObj_type ?_ (by size_fits))
     refine tqa (m:=firstArgMember _ _) (wpAny_of_eq (a:=Value.none) (by first|rfl|(simp only [firstArgMember];rfl)) ?_)
     refine wpAny_newObj_type ?_ (by size_fits)
     simp only [raiseNew]
     refine tqa (wpAny_handled ?_)
     first|rw [show A.in1.handled=none from hh]|rw [hh]
     refine tqa (tqb (wpAny_throw ?_))
     exact hE hx _ _ (((Heap.SameBut.update ..).extBut.push _).push _) ⟨_,Mo _ rfl,rfl⟩
abbrev iW (us:Array LY):Obj:={cls:=.type "tuple",data:=.seq us}
noncomputable def oO (n k j:Nat):List LY:=(List.range' k j).map fun k=>Value.ref (n+k)
noncomputable def v7 (n m:Nat)(h h':Heap):Prop:=∀(c:Nat) o,(c<n\/c=n+m\/n+m+2<c)->h.get? c=some o->h'.get? c=some o
noncomputable def wc (n i k:Nat)(l:List (Bool×Nat))(h:Heap):Prop:=∀(j:Nat) b a,l[j]?=some (b,a)->jl b h (n+j) a (if j<k then i+1 else i)
noncomputable def HR (n:Nat)(l:List (Bool×Nat))(xs:Nat->Array LY)(h:Heap):Prop:=∀(j:Nat) b a,l[j]?=some (b,a)->a<n/\bK b h a (xs j)
abbrev mq (h:Heap)(n m:Nat)(v:LY):Prop:=IsZip h (n+m+2) (n+m) (n+m+1) v
noncomputable def Lx (n m i k:Nat)(l:List (Bool×Nat))(xs:Nat->Array LY)(h0 h:Heap):Prop:=mq h n m .ellipsis/\(∃us:Array LY,us.size=m/\(∀j<k,us[j]?=(xs j)[i]?)/\h.get? (n+m+1)=some (iW us))/\wc n i k l h/\HR n l xs h/\v7 n m h0 h/\h.objs.size=h0.objs.size
theorem BP {M:Model}{β:Type}{f:LY×Nat->β->Sem (ForInStep β)}{b:β}{Q:β->L4->Prop}(n m:Nat)(I:Nat->L4->Prop)
 (hs:∀k s,k<m->I k s->wpAny M A (f (.ref (n+k),k) b) (fun r s'=>r=.yield b/\I (k+1) s') E s) (hQ:∀s,I m s->Q b s):∀(j k:Nat) (s:L4),k+j=m->I k s->wpAny M A (forIn ((oO n k j).zipIdx k) b f) Q E s
 |0,k,s,e,h=>tqb (hQ s (e ▸ h))
 | j + 1, k, s, e, h => by
   show wpAny M A (forIn ((Value.ref (n+k),k)::(oO n (k+1) j).zipIdx (k+1)) b f) Q E s
   rw [List.forIn_cons]
   refine tqa (aP (hs k s (by omega) h) ?_)
   rintro _ s' ⟨rfl,h'⟩
   exact BP n m I hs hQ j (k+1) s' (by omega) h'
theorem qR {n m i:Nat}{l:List (Bool×Nat)}{xs:Nat->Array LY}{us:Array LY}{Q:LY->L4->Prop}(hh:A.handled=none)(hl:l.length=m+1)(h64:m<64)
 (hz:mq s.heap n (m+1) .none) (hTI:s.heap.get? (n+(m+1))=some (iW (oO n 0 (m+1)).toArray)) (hTO:s.heap.get? (n+(m+1)+1)=some (iW us)) (hu:us.size=m+1) (hi:wc n i 0 l s.heap) (hq:HR n l xs s.heap)
 (hQ:∀h' us,us.size=m+1->(∀k<m+1,us[k]?=(xs k)[i]?)->mq h' n (m+1) (rawInt s.heap.objs.size)->h'.get? (n+(m+1)+1)=some (iW us)->wc n (i+1) 0 l h'->h'.get? s.heap.objs.size=some (iW us)->v7 n (m+1) s.heap h'->Q (.ref s.heap.objs.size) {s with heap:=h'})
 (hE:∀h' e k,k<m+1->(xs k)[i]?=none->v7 n (m+1) s.heap h'->(∃o,h'.get? e=some o/\o.cls=.type "StopIteration")->E (.ref e) {s with heap:=h'}) :
 wpAny (model prog w) A (Builtin.«zip.__next__» ⟨[.ref (n+(m+1)+2)],[]⟩) (fun fin s'=>∃v,fin=.done (.ret v)/\Q v s') E s:=by
 show wpAny _ _ (field (.ref (n+(m+1)+2)) 2 >>= _) _ _ _
 refine tqa (tqf hz rfl (x:=.bool false) rfl ?_)
 show wpAny _ _ (field (.ref (n+(m+1)+2)) 3 >>= _) _ _ _
 refine tqa (tqf hz rfl (x:=.ref (n+(m+1))) rfl ?_)
 refine tqa (wpAny_seqItems hTI rfl ?_)
 show wpAny _ _ (Builtin.SmallTypes.ownedTupleIsFree (.ref (n+(m+1)+2)) >>= _) _ _ _
 refine tqa ?_
 unfold Builtin.SmallTypes.ownedTupleIsFree
 refine tqa (tqf hz rfl (x:=.none) rfl (tqb ?_))
 simp only [if_true]
 refine tqa (wpAny_rule ?_)
 refine tqa (tqf hz rfl (x:=.ref (n+(m+1)+1)) rfl ?_)
 refine tqa (wpAny_setField_rec hz (by simp) fun h0 hz0 hs0=>?_)
 have u0:∀(c:Nat) o,c≠n+(m+1)+2->s.heap.get? c=some o->h0.get? c=some o:=fun c o ne=>hs0.extBut c o ne
 have mm:∀{j b a},l[j]?=some (b,a)->j<m+1:=fun e=>hl ▸ (LZ.mp e).1
 refine tqa (BP n (m+1) (fun k s'=>∃h,s'={s with heap:=h}/\Lx n (m+1) i k l xs s.heap h) ?_ ?_ (m+1) 0 _ (Nat.zero_add _) ⟨h0,rfl,hz0,⟨us,hu,fun _ z=>absurd z (Nat.not_lt_zero _),u0 _ _ (by omega) hTO⟩,fun j b a e=>(hi j b a e).at fun o=>u0 _ o (by have:=mm e;omega),fun j b a e=>⟨(hq j b a e).1,(hq j b a e).2.at fun o=>u0 _ o (by have:=(hq j b a e).1;omega)⟩,fun c o hc=>u0 c o (by omega),hs0.1⟩)
 ·rintro k _ hk ⟨h,rfl,hz,⟨us,hu,hx,hT⟩,hi,hq,kp,sz⟩
  obtain ⟨⟨b,a⟩,e⟩:∃p,l[k]?=some p:=⟨_,Mr (by omega)⟩
  have it:=hi k b a e
  rw [if_neg (Nk k)] at it
  refine tqa (wpAny_onRaise ?_)
  show wpAny _ _ (Builtin.SmallTypes.nextOf (.ref (n+k)) >>= _) _ _ _
  refine tqa (vk hh it (hq k b a e).2 (fun x h1 ex j1 hs1=>tqb ?_) fun en h1 e1 hs1 ⟨oe,hoe,hce⟩=>?_)
  ·have hT1:=hs1.extBut _ _ (tm (by omega)) hT
   refine tqa (wpAny_seqItems hT1 rfl ?_)
   refine tqa (E1 hT1 (by omega) fun h2 hT2 hs2=>?_)
   have up:∀(c:Nat) o,c≠n+k->c≠n+(m+1)+1->h.get? c=some o->h2.get? c=some o:=fun c o x y z=>hs2.extBut c o y (hs1.extBut c o x z)
   refine tqa (wpAny_letGo (tqb ⟨rfl,h2,rfl,up _ _ (by omega) (by omega) hz,⟨_,(Array.size_setIfInBounds ..).trans hu,fun j hj=>?_,hT2⟩,fun j b' a' e'=>?_,fun j b a e=>⟨(hq j b a e).1,(hq j b a e).2.at fun o=>up _ o (by have:=(hq j b a e).1;omega) (by have:=(hq j b a e).1;omega)⟩,fun c o hc x=>up c o (by omega) (by omega) (kp c o hc x),by rw [hs2.1,hs1.1,sz]⟩))
   ·by_cases jk:j=k
    ·subst jk
     rw [Array.getElem?_setIfInBounds_self_of_lt (by omega),ex]
    ·rw [Array.getElem?_setIfInBounds_ne (Ng jk),hx j (by omega)]
   ·by_cases jk:j=k
    ·subst jk
     cases e.symm.trans e'
     rw [if_pos (Nat.lt_succ_self _)]
     exact j1.at fun o=>hs2.extBut _ o (tm (by omega))
    ·have q:=hi j b' a' e'
     have:=mm e'
     rw [show (if j<k+1 then i+1 else i)=if j<k then i+1 else i by split<;>split<;>omega]
     exact q.at fun o=>up _ o (by omega) (by omega)
  ·have hz1:=hs1 _ _ (tm (by omega)) hz
   have hez:e1≠n+(m+1)+2:=fun x=>by subst x;rw [hz1] at hoe;cases hoe;simp at hce
   exact wpAny_setField_rec hz1 (by simp) fun h2 _ hs2=>hE h2 e1 k hk en (fun c o hc x=>hs2.extBut _ _ (tm (by omega)) (hs1 _ _ (tm (by omega)) (kp c o hc x))) ⟨oe,hs2.extBut _ _ hez hoe,hce⟩
 ·rintro _ ⟨h4,rfl,hz4,⟨us,hu,hx,hT⟩,hi,hq,kp,sz4⟩
  refine tqa (wpAny_seqItems hT rfl ?_)
  refine tqa (wpAny_newTuple (hsz:=Mb (show us.toList.length<=64 by rw [NK];omega) (by decide)) ?_)
  have hzlt:n+(m+1)+2<h4.objs.size:=Mi hz4
  show wpAny _ _ (Builtin.SmallTypes.ownedTupleHandOut (.ref (n+(m+1)+2)) (.ref h4.objs.size) >>= _) _ _ _
  refine tqa ?_
  unfold Builtin.SmallTypes.ownedTupleHandOut
  have hz6:mq (h4.push (iW us)) n (m+1) .ellipsis:=L3 _ hz4
  refine tqa (wpAny_setField_rec hz6 (by simp) fun h7 hz7 hs7=>?_)
  replace hz7:mq h7 n (m+1) (rawInt h4.objs.size):=hz7
  refine wpAny_setField_rec hz7 (by simp) fun h8 hz8 hs8=>?_
  have up:∀(c:Nat) o,c≠n+(m+1)+2->(h4.push (iW us)).get? c=some o->h8.get? c=some o:=fun c o c1 e=>hs8.extBut _ _ c1 (hs7.extBut _ _ c1 e)
  refine tqb ⟨_,rfl,?_⟩
  show Q (.ref h4.objs.size) _
  have hT8:=up h4.objs.size _ (Nc hzlt) (Mo _ rfl)
  rw [sz4] at hT8 hz8 ⊢
  refine hQ h8 us hu hx hz8 (up _ _ (by omega) (L3 _ hT)) (fun j b a e=>?_) hT8 fun c o hc e=>up c o (by omega) (L3 _ (kp c o hc e))
  have q:=hi j b a e
  rw [if_pos (mm e)] at q
  exact q.at fun o e'=>up _ o (by have:=mm e;omega) (L3 _ e')
end
end LD
namespace LD
open PySem PySem.Spec PyProof.Rows L2
noncomputable def jx (K:LX)(H:Hp):Bool->Addr->List V->Prop
 |true,a,xs=>bV K H a xs
 |false,a,xs=>cZ K H a xs
noncomputable def dD:D->Bool
 |.tup _=>false
 |_=>true
noncomputable def cT:D->Bool
 |.tup _=>true
 |.lst _=>true
 |.frz _=>true
 |.cell _=>true
 |_=>false
theorem t9 {X:Cx}{pins:List (Addr×Obj)}{σ:L2.St}{H:Hp}{s:L4}{b:Bool}{a:Addr}{xs:List V}(I:Inv X pins σ H s)(h:jx X.K H b a xs):∃its:List LY,Vals xs its/\bK b s.heap a its.toArray:=by
 cases b with
 |true=>obtain ⟨its,r,p,_⟩:=I.list h;exact ⟨its,r,p.isList⟩
 |false=>obtain ⟨its,r,p,_⟩:=I.tuple h;exact ⟨its,r,p⟩
theorem mO {X:Cx}{pins:List (Addr×Obj)}{σ:L2.St}{H:Hp}{s:L4}{b:Bool}{a:Addr}{xs ys:List V}(I:Inv X pins σ H s)(h:jx X.K H b a xs)(h':jx X.K H b a ys):xs=ys:=by
 cases b with
 |true=>exact I.list_inj h h'
 |false=>exact I.tuple_inj h h'
theorem gJ {fa:Fa}{X:Cx}{μ:Mu}{H:Hp}{M:Mem}{d:D}{a:Addr}{ds:List D}(hM:RelM fa X.K μ H M)(h:Rep fa X.K μ H d (.ref a))(e:bL M d=some ds):∃vs,jx X.K H (dD d) a vs/\aF fa X.K μ H ds vs:=by
 cases d with
 |tup xs=>cases e;obtain ⟨a',vs,e,s,r⟩:=h;cases e;exact ⟨vs,s,r⟩
 |lst xs=>obtain ⟨a',vs,e',s,r⟩:=bF hM h (show d8 M (.lst xs)=some ds from e);cases e';exact ⟨vs,s,r⟩
 |frz xs=>obtain ⟨a',vs,e',s,r⟩:=bF hM h (show d8 M (.frz xs)=some ds from e);cases e';exact ⟨vs,s,r⟩
 |cell k=>obtain ⟨a',vs,e',s,r⟩:=bF hM h (show d8 M (.cell k)=some ds from e);cases e';exact ⟨vs,s,r⟩
 |_=>cases e
theorem iZ {fa:Fa}{X:Cx}{pins:List (Addr×Obj)}{σ:L2.St}{μ:Mu}{H:Hp}{s:L4}{M:Mem}{d:D}{v:V}(I:Inv X pins σ H s)(hM:RelM fa X.K μ H M)(h:Rep fa X.K μ H d v)(e:cT d=true):∃(a:Nat) (its:Array LY),v=.ref a/\bK (dD d) s.heap a its:=by
 have key:∀ds,bL M d=some ds->∃(a:Nat) (its:Array LY),v=.ref a/\bK (dD d) s.heap a its:=fun ds z=>by
  obtain ⟨a,vs,rfl,_,_⟩:=i4 hM h z
  obtain ⟨vs,s1,_⟩:=gJ hM h z
  obtain ⟨its,_,p⟩:=t9 I s1
  exact ⟨a,its.toArray,rfl,p⟩
 cases d with
 |tup xs=>exact key xs rfl
 |lst xs=>exact key xs rfl
 |frz xs=>exact key xs rfl
 | cell k =>
   obtain ⟨a,e,hk⟩:=id h
   obtain ⟨ds,_,z,_⟩:=hM.mu_lt hk
   exact key ds z
 |_=>cases e
theorem bK.lt {b:Bool}{h:Heap}{a:Addr}{its:Array LY}(x:bK b h a its):a<h.objs.size:=by
 cases b<;>(obtain ⟨o,ho,r⟩:=x;exact Mi ho)
theorem bK.push {b:Bool}{h:Heap}{a:Addr}{its:Array LY}(x:bK b h a its)(ob:Obj):bK b (h.push ob) a its:=by
 cases b<;>(obtain ⟨o,ho,r⟩:=x;exact ⟨o,L3 _ ho,r⟩)
noncomputable def gm (b:Bool)(a:Addr):Obj:={cls:=.type (if b then "list_iterator" else "tuple_iterator"),data:=.fields #[.ref a,.int 0 0]}
theorem jl.new {b:Bool}{h:Heap}{it a:Addr}(e:h.get? it=some (gm b a)):jl b h it a 0:=by
 cases b<;>exact ⟨_,e,rfl,rfl⟩
theorem f6 {prog:Ms}{w:Mv}{A:MZ}{E:LY->L4->Prop}{s:L4}{b:Bool}{a:Addr}{its:Array LY}{Q:LY->L4->Prop}(h:bK b s.heap a its)(hQ:Q (.ref s.heap.objs.size) {s with heap:=s.heap.push (gm b a)}):wpAny (model prog w) A (pyIter (.ref a)) Q E s:=by
 cases b with
 |true=>exact wpAny_pyIter_list h hQ
 |false=>exact wpAny_pyIter_tuple h hQ
abbrev jj:=List (Bool×Nat)
noncomputable def Cw (K:LX)(l:jj):It:=
 ⟨fun i H => ∀ (j : Nat) b a, l[j]? = some (b, a) -> ∃ xs x, jx K H b a xs /\ xs[i]? = some x,
  fun i H v H'=>∃p ys,H p=none/\v=.ref p/\H'=upd H p (.tup ys)/\ys.length=l.length/\∀(j:Nat) b a,l[j]?=some (b,a)->∀xs,jx K H b a xs->ys[j]?=xs[i]?,
  fun i H=>(∀(j:Nat) b a,l[j]?=some (b,a)->∃xs,jx K H b a xs)/\∃(j:Nat) (b:Bool) (a:Nat) (xs:List V),l[j]?=some (b,a)/\jx K H b a xs/\xs.length<=i⟩
noncomputable def qQ (n m:Nat)(l:jj)(i:Nat)(h:Heap):Prop:=mq h n (m+1) .none/\h.get? (n+(m+1))=some (iW (oO n 0 (m+1)).toArray)/\(∃us:Array LY,us.size=m+1/\h.get? (n+(m+1)+1)=some (iW us))/\wc n i 0 l h
noncomputable def Bg (n m:Nat):List Addr:=List.range' n (m+4)
theorem c7 {n m b:Nat}:b∈Bg n m↔n<=b/\b<n+(m+4):=List.mem_range'_1
theorem BC {X:Cx}{pins:List (Addr×Obj)}{σ:L2.St}{H:Hp}{s:L4}{l:jj}(I:Inv X pins σ H s)(h:∀(j:Nat) b a,l[j]?=some (b,a)->∃xs,jx X.K H b a xs) :
 ∃(vs:Nat->List V) (ws:Nat->List LY),∀(j:Nat) b a,l[j]?=some (b,a)->jx X.K H b a (vs j)/\Vals (vs j) (ws j)/\bK b s.heap a (ws j).toArray:=by
 obtain ⟨f,hf⟩:=Classical.skolem.mp fun j:Nat=>show ∃p:List V×List LY,∀b a,l[j]?=some (b,a)->jx X.K H b a p.1/\Vals p.1 p.2/\bK b s.heap a p.2.toArray from by
  cases e:l[j]? with
  |none=>exact ⟨([],[]),fun _ _ z=>by cases z⟩
  | some p =>
    obtain ⟨xs,hx⟩:=h j p.1 p.2 e
    obtain ⟨its,r,q⟩:=t9 I hx
    exact ⟨(xs,its),fun b' a' z=>by cases z;exact ⟨hx,r,q⟩⟩
 exact ⟨fun j=>(f j).1,fun j=>(f j).2,hf⟩
theorem Bp:∀{us:List LY}{R:Nat->V->Prop},(∀(k:Nat) w,us[k]?=some w->∃y,RelV y w/\R k y)->∃ys,Vals ys us/\∀(k:Nat) y,ys[k]?=some y->R k y
 |[],R,_=>⟨[],.nil,fun _ _ z=>by simp at z⟩
 | w :: r, R, h => by
   obtain ⟨y,e,q⟩:=h 0 w rfl
   obtain ⟨ys,v,t⟩:=Bp (R:=fun k=>R (k+1)) fun k w e=>h (k+1) w e
   exact ⟨y::ys,.cons e v,fun k z e=>match k,e with
    |0,e=>by cases e;exact q
    |k+1,e=>t k z e⟩
theorem qW {P:Ms}{w:Mv}{K:LX}{elts:List Expr}{kk:Nat}{pos:Pos}(n m:Nat)(l:jj)(hl:l.length=m+1)(h64:m<64)(hn:∀(j:Nat) b a,l[j]?=some (b,a)->a<n) :
 Turn P w K (.Tuple elts kk pos) (Cw K l) (Bg n m) (n+(m+1)+2) (fun i h=>qQ n m l i h) where
 mem:=c7.mpr (by omega)
 obj:=fun i h ⟨h1,h2,⟨us,_,h3⟩,hi⟩ (b:Nat) hb=>by
  replace hb:=c7.mp hb
  by_cases c:b<n+(m+1)
  ·obtain ⟨j,rfl⟩:∃j,b=n+j:=⟨b-n,by omega⟩
   exact (hi j _ _ (Mr (by omega))).obj
  ·rcases (show b=n+(m+1)\/b=n+(m+1)+1\/b=n+(m+1)+2 by omega) with rfl|rfl|rfl
   ·exact ⟨_,h2,fun v z=>by cases z⟩
   ·exact ⟨_,h3,fun v z=>by cases z⟩
   ·exact ⟨_,h1,fun v z=>by cases z⟩
 keep:=fun i h h' ⟨h1,h2,⟨us,hu,h3⟩,hi⟩ k=>⟨k _ (c7.mpr (by omega)) _ h1,k _ (c7.mpr (by omega)) _ h2,⟨us,hu,k _ (c7.mpr (by omega)) _ h3⟩,fun j b a e=>(hi j b a e).at (k _ (c7.mpr (by have:=(LZ.mp e).1;omega)))⟩
 item:=by
  intro X hP hw hK hc i pins s σ H E I hf ⟨h1,h2,⟨us,hu,h3⟩,hi⟩ hg
  subst hP hw hK
  obtain ⟨vs,ws,hv⟩:=BC I fun j b a e=>(hg j b a e).imp fun _ ⟨_,h,_⟩=>h
  have it:∀k,k<m+1->∃x w b a,l[k]?=some (b,a)/\(vs k)[i]?=some x/\(ws k)[i]?=some w/\RelV x w:=fun k hk=>by
   have e:l[k]?=some (l[k]'(by omega)):=Mr _
   obtain ⟨xs,x,hx,ex⟩:=hg k _ _ e
   obtain ⟨q1,q2,_⟩:=hv k _ _ e
   rw [mO I hx q1] at ex
   obtain ⟨w,hw,r⟩:=q2.get ex
   exact ⟨x,w,_,_,e,ex,hw,r⟩
  have hT:s.TypeIs (.ref (n+(m+1)+2)) "zip":=⟨_,h1,rfl⟩
  unfold pyNext
  refine tqa (wpAny_attempt (wpAny_callSpecial?_slot (name:=Str.ofString "__next__") hT F.slot_zip_next
   (wpAny_call_entry F.slot_zip_next hT F.entry_zip_next
    (qR (E:=_) (xs:=fun j=>(ws j).toArray) (I.ok.hd hc) hl h64 h1 h2 h3 hu hi (fun j b a e=>⟨hn j b a e,(hv j b a e).2.2⟩) (fun h4 us hu hx z1 z2 g hTT hk=>tqb ⟨_,rfl,?_⟩) fun h' e k hk en _ _=>?_) (F.args_zip_next_1 _))))
  ·have zlt:n+(m+1)+2<s.heap.objs.size:=Mi h1
   refine wpAny_letOwnedTupleGo_zip (s:={s with heap:=h4}) z1 fun h5 hz5 hs5=>?_
   have up:∀(c:Nat) o,c≠n+(m+1)+2->h4.get? c=some o->h5.get? c=some o:=fun c o=>hs5.extBut c o
   obtain ⟨ys,vy,ty⟩:=Bp (us:=us.toList) (R:=fun j y=>(vs j)[i]?=some y) fun k w e=>by
    have hk:k<m+1:=by have:=(LZ.mp e).1;rw [NK] at this;omega
    obtain ⟨x,w',_,_,_,ex,ew,r⟩:=it k hk
    have q:=hx k hk
    rw [Array.getElem?_toList] at e
    simp only [List.getElem?_toArray] at q
    rw [e,ew] at q
    cases q
    exact ⟨x,r,ex⟩
   have ly:ys.length=m+1:=by rw [vy.length,NK,hu]
   refine ⟨.ref s.heap.objs.size,upd H s.heap.objs.size (.tup ys),pG (s:=s) (t':=s.toks) I hf (fun (b:Nat) o hb q=>up b o (fun z=>hb (c7.mpr (by omega))) (hk b o (by rw [c7] at hb;omega) q)) (L7 _) ⟨by rw [ly];exact Mb (show m+1<=64 by omega) (by decide),us.toList,vy,⟨_,up _ _ (Nc zlt) hTT,rfl,_,rfl⟩⟩,rfl,
    ⟨_,ys,I.hok.fresh (L7 _),rfl,rfl,ly.trans hl.symm,fun j b a e xs hx=>?_⟩,⟨hz5,up _ _ (by omega) (hk _ _ (by omega) h2),⟨us,hu,up _ _ (by omega) z2⟩,fun j b a e=>(g j b a e).at fun o=>up _ o (by have:=(LZ.mp e).1;omega)⟩,fun (b:Nat) hb=>?_⟩
   ·have hj:j<ys.length:=by have:=(LZ.mp e).1;omega
    have e1:=Mr hj
    rw [mO I hx (hv j b a e).1,ty j _ e1,e1]
   ·rw [c7] at hb
    rw [ax (MO (by omega:(b:Nat)<s.heap.objs.size))];exact (hf b (c7.mpr hb)).1
  ·obtain ⟨_,_,_,_,_,_,ew,_⟩:=it k hk
   simp only [List.getElem?_toArray] at en
   rw [ew] at en
   cases en
 done:=by
  intro X hP hw hK hc i pins s σ H E I hf ⟨h1,h2,⟨us,hu,h3⟩,hi⟩ ⟨hs,k,b,a,xs,ek,hq,le⟩
  subst hP hw hK
  obtain ⟨vs,ws,hv⟩:=BC I hs
  have hT:s.TypeIs (.ref (n+(m+1)+2)) "zip":=⟨_,h1,rfl⟩
  unfold pyNext
  refine tqa (wpAny_attempt (wpAny_callSpecial?_slot (name:=Str.ofString "__next__") hT F.slot_zip_next
   (wpAny_call_entry F.slot_zip_next hT F.entry_zip_next
    (qR (E:=_) (xs:=fun j=>(ws j).toArray) (I.ok.hd hc) hl h64 h1 h2 h3 hu hi (fun j b a e=>⟨hn j b a e,(hv j b a e).2.2⟩) (fun h4 us hu hx _ _ _ _ _=>?_) fun h' e k _ _ hk he=>?_) (F.args_zip_next_1 _))))
  ·exfalso
   have hk:=(LZ.mp ek).1
   have q:=hx k (by omega)
   obtain ⟨q1,q2,_⟩:=hv k b a ek
   rw [Array.getElem?_eq_getElem (by omega)] at q
   simp only [List.getElem?_toArray] at q
   rw [NI (by rw [<- q2.length,mO I q1 hq];exact le)] at q
   cases q
  ·obtain ⟨o,ho,hcl⟩:=he
   refine tqa (wpAny_isInstance (T:="StopIteration") (b:=true) ⟨o,ho,hcl⟩ isSubtype_stop ?_)
   exact tqb ⟨rfl,tP (s:=s) I hf (t':=s.toks) fun (b:Nat) o hb q=>hk b o (by rw [c7] at hb;omega) q⟩
 self:=fun _ _ _ _ _ st h=>wpAny_pyIter_zip st.1 h
noncomputable def gV (h:Heap):jj->Heap
 |[]=>h
 |p::r=>gV (h.push (gm p.1 p.2)) r
noncomputable def qF (h:Heap):jj->List LY
 |[]=>[]
 |p::r=>.ref h.objs.size::qF (h.push (gm p.1 p.2)) r
theorem nP:∀{h:Heap}{l:jj},(gV h l).objs.size=h.objs.size+l.length
 |_,[]=>rfl
 |h,p::r=>by show (gV _ r).objs.size=_;rw [nP,N7,MT];omega
theorem kM:∀{l:jj}{h:Heap}{c:Nat}{o:Obj},h.get? c=some o->(gV h l).get? c=some o
 |[],_,_,_,e=>e
 |_::r,_,_,_,e=>kM (l:=r) (L3 _ e)
theorem pW:∀{l:jj}{h:Heap}{j:Nat}{p:Bool×Nat},l[j]?=some p->(gV h l).get? (h.objs.size+j)=some (gm p.1 p.2)
 |_::r,h,0,_,e=>by cases e;exact kM (l:=r) (Mo _ rfl)
 | q :: r, h, j + 1, _, e => by
   have:=pW (l:=r) (h:=h.push (gm q.1 q.2)) (j:=j) e
   rw [N7,Nat.add_assoc,Nat.add_comm 1] at this
   exact this
theorem rM:∀{l:jj}{h:Heap}{n k:Nat},h.objs.size=n+k->qF h l=oO n k l.length
 |[],_,_,_,_=>rfl
 | p :: r, h, n, k, e => by
   have:=rM (l:=r) (h:=h.push (gm p.1 p.2)) (n:=n) (k:=k+1) (by rw [N7,e];rfl)
   show Value.ref h.objs.size::qF _ r=Value.ref (n+k)::oO n (k+1) r.length
   rw [this,e]
abbrev Bf (h:Heap)(l:jj):Heap:=(gV h l).push (iW (qF h l).toArray)
abbrev tN (h:Heap)(l:jj):Heap:=(Bf h l).push (iW (l.map fun _=>Value.none).toArray)
abbrev pD (h:Heap)(l:jj):Heap:=(tN h l).push {cls:=.type "zip",data:=.fields #[.none,.bool false,.bool false,.ref (gV h l).objs.size,.ref (Bf h l).objs.size]}
theorem tM (h:Heap){l:jj}{m:Nat}(hl:l.length=m+1):(tN h l).objs.size=h.objs.size+(m+1)+2/\qQ h.objs.size m l 0 (pD h l)/\∀c o,h.get? c=some o->(pD h l).get? c=some o:=by
 have s0:(gV h l).objs.size=h.objs.size+(m+1):=by rw [nP,hl]
 have s1:(Bf h l).objs.size=h.objs.size+(m+1)+1:=by rw [N7,s0]
 have s2:(tN h l).objs.size=h.objs.size+(m+1)+2:=by rw [N7,s1]
 have up:∀{c:Nat}{o},(gV h l).get? c=some o->(pD h l).get? c=some o:=fun e=>L3 _ (L3 _ (L3 _ e))
 have g1:(pD h l).get? (gV h l).objs.size=some _:=L3 _ (L3 _ (Mo _ rfl))
 have g2:(pD h l).get? (Bf h l).objs.size=some _:=L3 _ (Mo _ rfl)
 have g3:(pD h l).get? (tN h l).objs.size=some _:=Mo _ rfl
 rw [s0,rM (Nat.add_zero _).symm,hl] at g1
 rw [s1] at g2
 rw [s2,s1,s0] at g3
 exact ⟨s2,⟨g3,g1,⟨_,by simp [hl],g2⟩,fun j b a e=>jl.new (up (pW e))⟩,fun c o e=>up (kM e)⟩
theorem vt (b0:Bool)(a0:Nat)(b1:Bool)(a1:Nat)(xs0 xs1:Array LY) :
 Meets (Builtin.«zip.__new__» ⟨[.type "zip",.ref a0,.ref a1],[]⟩) (fun _ R s=>bK b0 s.heap a0 xs0/\bK b1 s.heap a1 xs1/\
  R (.ok (.ret (.ref (tN s.heap [(b0,a0),(b1,a1)]).objs.size))) {s with heap:=pD s.heap [(b0,a0),(b1,a1)]}):=
 .of_wp fun prog w A R s h=>by
  obtain ⟨hp,g,d,tk,os⟩:=s;obtain ⟨q0,q1,h⟩:=h
  have hsub:=sub_zip
  have L0:bK b0 (Shared.heap ⟨hp,g,d,tk,os⟩) a0 xs0:=q0
  have L1:bK b1 (Shared.heap ⟨hp.push (gm b0 a0),g,d,tk,os⟩) a1 xs1:=(q1).push _
  wp_walk using f6 L0,f6 L1
  exact ⟨_,rfl,h⟩
theorem vq (b0:Bool)(a0:Nat)(b1:Bool)(a1:Nat)(b2:Bool)(a2:Nat)(xs0 xs1 xs2:Array LY) :
 Meets (Builtin.«zip.__new__» ⟨[.type "zip",.ref a0,.ref a1,.ref a2],[]⟩) (fun _ R s=>bK b0 s.heap a0 xs0/\bK b1 s.heap a1 xs1/\bK b2 s.heap a2 xs2/\
  R (.ok (.ret (.ref (tN s.heap [(b0,a0),(b1,a1),(b2,a2)]).objs.size))) {s with heap:=pD s.heap [(b0,a0),(b1,a1),(b2,a2)]}):=
 .of_wp fun prog w A R s h=>by
  obtain ⟨hp,g,d,tk,os⟩:=s;obtain ⟨q0,q1,q2,h⟩:=h
  have hsub:=sub_zip
  have L0:bK b0 (Shared.heap ⟨hp,g,d,tk,os⟩) a0 xs0:=q0
  have L1:bK b1 (Shared.heap ⟨hp.push (gm b0 a0),g,d,tk,os⟩) a1 xs1:=(q1).push _
  have L2:bK b2 (Shared.heap ⟨(hp.push (gm b0 a0)).push (gm b1 a1),g,d,tk,os⟩) a2 xs2:=((q2).push _).push _
  wp_walk using f6 L0,f6 L1,f6 L2
  exact ⟨_,rfl,h⟩
theorem oH (a b c:LY):checkTypeCall "zip" ⟨[a,b,c],[]⟩=pure ():=by kernel_rfl
theorem qx (a b c:LY):checkBuiltinCall "zip.__new__" ⟨[.type "zip",a,b,c],[]⟩=pure ():=by kernel_rfl
theorem lH (a b c d:LY):argsOk "object.__init__" ⟨[a,b,c,d],[]⟩:=by
 unfold argsOk;rw [signature?_of (id:="object.__init__") (n:=['_','_','t','i','n','i','_','_']) (o:=['t','c','e','j','b','o']) (by kernel_rfl) F.owner_object];kernel_rfl
section
variable {prog:Ms}{w:Mv}{A:MZ}{E:LY->L4->Prop}{s:L4}{a0 a1 a2:Nat}{b0 b1 b2:Bool}{xs0 xs1 xs2:Array LY}{Q:LY->L4->Prop}
theorem yL (q0:bK b0 s.heap a0 xs0)(q1:bK b1 s.heap a1 xs1)(h:∀h',qQ s.heap.objs.size 1 [(b0,a0),(b1,a1)] 0 h'->(∀c o,s.heap.get? c=some o->h'.get? c=some o)->Q (.ref (s.heap.objs.size+2+2)) {s with heap:=h'}) :
 wpAny (model prog w) A (call (.type "zip") [.ref a0,.ref a1]) Q E s:=by
 obtain ⟨z,y,x⟩:=tM s.heap (l:=[(b0,a0),(b1,a1)]) (m:=1) rfl
 refine callType_new F.called_zip (by decide) (F.typeCall_zip_2 _ _) (F.newCall_zip_2 _ _) (fun obj=>F.args_object_init_3 obj _ _) F.entry_zip_new (vt b0 a0 b1 a1 xs0 xs1) ⟨q0,q1,?_⟩
 show _/\_
 rw [z]
 exact ⟨⟨_,y.1,rfl⟩,h _ y x⟩
theorem yK (q0:bK b0 s.heap a0 xs0)(q1:bK b1 s.heap a1 xs1)(q2:bK b2 s.heap a2 xs2)(h:∀h',qQ s.heap.objs.size 2 [(b0,a0),(b1,a1),(b2,a2)] 0 h'->(∀c o,s.heap.get? c=some o->h'.get? c=some o)->Q (.ref (s.heap.objs.size+3+2)) {s with heap:=h'}) :
 wpAny (model prog w) A (call (.type "zip") [.ref a0,.ref a1,.ref a2]) Q E s:=by
 obtain ⟨z,y,x⟩:=tM s.heap (l:=[(b0,a0),(b1,a1),(b2,a2)]) (m:=2) rfl
 refine callType_new F.called_zip (by decide) (oH _ _ _) (qx _ _ _) (fun obj=>lH obj _ _ _) F.entry_zip_new (vq b0 a0 b1 a1 b2 a2 xs0 xs1 xs2) ⟨q0,q1,q2,?_⟩
 show _/\_
 rw [z]
 exact ⟨⟨_,y.1,rfl⟩,h _ y x⟩
end
noncomputable def jY (d0 d1:D):Walk:=fun M=>(bL M d0).bind fun y0=>(bL M d1).map fun y1=>gF y0 y1
noncomputable def lY (g0 g1:Env->Mem->Res D):Env->Mem->Res Walk:=fun Z M=>(g0 Z M).bind fun d0 M=>(g1 Z M).bind fun d1 M=>if cT d0&&cT d1 then .ok (jY d0 d1) M else .bad
theorem qU:∀(y0 y1:List D) (i:Nat) (d:D),(gF y0 y1)[i]?=some d↔∃e0 e1,y0[i]?=some e0/\y1[i]?=some e1/\d=.tup [e0,e1]
 |c0::t0,c1::t1,0,d=>by simp [gF,eq_comm]
 | c0 :: t0, c1 :: t1, i + 1, d => by
   have:=qU t0 t1 i d
   simpa [gF] using this
 |[],_,i,d=>by simp [gF]
 |_::_,[],i,d=>by simp [gF]
theorem qT:∀(y0 y1:List D) (i:Nat),(gF y0 y1).length<=i->y0.length<=i\/y1.length<=i
 |c0::t0,c1::t1,0,h=>by simp [gF] at h
 | c0 :: t0, c1 :: t1, i + 1, h => by
   have:=qT t0 t1 i (by simpa [gF] using h)
   simpa using this
 |[],_,i,h=>by simp
 |_::_,[],i,h=>by simp
noncomputable def nz (d0 d1 d2:D):Walk:=fun M=>(bL M d0).bind fun y0=>(bL M d1).bind fun y1=>(bL M d2).map fun y2=>eV y0 y1 y2
noncomputable def lX (g0 g1 g2:Env->Mem->Res D):Env->Mem->Res Walk:=fun Z M=>(g0 Z M).bind fun d0 M=>(g1 Z M).bind fun d1 M=>(g2 Z M).bind fun d2 M=>if cT d0&&cT d1&&cT d2 then .ok (nz d0 d1 d2) M else .bad
theorem pC:∀(y0 y1 y2:List D) (i:Nat) (d:D),(eV y0 y1 y2)[i]?=some d↔∃e0 e1 e2,y0[i]?=some e0/\y1[i]?=some e1/\y2[i]?=some e2/\d=.tup [e0,e1,e2]
 |c0::t0,c1::t1,c2::t2,0,d=>by simp [eV,eq_comm]
 | c0 :: t0, c1 :: t1, c2 :: t2, i + 1, d => by
   have:=pC t0 t1 t2 i d
   simpa [eV] using this
 |[],_,_,i,d=>by simp [eV]
 |_::_,[],_,i,d=>by simp [eV]
 |_::_,_::_,[],i,d=>by simp [eV]
theorem pB:∀(y0 y1 y2:List D) (i:Nat),(eV y0 y1 y2).length<=i->y0.length<=i\/y1.length<=i\/y2.length<=i
 |c0::t0,c1::t1,c2::t2,0,h=>by simp [eV] at h
 | c0 :: t0, c1 :: t1, c2 :: t2, i + 1, h => by
   have:=pB t0 t1 t2 i (by simpa [eV] using h)
   simpa using this
 |[],_,_,i,h=>by simp
 |_::_,[],_,i,h=>by simp
 |_::_,_::_,[],i,h=>by simp
theorem BF {fa:Fa}{K:LX}{μ:Mu}{H:Hp}:∀{es:List D}{ws:List V},es.length=ws.length->(∀(j:Nat) e w,es[j]?=some e->ws[j]?=some w->Rep fa K μ H e w)->aF fa K μ H es ws
 |[],[],_,_=>rfl
 |e::es,w::ws,hl,h=>⟨w,ws,rfl,h 0 e w rfl rfl,BF (by simpa using hl) fun j e w=>h (j+1) e w⟩
theorem qV {fa:Fa}{X:Cx}{μ0:Mu}{H0:Hp}{l:jj}{w:Walk} (hw:∀μ H M ds,ExtW μ0 H0 μ H->RelM fa X.K μ H M->w M=some ds->∃ys:List (List D),ys.length=l.length/\(∀(j:Nat) y b a,ys[j]?=some y->l[j]?=some (b,a)->∃vs,jx X.K H b a vs/\aF fa X.K μ H y vs)/\
 (∀(i:Nat) d,ds[i]?=some d->∃es,d=.tup es/\es.map some=ys.map (·[i]?))/\∀i,ds.length<=i->∃y∈ys,y.length<=i):cY fa X.K μ0 H0 w (Cw X.K l):=fun μ H M ds x hM e=>by
 obtain ⟨ys,hl,hv,hd,he⟩:=hw μ H M ds x hM e
 have at_:∀(j:Nat) b a,l[j]?=some (b,a)->∃y vs,ys[j]?=some y/\jx X.K H b a vs/\aF fa X.K μ H y vs:=fun j b a e=>by
  have hj:=(LZ.mp e).1
  have ey:=Mr (l:=ys) (i:=j) (by omega)
  obtain ⟨vs,q,r⟩:=hv j _ b a ey e
  exact ⟨_,vs,ey,q,r⟩
 refine ⟨fun i d hi=>?_,fun i hi=>⟨fun j b a e=>?_,?_⟩⟩
 ·obtain ⟨es,rfl,ee⟩:=hd i d hi
  have ej:∀{j:Nat}{y:List D},ys[j]?=some y->es[j]?.map some=some y[i]?:=fun {j y} ey=>by
   have:=congrArg (·[j]?) ee
   simpa [ey] using this
  have le:es.length=l.length:=by have:=congrArg List.length ee;simpa [hl] using this
  have it:∀(j:Nat) b a,l[j]?=some (b,a)->∃vs e v,es[j]?=some e/\jx X.K H b a vs/\vs[i]?=some v/\Rep fa X.K μ H e v:=fun j b a e=>by
   obtain ⟨y,vs,ey,q,r⟩:=at_ j b a e
   have z:=ej ey
   cases h:es[j]? with
   |none=>rw [h] at z;cases z
   | some e =>
     rw [h] at z
     obtain ⟨v,hv,rv⟩:=r.get (L9 z).symm
     exact ⟨vs,e,v,rfl,q,hv,rv⟩
  refine ⟨fun j b a e=>?_,fun y H' ⟨p,zs,hp,ey,eH,lz,t⟩=>?_⟩
  ·obtain ⟨vs,_,v,_,q,hv,_⟩:=it j b a e
   exact ⟨vs,v,q,hv⟩
  subst eH ey
  refine ⟨Ext.alloc hM hp,hM.alloc hp,p,zs,rfl,.inl (.inl bw),BF (le.trans lz.symm) fun j e w ee ew=>?_⟩
  have el:=Mr (l:=l) (i:=j) (by have:=(LZ.mp ee).1;omega)
  obtain ⟨vs,e',v,h1,q,hv,rv⟩:=it j _ _ el
  have z:=t j _ _ el vs q
  rw [ew,hv] at z
  rw [ee] at h1
  cases z;cases h1
  exact rv.ext (Ext.alloc hM hp)
 ·obtain ⟨_,vs,_,q,_⟩:=at_ j b a e
  exact ⟨vs,q⟩
 ·obtain ⟨y,hy,ly⟩:=he i hi
  obtain ⟨j,ej⟩:=List.getElem?_of_mem hy
  have el:=Mr (l:=l) (i:=j) (by have:=(LZ.mp ej).1;omega)
  obtain ⟨vs,q,r⟩:=hv j y _ _ ej el
  exact ⟨j,_,_,vs,el,q,by rw [r.length];exact ly⟩
section
variable {fa:Fa}{X:Cx}{μ0:Mu}{H0:Hp}{d0 d1 d2:D}{a0 a1 a2:Nat}(r0:Rep fa X.K μ0 H0 d0 (.ref a0))(r1:Rep fa X.K μ0 H0 d1 (.ref a1))(r2:Rep fa X.K μ0 H0 d2 (.ref a2))
include r0 r1
theorem wm:cY fa X.K μ0 H0 (jY d0 d1) (Cw X.K [(dD d0,a0),(dD d1,a1)]):=qV fun μ H M ds x hM e=>by
 obtain ⟨y0,s0,e⟩:=Nn.mp e
 obtain ⟨y1,s1,rfl⟩:=MF.mp e
 refine ⟨[y0,y1],rfl,fun j y b a ey el=>?_,fun i d hd=>?_,fun i hi=>?_⟩
 ·match j,ey,el with
  |0,ey,el=>cases ey;cases el;exact gJ hM (Rep.extW x r0) s0
  |1,ey,el=>cases ey;cases el;exact gJ hM (Rep.extW x r1) s1
 ·obtain ⟨e0,e1,h0,h1,rfl⟩:=(qU y0 y1 i d).mp hd
  exact ⟨_,rfl,by simp [h0,h1]⟩
 ·rcases qT y0 y1 i hi with z|z<;>exact ⟨_,by simp,z⟩
include r2
theorem wj:cY fa X.K μ0 H0 (nz d0 d1 d2) (Cw X.K [(dD d0,a0),(dD d1,a1),(dD d2,a2)]):=qV fun μ H M ds x hM e=>by
 obtain ⟨y0,s0,e⟩:=Nn.mp e
 obtain ⟨y1,s1,e⟩:=Nn.mp e
 obtain ⟨y2,s2,rfl⟩:=MF.mp e
 refine ⟨[y0,y1,y2],rfl,fun j y b a ey el=>?_,fun i d hd=>?_,fun i hi=>?_⟩
 ·match j,ey,el with
  |0,ey,el=>cases ey;cases el;exact gJ hM (Rep.extW x r0) s0
  |1,ey,el=>cases ey;cases el;exact gJ hM (Rep.extW x r1) s1
  |2,ey,el=>cases ey;cases el;exact gJ hM (Rep.extW x r2) s2
 ·obtain ⟨e0,e1,e2,h0,h1,h2,rfl⟩:=(pC y0 y1 y2 i d).mp hd
  exact ⟨_,rfl,by simp [h0,h1,h2]⟩
 ·rcases pB y0 y1 y2 i hi with z|z|z<;>exact ⟨_,by simp,z⟩
end
theorem Eu {fa:Fa}{X:Cx}{elts:List Expr}{kk:Nat}{tp p pos:Pos}{e0 e1:Expr}{g0 g1:Env->Mem->Res D}(h0:DE fa X e0 g0)(h1:DE fa X e1 g1)(hg:Gl X "zip")(hm:X.mg "zip"=none)
 (hs0:starEach [e0,e1] X.env=[(false,eval e0 X.env),(false,eval e1 X.env)]) (hs1:starEach [e1] X.env=[(false,eval e1 X.env)]):DI fa X (.Tuple elts kk tp) (.Call (.Name "zip" p) [e0,e1] [] pos) (lY g0 g1):=by
 intro pins s σ H R I ⟨μ,Z,M,hE,hM,h⟩
 obtain ⟨d0,M0,c0,t0⟩:=aJ h
 obtain ⟨d1,M1,c1,t1⟩:=aJ t0
 split at t1
 ·next hsq=>
  simp only [L6] at hsq
  obtain ⟨hq0,hq1⟩:=hsq
  refine Call_ (gk I hg hm boot_zip (Nf (aP (cH h0 (cH h1 fi hs1) (by rw [hs0,hs1]) pos pins s σ H (fun vs H1=>∃v0 v1 μ1,vs=[v0,v1]/\Ext μ H μ1 H1/\RelM fa X.K μ1 H1 M1/\Rep fa X.K μ1 H1 d0 v0/\Rep fa X.K μ1 H1 d1 v1) I ?_) fun us s1 ⟨vs,H1,I1,r1,v0,v1,μ1,ev,x1,m1,rv0,rv1⟩=>?_) (by rw [hs0,hs1]) (by rw [hs1];rfl)))
  ·refine ⟨μ,Z,M,hE,hM,?_⟩
   rw [c0]
   intro v0 H1 μ1 x1 m1 r0
   refine ⟨μ1,Z,M0,(hE.ext x1),m1,?_⟩
   rw [c1]
   intro v1 H2 μ2 x2 m2 r1
   exact ⟨v0,v1,μ2,rfl,(x1.trans x2),m2,(r0.ext x2),r1⟩
  subst ev
  obtain ⟨a0,its0,rfl,z0⟩:=iZ I1 m1 rv0 hq0
  obtain ⟨a1,its1,rfl,z1⟩:=iZ I1 m1 rv1 hq1
  cases r1 with
  | cons y0 r1 =>
    cases r1 with
    | cons y1 r1 =>
      cases r1
      obtain rfl:=y0
      obtain rfl:=y1
      refine yL z0 z1 fun h1 za hk=>?_
      have I2:Inv X pins σ H1 {s1 with heap:=h1}:=I1.kept (t':=s1.toks) hk
      refine wpAny_pyIter_zip (s:={s1 with heap:=h1}) za.1 ?_
      refine ⟨s1.heap.objs.size+2+2,Bg s1.heap.objs.size 1,_,_,H1,rfl,I2,qW s1.heap.objs.size 1 [(dD d0,a0),(dD d1,a1)] rfl (by decide) (fun j b a e=>match j,e with
       |0,e=>by cases e;exact z0.lt
       |1,e=>by cases e;exact z1.lt),za,fun b hb=>?_,t1 _ H1 μ1 x1 m1 (wm rv0 rv1)⟩
      have hb:=(c7.mp hb).1
      exact I1.fpOk hb (I1.hok.fresh hb)
 ·exact t1.elim
theorem Et {fa:Fa}{X:Cx}{elts:List Expr}{kk:Nat}{tp p pos:Pos}{e0 e1 e2:Expr}{g0 g1 g2:Env->Mem->Res D}(h0:DE fa X e0 g0)(h1:DE fa X e1 g1)(h2:DE fa X e2 g2)(hg:Gl X "zip")(hm:X.mg "zip"=none)
 (hs0:starEach [e0,e1,e2] X.env=[(false,eval e0 X.env),(false,eval e1 X.env),(false,eval e2 X.env)]) (hs1:starEach [e1,e2] X.env=[(false,eval e1 X.env),(false,eval e2 X.env)]) (hs2:starEach [e2] X.env=[(false,eval e2 X.env)]):DI fa X (.Tuple elts kk tp) (.Call (.Name "zip" p) [e0,e1,e2] [] pos) (lX g0 g1 g2):=by
 intro pins s σ H R I ⟨μ,Z,M,hE,hM,h⟩
 obtain ⟨d0,M0,c0,t0⟩:=aJ h
 obtain ⟨d1,M1,c1,t1⟩:=aJ t0
 obtain ⟨d2,M2,c2,t2⟩:=aJ t1
 split at t2
 ·next hsq=>
  simp only [L6,and_assoc] at hsq
  obtain ⟨hq0,hq1,hq2⟩:=hsq
  refine Call_ (gk I hg hm boot_zip (Nf (aP (cH h0 (cH h1 (cH h2 fi hs2) (by rw [hs1,hs2])) (by rw [hs0,hs1]) pos pins s σ H (fun vs H1=>∃v0 v1 v2 μ1,vs=[v0,v1,v2]/\Ext μ H μ1 H1/\RelM fa X.K μ1 H1 M2/\Rep fa X.K μ1 H1 d0 v0/\Rep fa X.K μ1 H1 d1 v1/\Rep fa X.K μ1 H1 d2 v2) I ?_) fun us s1 ⟨vs,H1,I1,r1,v0,v1,v2,μ1,ev,x1,m1,rv0,rv1,rv2⟩=>?_) (by rw [hs0,hs1]) (by rw [hs1];rfl)))
  ·refine ⟨μ,Z,M,hE,hM,?_⟩
   rw [c0]
   intro v0 H1 μ1 x1 m1 r0
   refine ⟨μ1,Z,M0,(hE.ext x1),m1,?_⟩
   rw [c1]
   intro v1 H2 μ2 x2 m2 r1
   refine ⟨μ2,Z,M1,((hE.ext x1).ext x2),m2,?_⟩
   rw [c2]
   intro v2 H3 μ3 x3 m3 r2
   exact ⟨v0,v1,v2,μ3,rfl,((x1.trans x2).trans x3),m3,((r0.ext x2).ext x3),(r1.ext x3),r2⟩
  subst ev
  obtain ⟨a0,its0,rfl,z0⟩:=iZ I1 m1 rv0 hq0
  obtain ⟨a1,its1,rfl,z1⟩:=iZ I1 m1 rv1 hq1
  obtain ⟨a2,its2,rfl,z2⟩:=iZ I1 m1 rv2 hq2
  cases r1 with
  | cons y0 r1 =>
    cases r1 with
    | cons y1 r1 =>
      cases r1 with
      | cons y2 r1 =>
        cases r1
        obtain rfl:=y0
        obtain rfl:=y1
        obtain rfl:=y2
        refine yK z0 z1 z2 fun h1 za hk=>?_
        have I2:Inv X pins σ H1 {s1 with heap:=h1}:=I1.kept (t':=s1.toks) hk
        refine wpAny_pyIter_zip (s:={s1 with heap:=h1}) za.1 ?_
        refine ⟨s1.heap.objs.size+3+2,Bg s1.heap.objs.size 2,_,_,H1,rfl,I2,qW s1.heap.objs.size 2 [(dD d0,a0),(dD d1,a1),(dD d2,a2)] rfl (by decide) (fun j b a e=>match j,e with
         |0,e=>by cases e;exact z0.lt
         |1,e=>by cases e;exact z1.lt
         |2,e=>by cases e;exact z2.lt),za,fun b hb=>?_,t2 _ H1 μ1 x1 m1 (wj rv0 rv1 rv2)⟩
        have hb:=(c7.mp hb).1
        exact I1.fpOk hb (I1.hok.fresh hb)
 ·exact t2.elim
end LD
namespace LD
open PySem PySem.Spec PyProof.Rows L2
abbrev GE:=Env->Mem->Res D
abbrev GT:=Env->Mem->Res Bool
abbrev GA:=Env->Mem->Res (List D)
abbrev GW:=Env->Mem->Res Walk
abbrev GS:=Env->Mem->Res Fl
abbrev GB:=Env->List D->Mem->Res (List D)
abbrev Call:=Nat->List D->Mem->Res D
noncomputable def aa (i:Nat):GE:=fun Z M=>bR M (Z[i]?.getD none)
noncomputable def gC (d:D):GE:=fun _ M=>.ok d M
noncomputable def aw (m:Bool)(o:mI)(a b:GE):GE:=fun Z M=>(a Z M).bind fun x M=>(b Z M).bind fun y M=>gL m o x y M
noncomputable def aU (o:iw)(a b:GE):GE:=fun Z M=>(a Z M).bind fun x M=>(b Z M).bind fun y M=>(bR M (bJ o x y M)).bind fun b M=>.ok (.bl b) M
noncomputable def sE (o o':iw)(a b c:GE):GE:=fun Z M=>(a Z M).bind fun x M=>(b Z M).bind fun y M=>(bR M (bJ o x y M)).bind fun k M=>
 if k then (c Z M).bind fun z M=>(bR M (bJ o' y z M)).bind fun b M=>.ok (.bl b) M else .ok (.bl false) M
noncomputable def gp (a:GE):GE:=fun Z M=>(a Z M).bind fun x M=>match x with|.int i=>.ok (.int (-i)) M|_=>.bad
noncomputable def dM (a b:GE):GE:=fun Z M=>(a Z M).bind fun x M=>match x with|.bl true=>b Z M|.bl false=>.ok (.bl false) M|_=>.bad
noncomputable def Ka (a b:GE):GE:=fun Z M=>(a Z M).bind fun x M=>match x with|.bl true=>.ok (.bl true) M|.bl false=>b Z M|_=>.bad
noncomputable def Li (a:GE):GE:=fun Z M=>(a Z M).bind fun x M=>match x with|.bl k=>.ok (.bl (!k)) M|_=>.bad
noncomputable def jd (t:GT)(a b:GE):GE:=fun Z M=>(t Z M).bind fun k M=>if k then a Z M else b Z M
noncomputable def ay (a b:GE):GE:=fun Z M=>(a Z M).bind fun x M=>(b Z M).bind fun y M=>bR M (cu x y M)
noncomputable def dg (m hl hh:Bool)(a lo hi:GE):GE:=fun Z M=>(a Z M).bind fun x M=>(lo Z M).bind fun l M=>(hi Z M).bind fun h M=>if c9 hl l&&c9 hh h then fE m x l h M else .bad
noncomputable def ah:GA:=fun _ M=>.ok [] M
noncomputable def ae (a:GE)(s:GA):GA:=fun Z M=>(a Z M).bind fun x M=>(s Z M).bind fun xs M=>.ok (x::xs) M
noncomputable def cv (s:GA):GE:=fun Z M=>(s Z M).bind ka
noncomputable def bA (m:Bool)(s:GA):GE:=fun Z M=>(s Z M).bind (a9 m)
noncomputable def au (f:Nat)(c:Call)(s:GA):GE:=fun Z M=>(s Z M).bind fun ds M=>c f ds M
noncomputable def k9 (i:Nat)(c:Call)(s:GA):GE:=fun Z M=>match Z[i]?.getD none with|some (.fn f)=>(s Z M).bind fun ds M=>c f ds M|_=>.bad
noncomputable def aV (f:tD)(s:GA):GE:=fun Z M=>(s Z M).bind fun ds M=>dq f ds M
noncomputable def cx (t:Ty)(a:GE):GE:=fun Z M=>(a Z M).bind fun x M=>(bR M (dA t x)).bind fun b M=>.ok (.bl b) M
noncomputable def aE (a:GE):GT:=fun Z M=>(a Z M).bind fun x M=>bR M (jA M x)
noncomputable def iX (a b:GT):GT:=fun Z M=>(a Z M).bind fun k M=>if k then b Z M else .ok false M
noncomputable def hX (a b:GT):GT:=fun Z M=>(a Z M).bind fun k M=>if k then .ok true M else b Z M
noncomputable def bP (a:GT):GT:=fun Z M=>(a Z M).bind fun k M=>.ok (!k) M
noncomputable def aH (t:cD)(a:GE):GS:=fun Z M=>(a Z M).bind fun x M=>(bR M (b7 t x Z)).bind fun ρ1 M=>.ok (.next ρ1) M
noncomputable def cE (a b d:GE):GS:=fun Z M=>(d Z M).bind fun z M=>(a Z M).bind fun x M=>(b Z M).bind fun y M=>match x,y with
 | .cell k, .int n => match M[k]? with
   | some ds => match bz ds.length n with
     |some j=>.ok (.next Z) (M.set k (ds.set j z))
     |none=>.bad
   |none=>.bad
 |_,_=>.bad
noncomputable def dU (a d:GE):GS:=fun Z M=>(a Z M).bind fun x M=>(d Z M).bind fun z M=>match x with
 | .cell k => match M[k]? with
   |some ds=>if ds.length<sz then .ok (.next Z) (M.set k (ds++[z])) else .bad
   |none=>.bad
 |_=>.bad
noncomputable def sEx (a:GE):GS:=fun Z M=>(a Z M).bind fun _ M=>.ok (.next Z) M
noncomputable def aN (a:GE):GS:=fun Z M=>(a Z M).bind fun x M=>.ok (.ret x) M
noncomputable def BD:GS:=fun _ M=>.ok (.ret .non) M
noncomputable def BE:GS:=fun Z M=>.ok (.next Z) M
noncomputable def Kw:GS:=fun _ _=>.bad
noncomputable def aS (c:GT)(a b:GS):GS:=fun Z M=>(c Z M).bind fun k M=>if k then a Z M else b Z M
noncomputable def eJ (t:cD)(w:GW)(b:GS):GS:=fun Z M=>(w Z M).bind fun w M=>c6 (fW t b) w (.next Z) M
noncomputable def aj:GS:=fun Z M=>.ok (.next Z) M
noncomputable def af (a b:GS):GS:=fun Z M=>(a Z M).bind fun fl M=>match fl with
 |.next Z=>b Z M
 |fl=>.ok fl M
noncomputable def notStar:Expr->Bool
 |.Starred _ _=>false
 |_=>true
theorem bh {a:Expr}{es:List Expr}{env:MN}(h:notStar a=true):starEach (a::es) env=(false,eval a env)::starEach es env:=by
 cases a<;>first|rfl|cases h
theorem b9 {pos:Pos}{env:MN}:∀{es:List Expr},es.all notStar=true->(backTo pos (starEach es env)).any (·.1)=false
 |[],_=>rfl
 | a :: es, h => by
   simp only [MS,L6] at h
   have ih:=b9 (pos:=pos) (env:=env) h.2
   rw [bh h.1]
   simpa [backTo] using ih
section
variable {fa:Fa}{X:Cx}{a b d:Expr}{ga gb gd:GE}{ta tb:GT}{pos p:Pos}{es:List Expr}{gs:GA}{n:Nat}
theorem FG {x:Str}{i:Int}{t:Tok}(hg:Gl X x)(hm:X.mg x=some (.int i t))(hd:(x==("__debug__":Str))=false):DE fa X (.Name x pos) (gC (.int i)):=iT (v:=.int i) (jM hg hm ⟨t,rfl⟩ hd) fun _ _=>rfl
end
structure Df where
 params:Nat
 slots:Nat
 body:Call->GS
noncomputable def Ll:Fl->Mem->Res D
 |.ret d,M=>.ok d M
 |.next _,M=>.ok .non M
 |.exc x _,M=>.err x M
noncomputable def Lk:Res Fl->Res D
 |.ok fl M=>Ll fl M
 |_=>.bad
noncomputable def ig (c:Call)(d:Df)(ds:List D)(M:Mem):Res D:=if ds.length=d.params then Lk (d.body c (ds.map some++List.replicate (d.slots-ds.length) none) M) else .bad
noncomputable def ak (P:Nat->Option Df):Nat->Call
 |0,_,_,_=>.bad
 | n + 1, f, ds, M => match P f with
   |none=>.bad
   |some d=>ig (ak P n) d ds M
structure wd (fa:Fa) (P:Ms) (w:Mv) (K:LX) (mg:Str->Option LY) (base:Heap) (f:Nat) (d:Df):Prop where
 ex:∃(ad:Addr) (fd:N8) (ps N:List Str) (st:Stmt) (x qual:Str),fa f=some ad/\oE K x qual st ad fd/\Binds K fd ps []/\fU N ps (aK st)/\d.params=ps.length/\d.slots=N.length/\
  ∀(call:Call) (n:Nat) (cdv:LY) (A:MZ) (outer:List MN) (s:L4) (H:Hp) (E:XK),(∀f,eA fa P w K mg base n f (call f))->bC (2*n+5) (A.deeper (envOfC qual (aK st) s.heap.objs.size ad cdv))->
   mG fa (dY (fu P w) P w K mg base N qual (aK st) ad cdv A outer s H E) (cp st) (d.body call)
theorem wU {fa:Fa}{K:LX}{μ:Mu}{H:Hp}{N:List Str}{ds:List D}{vs:List V}(h:aF fa K μ H ds vs):a7 fa K μ H (L2.start N vs) (ds.map some++List.replicate (N.length-ds.length) none):=by
 have hl:=h.length
 refine ⟨by unfold L2.start;simp [hl],fun i d e=>?_⟩
 by_cases hi:i<ds.length
 ·rw [Mw (by simpa using hi),MU] at e
  cases e1:ds[i]? with
  |none=>rw [e1] at e;cases e
  | some d' =>
    rw [e1] at e
    cases e
    obtain ⟨v,hv,rv⟩:=h.get e1
    refine ⟨v,?_,rv⟩
    unfold L2.start
    rw [Mw (by simp;omega),MU,hv]
    rfl
 ·rw [ME (by simp;omega),NP] at e
  split at e<;>cases e
theorem oY {P:Ms}{w:Mv}{K:LX}{mg:Str->Option LY}{base:Heap}{x qual:Str}{st:Stmt}{f:Addr}{fd:N8}{N ps:List Str}{k:Nat}{sp:Sp}(F:oE K x qual st f fd)(S:fU N ps (aK st))(len:∀vs H Q E,sp vs H Q E->vs.length=ps.length)
 (hbody:∀(cdv:LY) (A:MZ) (outer:List MN) (s:L4) (H:Hp) (vs:List V) (Q:VK) (E:XK),bC k (A.deeper (envOfC qual (aK st) s.heap.objs.size f cdv))->sp vs H Q E->
  ∃t,lI (dY (fu P w) P w K mg base N qual (aK st) f cdv A outer s H E) (cp st) t/\t {nx:=fun _ H'=>Q .non H',rt:=Q} (start N vs) H):fG P w K mg base (fu P w) (k+1) f fd ps sp:=by
 obtain ⟨oc,od,kV,doc,pm,an,cdv,ct,osl,rfl,lk,hcd⟩:=F.ex
 exact I9 lk hcd S len fun A outer s H vs Q E hr hsp=>hbody cdv A outer s H vs Q E hr hsp
theorem qg {fa:Fa}{P:Ms}{w:Mv}{K:LX}{mg:Str->Option LY}{base:Heap}{N:List Str}{qual:Str}{scope:Scope}{f:Addr}{cd:LY}{A:MZ}{outer:List MN}{s:L4}{H:Hp}{E:XK}{Q:VK}{d:Df}{c:Call}{ds:List D}{vs:List V}{μ:Mu}{M:Mem}
 (hs:d.slots=N.length) (hM:RelM fa K μ H M) (hr:aF fa K μ H ds vs) (hq:kB (ig c d ds M) (aZ fa K μ H Q) (v9 fa K μ H E)):tF fa (dY (fu P w) P w K mg base N qual scope f cd A outer s H E) (d.body c) {nx:=fun _ H'=>Q .non H',rt:=Q} (start N vs) H:=by
 unfold ig at hq
 split at hq
 ·refine ⟨μ,_,M,wU hr,hM,?_⟩
  rw [<- hs]
  cases e1:d.body c (ds.map some++List.replicate (d.slots-ds.length) none) M with
  | ok fl M1 =>
    rw [e1] at hq
    cases fl with
    | next ρ' =>
      have q1:aZ fa K μ H Q .non M1:=hq
      exact fun σ' H' μ' x' e' m'=>q1 .non H' μ' x' m' rfl
    |ret d=>exact hq
    | exc x ρ' =>
      have q1:v9 fa K μ H E x M1:=hq
      exact fun pins σ' H' μ' s' a C dx c p I y _ m ex hc hn fl=>Aw I fl (q1 C dx c p H' μ' y m ex hc hn)
  |err=>rw [e1] at hq;exact hq.elim
  |bad=>rw [e1] at hq;exact hq.elim
 ·exact hq.elim
theorem sS {fa:Fa}{P:Ms}{w:Mv}{K:LX}{mg:Str->Option LY}{base:Heap}{Pg:Nat->Option Df}(h:∀f d,Pg f=some d->wd fa P w K mg base f d):∀(n f:Nat),eA fa P w K mg base n f (ak Pg n f)
 |0,f=>.inl fun _ _=>rfl
 | n + 1, f => by
   have ih:=sS h n
   cases e:Pg f with
   |none=>exact .inl fun ds M=>by show (match Pg f with|none=>Res.bad|some d=>ig (ak Pg n) d ds M)=Res.bad;rw [e]
   | some d =>
     have eq:∀ds M,ak Pg (n+1) f ds M=ig (ak Pg n) d ds M:=fun ds M=>by show (match Pg f with|none=>Res.bad|some d=>ig (ak Pg n) d ds M)=_;rw [e]
     obtain ⟨ad,fd,ps,N,st,x,qual,h1,F,hb,S,hp,hs,hbody⟩:=(h f d e).ex
     refine .inr ⟨ad,fd,ps,h1,F.kp,hb,fun ds M hl=>?_,?_⟩
     ·rw [eq];unfold ig;rw [if_neg (by rw [hp];exact hl)]
     ·refine oY (k:=2*n+5) F S (fun vs H Q E hsp=>hsp.1) fun cdv A outer s H vs Q E hr hsp=>⟨_,hbody (ak Pg n) n cdv A outer s H E ih hr,?_⟩
      obtain ⟨hl,μ,M,ds,hM,hr,hq⟩:=hsp
      rw [eq] at hq
      exact qg hs hM hr hq
end LD
namespace LD
open PySem PySem.Spec PyProof.Rows L2
noncomputable def nt (P:Nq)(e:N0)(kv:Str×Addr):Prop:=∃t,e=⟨PyData.keyHash P kv.1,.str kv.1 t,.ref kv.2⟩
structure fg (K:LX) (P:Nq) (a:Addr) (kvs:List (Str×Addr)):Prop where
 ex:∃(es:Array N0) (n:Nat),K.lookup a=some {cls:=.type "dict",data:=.dict es n}/\N6 (nt P) es.toList kvs
 nd:(kvs.map (·.1)).Nodup
 ns:(a==sysModules)=false
noncomputable def uA (kvs:List (Str×Addr)):List (Key×LY):=kvs.map fun kv=>(Sum.inr kv.1,.ref kv.2)
theorem sI {P:Nq}:∀{es:List N0}{kvs:List (Str×Addr)},N6 (nt P) es kvs->∀e∈es,∃x t,e.key=.str x t/\e.hash=PyData.keyHash P x
 |_,_,.nil,e,h=>nomatch h
 | _, _, .cons r t, e, h => by
   rcases MJ.mp h with z|z
   ·subst z;obtain ⟨t,rfl⟩:=r;exact ⟨_,t,rfl,rfl⟩
   ·exact sI t e z
theorem oq {prog:Ms}{w:Mv}:∀{es:List N0}{kvs:List (Str×Addr)},N6 (nt w.params) es kvs->Pairs (jQ prog w) es (uA kvs)
 |_,_,.nil=>.nil
 | e :: es, kv :: kvs, .cons r t => by
   obtain ⟨u,rfl⟩:=r
   exact Pairs.cons (kv:=((Sum.inr kv.1:Key),Value.ref kv.2)) (jq kv.1 u) rfl (oq t)
theorem so {X:Cx}{pins:List (Addr×Obj)}{σ:L2.St}{H:Hp}{s:L4}{a:Addr}{kvs:List (Str×Addr)}(I:Inv X pins σ H s)(h:fg X.K X.w.params a kvs):s.heap.DictOf (jQ X.prog X.w) a (uA kvs):=by
 obtain ⟨es,n,lk,pr⟩:=h.ex
 refine ⟨_,es,n,I.kIn _ _ lk,⟨rfl,rfl,rfl⟩,rfl,fun e he=>?_,oq pr,?_⟩
 ·obtain ⟨x,t,e1,e2⟩:=sI pr e (by simpa using he)
  exact ⟨Sum.inr x,by rw [e1];exact jq x t,e2⟩
 ·have e:(uA kvs).map (·.1)=(kvs.map (·.1)).map Sum.inr:=by unfold uA;simp
  rw [e]
  exact List.Pairwise.map _ (fun a b (n:a≠b) z=>n (Sum.inr.inj z)) h.nd
theorem yc (kvs:List (Str×Addr))(k:Str):valueAt (uA kvs) (Sum.inr k:Key)=(kvs.lookup k).map Value.ref:=by
 induction kvs with
 |nil=>rfl
 | cons kv r ih =>
   unfold valueAt uA at ih ⊢
   rw [Nd,List.find?_cons,MK]
   by_cases e:kv.1=k
   ·subst e;simp
   ·have e2:decide ((Sum.inr kv.1:Key)=Sum.inr k)=false:=decide_eq_false fun z=>e (Sum.inr.inj z)
    have e3:(k==kv.1)=false:=MP.mpr (Ng e)
    rw [e2,e3]
    exact ih
noncomputable def dI (fa:Fa)(kvs:List (Str×Addr))(fs:List (Str×Nat)):Prop:=N6 (fun (p:Str×Addr) (q:Str×Nat)=>p.1=q.1/\fa q.2=some p.2) kvs fs
theorem dI.look {fa:Fa}{k:Str}:∀{kvs:List (Str×Addr)}{fs:List (Str×Nat)},dI fa kvs fs->(fs.lookup k=none/\kvs.lookup k=none)\/∃f ad,fs.lookup k=some f/\kvs.lookup k=some ad/\fa f=some ad
 |_,_,.nil=>.inl ⟨rfl,rfl⟩
 | (x, a) :: r, (y, f) :: t, .cons ⟨e1, e2⟩ q => by
   have e1:x=y:=e1
   subst e1
   rw [MK,MK]
   cases e:k==x with
   |true=>exact .inr ⟨f,a,rfl,rfl,e2⟩
   |false=>exact dI.look q
noncomputable def kn (fs:List (Str×Nat))(i:GE):GE:=fun Z M=>(i Z M).bind fun d M=>match d with
 |.str k=>bR M ((fs.lookup k).map D.fn)
 |_=>.bad
noncomputable def iG (fs:List (Str×Nat))(i:GE):GE:=fun Z M=>(i Z M).bind fun d M=>match d with
 |.str k=>.ok (.bl (!(fs.lookup k).isSome)) M
 |_=>.bad
section
variable {fa:Fa}{X:Cx}{a b:Expr}{ga gb:GE}{pos p:Pos}{ad:Addr}{kvs:List (Str×Addr)}{fs:List (Str×Nat)}{x:Str}
theorem AG (hd:fg X.K X.w.params ad kvs):jW X (fun x y H Q=>∃k v,x=.ref ad/\y=.str k/\kvs.lookup k=some v/\Q (.ref v) H):=by
 intro value slice pins s σ H x y v u Q I rx ry h hs
 obtain ⟨k,c,rfl,rfl,hk,q⟩:=h
 cases rx
 obtain ⟨t,rfl⟩:=ry
 have dd:=so I hd
 have hT:s.TypeIs (.ref ad) "dict":=let ⟨o,_,_,ho,⟨hc,_⟩,_⟩:=dd;⟨o,ho,hc⟩
 refine tail_any hT PySem.F.slot_dict_getitem.lookup (wpAny_getItem_of (k:=(Sum.inr k:Key)) (jq k t) dd.mapOf (v:=.ref c) ?_ ?_) hs
 ·rw [yc,hk];rfl
 ·exact ⟨.ref c,H,I.tok _,rfl,q⟩
theorem rT (hd:fg X.K X.w.params ad kvs):bD X (compareOp .NotIn) (fun x y H Q=>∃k,x=.str k/\y=.ref ad/\Q (.bl (!(kvs.lookup k).isSome)) H):=by
 intro pins s σ H x y v u Q I rx ry h
 obtain ⟨k,rfl,rfl,q⟩:=h
 obtain ⟨t,rfl⟩:=rx
 cases ry
 have dd:=so I hd
 refine wpAny_notIn_of (k:=(Sum.inr k:Key)) (jq k t) hd.ns dd.mapOf ?_
 rw [yc,Option.isSome_map]
 exact ⟨.bl _,H,I.tok _,rfl,q⟩
theorem FI (hd:fg X.K X.w.params ad kvs)(ho:dI fa kvs fs)(hg:Gl X x)(hm:X.mg x=some (.ref ad))(hdb:(x==("__debug__":Str))=false)(hb:DE fa X b gb)(hs:jV b):DE fa X (.Subscript (.Name x p) b pos) (kn fs gb):=
 br (BI (AG hd) (jM (v:=.ref ad) hg hm rfl hdb) hb hs) fun σ H Q ⟨μ,Z,M,hE,hM,h⟩=>t1 hE hM h fun d M1 v H1 μ1 x1 hE1 hM1 r1 h1=>by
  cases d with
  | str k =>
    obtain ⟨d,e,q⟩:=jN h1
    rcases ho.look (k:=k) with ⟨e1,_⟩|⟨f,c,e1,e2,e3⟩
    ·rw [e1] at e;cases e
    ·rw [e1] at e
     cases e
     exact ⟨k,c,rfl,r1,e2,q (.ref c) H1 μ1 x1 hM1 ⟨c,rfl,.inl e3⟩⟩
  |_=>exact h1.elim
theorem Al {d:D}{M1:Mem}{P:D->Mem->Prop}(h:ag (match d with|.str k=>Res.ok (.bl (!(fs.lookup k).isSome)) M1|_=>.bad) P):∃k,d=.str k/\P (.bl (!(fs.lookup k).isSome)) M1:=by
 cases d with
 |str k=>exact ⟨k,rfl,h⟩
 |_=>exact h.elim
theorem AY (ho:dI fa kvs fs)(k:Str):(kvs.lookup k).isSome=(fs.lookup k).isSome:=by
 rcases ho.look (k:=k) with ⟨e1,e2⟩|⟨f,c,e1,e2,_⟩<;>rw [e1,e2]<;>rfl
theorem yr (ho:dI fa kvs fs)(σ:L2.St)(H:Hp)(Q:VK)(h:tE fa X.K (iG fs ga) σ H Q):wO (fun x y H Q=>∃k,x=.str k/\y=.ref ad/\Q (.bl (!(kvs.lookup k).isSome)) H) (tE fa X.K ga) (tC (.ref ad)) σ H Q:=by
 obtain ⟨μ,Z,M,hE,hM,h⟩:=h
 refine t1 hE hM h fun d M1 v H1 μ1 x1 hE1 hM1 r1 h1=>?_
 obtain ⟨k,rfl,q⟩:=Al h1
 refine ⟨k,r1,rfl,?_⟩
 rw [AY ho]
 exact q (.bl _) H1 μ1 x1 hM1 rfl
theorem FH (hd:fg X.K X.w.params ad kvs)(ho:dI fa kvs fs)(hg:Gl X x)(hm:X.mg x=some (.ref ad))(hdb:(x==("__debug__":Str))=false)(ha:DE fa X a ga)(hmk:behindInMarks .NotIn (.Name x p)=false):DE fa X (.Compare a [.NotIn] [.Name x p] pos) (iG fs ga):=
 br (uj (rT hd) ha (jM (v:=.ref ad) hg hm rfl hdb) hmk) fun σ H Q h=>yr ho σ H Q h
theorem FT (hd:fg X.K X.w.params ad kvs)(ho:dI fa kvs fs)(hg:Gl X x)(hm:X.mg x=some (.ref ad))(hdb:(x==("__debug__":Str))=false)(ha:DE fa X a ga)(hmk:behindInMarks .NotIn (.Name x p)=false):DT fa X (.Compare a [.NotIn] [.Name x p] pos) (aE (iG fs ga)):=
 jK (oP (rT hd) ha (jM (v:=.ref ad) hg hm rfl hdb) hmk) fun σ H Q h=>by
  refine yr ho σ H _ ?_
  obtain ⟨μ,Z,M,hE,hM,h⟩:=h
  obtain ⟨z,M3,e,q⟩:=aJ h
  refine ⟨μ,Z,M,hE,hM,?_⟩
  rw [e]
  have hz:∃k,z=.bl k:=by
   obtain ⟨d,M1,e1,e2⟩:=d3 e
   cases d<;>first|(cases e2;exact ⟨_,rfl⟩)|cases e2
  obtain ⟨k,rfl⟩:=hz
  intro v H' μ' x' m' r'
  obtain rfl:v=.bl k:=r'
  exact ⟨k,rfl,q H' μ' x' m'⟩
noncomputable def kZ (m:Bool)(a:GE):GE:=fun Z M=>(a Z M).bind fun x M=>match x with
 |.int n=>if -(2^62)<=n/\n<2^20 then a9 m ((List.range n.toNat).map fun (k:Nat)=>D.int (k:Int)) M else .bad
 |_=>.bad
theorem vH:∀(n:Nat) (its:List LY),its.length=n->(∀(i:Nat) (v:LY),its[i]?=some v->∃t,v=.int (i:Int) t)->Vals ((List.range n).map fun (k:Nat)=>V.int (k:Int)) its:=by
 intro n its hl h
 have key:∀(k:Nat) (its:List LY),(∀(i:Nat) (v:LY),its[i]?=some v->∃t,v=.int ((k+i:Nat):Int) t)->Vals ((List.range its.length).map fun (j:Nat)=>V.int ((k+j:Nat):Int)) its:=by
  intro k its
  induction its generalizing k with
  |nil=>intro _;exact .nil
  | cons v r ih =>
    intro h
    rw [MT,List.range_succ_eq_map,Nd,List.map_map]
    refine .cons (h 0 v rfl) ?_
    have:=ih (k+1) fun i u e=>by
     have:=h (i+1) u (by simpa using e)
     rw [show k+1+i=k+(i+1) by omega];exact this
    refine cast (congrArg (fun f=>Vals ((List.range r.length).map f) r) ?_) this
    funext j
    show V.int _=V.int _
    congr 2
    omega
 have:=key 0 its fun i v e=>by rw [Nat.zero_add];exact h i v e
 rw [hl] at this
 simpa using this
theorem Dt (m:Bool){p1 p2 pos2:Pos}(hc:X.calm=true)(ha:DE fa X a ga)(hgl:Gl X "list")(hml:X.mg "list"=none)(hg:Gl X "range")(hm:X.mg "range"=none)(hs:starEach [a] X.env=[(false,eval a X.env)])
 (hs2:starEach [.Call (.Name "range" p2) [a] [] pos2] X.env=[(false,eval (.Call (.Name "range" p2) [a] [] pos2) X.env)]) :
 DE fa X (.Call (.Name "list" p1) [.Call (.Name "range" p2) [a] [] pos2] [] pos) (kZ m ga):=by
 intro pins s σ H Q I ⟨μ,Z,M,hE,hM,h⟩
 obtain ⟨x,M1,e,q⟩:=aJ h
 have key:∀n,x=.int n->ag (if -(2^62)<=n/\n<2^20 then a9 m ((List.range n.toNat).map fun (k:Nat)=>D.int (k:Int)) M1 else .bad) (aZ fa X.K μ H Q)->
  wpAny (model X.prog X.w) X.A (eval (.Call (.Name "list" p1) [.Call (.Name "range" p2) [a] [] pos2] [] pos) X.env) (EP X pins σ Q) X.xe s:=fun n en q'=>by
  subst en
  by_cases c:-(2^62)<=n/\n<2^20
  ·rw [if_pos c] at q'
   refine Call_ (gk I hgl hml (by decide +kernel:bootBuiltins "list"=some (.type "list")) (Nf ?_ hs2 rfl))
   rw [hs2]
   refine Calls.spliced_cons ?_
   refine Call_ (gk I hg hm boot_range (Nf (aP (cH ha fi hs pos2 pins s σ H (fun vs H1=>∃μ1,vs=[.int n]/\Ext μ H μ1 H1/\RelM fa X.K μ1 H1 M1) I ⟨μ,Z,M,hE,hM,?_⟩) fun us s1 ⟨vs,H1,I1,r1,μ1,ev,x1,m1⟩=>?_) hs rfl))
   ·rw [e]
    intro v H1 μ1 x1 m1 r1
    obtain rfl:v=.int n:=r1
    exact ⟨μ1,rfl,x1,m1⟩
   subst ev
   cases r1 with
   | cons r rr =>
     cases rr
     obtain ⟨t,rfl⟩:=r
     refine call_range_1 ?_
     refine Calls.spliced_nil ?_
     refine call_list_range (n:=n.toNat) (I.ok.hd hc) (IsRange.new ..) (small_one (by omega) (by omega) (by omega) (by omega)) (by rw [rangeSize_one];split<;>omega) (by omega) fun h' tk acc' c' kp eS its=>?_
     obtain ⟨hsz,hit⟩:=its
     have I2:Inv X pins σ H1 {s1 with heap:=s1.heap.push {cls:=.type "range",data:=.fields #[.int 0 s1.toks,.int n t,.int 1 (s1.toks+1)]},toks:=s1.toks+1+1}:=I1.kept fun b o e=>L3 _ e
     have hv:Vals ((List.range n.toNat).map fun (k:Nat)=>V.int (k:Int)) acc'.toList:=vH n.toNat acc'.toList (by simpa using hsz) fun i v e=>by
      obtain ⟨u,z⟩:=hit i v (by simpa using e)
      exact ⟨u,by rw [z];simp⟩
     have rl:aF fa X.K μ1 H1 ((List.range n.toNat).map fun (k:Nat)=>D.int (k:Int)) ((List.range n.toNat).map fun (k:Nat)=>V.int (k:Int)):=by
      have:=aF.ints (fa:=fa) (K:=X.K) (μ:=μ1) (H:=H1) ((List.range n.toNat).map fun (k:Nat)=>(k:Int))
      simpa [List.map_map,NV] using this
     obtain ⟨c1,k1⟩:=fC m1 rl (jn q' x1)
     refine ⟨.ref _,_,I2.laid (t':=tk) (o:=.lst ((List.range n.toNat).map fun (k:Nat)=>V.int (k:Int))) kp (L7 _) ⟨?_,acc'.toList,c',hv,by simpa using eS⟩,rfl,k1 _ (I2.hok.fresh (L7 _))⟩
     rw [rl.length,<- cS];exact c1
  ·rw [if_neg c] at q';exact q'.elim
 cases x with
 |int n=>exact key n rfl q
 |_=>exact q.elim
end
end LD
namespace LD
open PySem PySem.Spec PyProof.Rows L2
noncomputable def pe (bn N:List Str)(sc scope:Scope):Bool:=
 scope.names.all (fun y=>y.2 != .cell&&(y.2 != .local||scope.names.lookup y.1==some .local)&&(y.2 != .free||sc.names.lookup y.1==some .cell||sc.names.lookup y.1==some .free)) &&
 bn.length==N.length&&(bn.zip N).all fun p=>(p.1==p.2&&scope.names.lookup p.2 != some .local)||scope.names.lookup p.1==none
theorem nV {α β:Type}{R:α->β->Prop}:∀{l:List α}{r:List β},l.length=r.length->(∀p∈l.zip r,R p.1 p.2)->N6 R l r
 |[],[],_,_=>.nil
 |a::l,b::r,h,g=>.cons (g (a,b) My) (nV (by simpa using h) fun p hp=>g p (Mh _ hp))
 |[],_::_,h,_=>by cases h
 |_::_,[],h,_=>by cases h
theorem yH {X:Cx}{own bn N:List Str}{sc scope:Scope}(hk:scope.kind=.function)(hs:X.env.scope=sc)(hN:X.N=N)(h:pe bn N sc scope=true):ie X own bn scope:=by
 unfold pe at h
 rw [L6,L6,Mp,Mp] at h
 obtain ⟨⟨h1,hl⟩,h2⟩:=h
 refine ⟨hk,fun y hy=>?_,fun y hy e=>?_,fun y hy e=>?_,?_⟩
 ·have:=h1 y hy
  simp only [L6] at this
  simpa using this.1.1
 ·have:=h1 y hy
  simp only [L6] at this
  have:=this.1.2
  rw [e] at this
  simpa using this
 ·have:=h1 y hy
  simp only [L6] at this
  have:=this.2
  rw [e] at this
  show X.env.scope.names.lookup y.1=_\/X.env.scope.names.lookup y.1=_
  rw [hs]
  simpa using this
 ·rw [hN]
  refine nV (by simpa using hl) fun p hp=>?_
  have:=h2 p hp
  simp only [Oc,L6,beq_iff_eq,bne_iff_ne] at this
  exact this
section
variable {fa:Fa}{X:Cx}{elt tg iter c t2 i2:Expr}{scope:Scope}{pos:Pos}{own bn:List Str}{t u:cD}{gw gw2:GW}{ge:GE}{gc:GT}
theorem mL {n:Nat}{l:List Nat}(h:l.all (· < n)=true):∀i∈l,i<n:=fun i hi=>by
 have:=Mp.mp h i hi
 simpa using this
theorem xj {l W:List Nat}(h:W.all (fun i=>!l.contains i)=true):∀i∈W,i∉l:=fun i hi z=>by
 have:=Mp.mp h i hi
 simp [z] at this
variable {i:Nat}{y:Str}{py spos:Pos}
theorem Du {x:Str}{i:Int}(hg:Gl X x)(hm:∃t,X.mg x=some (.int i t))(hd:(x==("__debug__":Str))=false):DE fa X (.Name x pos) (gC (.int i)):=let ⟨_,h⟩:=hm;FG hg h hd
theorem Dw {x:Str}{b:Expr}{gb:GE}{p:Pos}{fs:List (Str×Nat)}(h:∃ad kvs,X.mg x=some (.ref ad)/\fg X.K X.w.params ad kvs/\dI fa kvs fs)(hg:Gl X x)(hdb:(x==("__debug__":Str))=false)(hb:DE fa X b gb)(hs:jV b):DE fa X (.Subscript (.Name x p) b pos) (kn fs gb):=
 let ⟨_,_,h1,h2,h3⟩:=h;FI h2 h3 hg h1 hdb hb hs
theorem Dv {x:Str}{a:Expr}{ga:GE}{p:Pos}{fs:List (Str×Nat)}(h:∃ad kvs,X.mg x=some (.ref ad)/\fg X.K X.w.params ad kvs/\dI fa kvs fs)(hg:Gl X x)(hdb:(x==("__debug__":Str))=false)(ha:DE fa X a ga)(hmk:behindInMarks .NotIn (.Name x p)=false):DE fa X (.Compare a [.NotIn] [.Name x p] pos) (iG fs ga):=
 let ⟨_,_,h1,h2,h3⟩:=h;FH h2 h3 hg h1 hdb ha hmk
theorem Dz {x:Str}{a:Expr}{ga:GE}{p:Pos}{fs:List (Str×Nat)}(h:∃ad kvs,X.mg x=some (.ref ad)/\fg X.K X.w.params ad kvs/\dI fa kvs fs)(hg:Gl X x)(hdb:(x==("__debug__":Str))=false)(ha:DE fa X a ga)(hmk:behindInMarks .NotIn (.Name x p)=false):DT fa X (.Compare a [.NotIn] [.Name x p] pos) (aE (iG fs ga)):=
 let ⟨_,_,h1,h2,h3⟩:=h;FT h2 h3 hg h1 hdb ha hmk
theorem Ds {X:Cx}{n:Nat}(h:bC (n+4) X.A):Rm X:=by have:=h.un;show X.A.units+100<cLine;omega
end
end LD
namespace LD
open PySem PySem.Spec PyProof.Rows L2
theorem iH {α β:Type}{f g:α->Option β}:∀{l:List α},(∀x∈l,f x=g x)->l.filterMap f=l.filterMap g
 |[],_=>rfl
 | a :: l, h => by
   rw [N5,N5,h a My,iH (l:=l) fun x hx=>h x (Mh _ hx)]
theorem pU (n:Nat)(xs:List LY)(h:xs.length=n):(List.range n).filterMap (fun (k:Nat)=>xs[n-1-k]?)=xs.reverse:=by
 have e:∀k∈List.range n,xs[n-1-k]?=some (xs.reverse.getD k .none):=fun k hk=>by
  have hk:=List.mem_range.mp hk
  rw [Nj,List.getElem?_reverse (by omega),h,Mr (by omega)]
  simp
 have:(List.range n).filterMap (fun (k:Nat)=>xs[n-1-k]?)=(List.range n).map fun k=>xs.reverse.getD k .none:=by
  rw [iH (g:=fun k=>some (xs.reverse.getD k .none)) e]
  simp
 rw [this]
 refine List.ext_getElem? fun i=>?_
 rw [MU]
 by_cases hi:i<n
 ·rw [List.getElem?_range hi]
  show some (xs.reverse.getD i .none)=_
  rw [Nj,Mr (show i<xs.reverse.length by simp;omega)]
  simp
 ·rw [NI (by simp;omega),NI (by simp;omega)]
  rfl
theorem qv (its:List LY):slicePick its.toArray none none (some (-1))=its.reverse.toArray:=by
 unfold slicePick sliceBounds sliceRange
 simp only [Option.getD_some,L8]
 have e1:¬ ((-1:Int) > 0):=by decide
 simp only [e1,if_false]
 have e2:(if (its.length:Int)-1 > -1 then ((its.length:Int)-1 - -1 - -1-1) / (- -1) else 0).toNat=its.length:=by
  split
  ·simp
  ·omega
 rw [e2,List.filterMap_map,<- pU its.length its rfl]
 congr 1
 refine iH fun k hk=>?_
 have hk:=List.mem_range.mp hk
 have e3:((its.length:Int)-1+-1*(k:Int)).toNat=its.length-1-k:=by omega
 show its.toArray[((its.length:Int)-1+-1*(k:Int)).toNat]?=_
 rw [e3]
 simp
section
variable {prog:Ms}{w:Mv}{A:MZ}{E:LY->L4->Prop}{s:L4}
theorem mr {t sl:Addr}{items:Array LY}{k:Tok}{Q:LY->L4->Prop}(ht:IsTup s.heap t items)(hs:s.heap.IsSliceOf sl .none .none (.int (-1) k))
 (h:Q (.ref s.heap.objs.size) {s with heap:=s.heap.push {cls:=.type "tuple",data:=.seq items.toList.reverse.toArray}})
 (hsz:items.size<=sizeLine):wpAny (model prog w) A (getItem (.ref t) (.ref sl)) Q E s:=by
 have htake:sizeOk (.seq items.toList.reverse.toArray):=by
  show items.toList.reverse.toArray.size<=sizeLine
  simpa using hsz
 obtain ⟨os,hos,hcs,hds⟩:=id hs
 have hTs:s.TypeIs (.ref sl) "slice":=⟨os,hos,hcs⟩
 unfold getItem
 try with_reducible refine tqo ?_
 first|refine tqa (tqb ?_)|skip
 refine tqa (wpAny_sequenceKey ht.typeIs (by decide) ?_)
 refine tqa (wpAny_callSpecial?_slot (name:=Str.ofString "__getitem__") ht.typeIs MM
  (wpAny_call_entry MM ht.typeIs entry_tuple_getitem ?_ (args_tuple_getitem _ _)))
 show wpAny _ _ (Builtin.Tuple.tupleItemsOf (.ref t) >>= _) _ _ s
 refine tqa (tupleItemsOf_ ht ?_)
 refine tqa (wpAny_typeOf hTs ?_)
 rw [if_pos (by decide)]
 unfold Builtin.Slice.sliceApplied Builtin.Slice.sliceFields
 refine tqa (tqa (tqa (tqf hos hds (x:=.none) rfl (tqa (tqf hos hds (x:=.none) rfl (tqa (tqf hos hds (x:=.int (-1) k) rfl (tqb ?_))))))))
 refine tqa (slicePart_int ?_)
 show wpAny _ _ (if ((-1:Int)==0)=true then _ else _) _ _ s
 rw [if_neg (by decide)]
 refine tqa (slicePart_none (tqa (slicePart_none (tqa (tqb ?_)))))
 have ea:Builtin.Slice.sliceAdjust none none (-1) (items.size:Int)=((items.size:Int)-1,-1):=by simp [Builtin.Slice.sliceAdjust]
 have ep:Builtin.Slice.slicePlaces ((items.size:Int)-1) (-1) (-1)=items.size:=by
  unfold Builtin.Slice.slicePlaces
  rw [if_neg (by decide)]
  split
  ·simp
  ·omega
 show wpAny _ _ (match Builtin.Slice.sliceAdjust none none (-1) (items.size:Int) with|(lo,hi)=>pure (lo,(-1:Int),Builtin.Slice.slicePlaces lo hi (-1))) _ _ s
 rw [ea]
 show wpAny _ _ (pure ((items.size:Int)-1,(-1:Int),Builtin.Slice.slicePlaces ((items.size:Int)-1) (-1) (-1))) _ _ s
 rw [ep]
 refine tqb ?_
 have hno:¬ ((((items.size:Int)-1)==0&&(-1:Int)==1&&items.size==items.size)=true):=by simp
 show wpAny _ _ (if (((items.size:Int)-1)==0&&(-1:Int)==1&&items.size==items.size)=true then _ else _) _ _ s
 rw [if_neg hno]
 have pick:((List.range items.size).filterMap fun (m:Nat)=>items[(((items.size:Int)-1)+(m:Int) * -1).toNat]?).toArray=items.toList.reverse.toArray:=by
  rw [<- pU items.size items.toList (by simp)]
  congr 1
  refine iH fun m hm=>?_
  have hm:=List.mem_range.mp hm
  have e3:((items.size:Int)-1+(m:Int) * -1).toNat=items.size-1-m:=by omega
  rw [e3]
  simp
 rw [pick]
 first
  |exact tqa (m:=Builtin.Tuple.tupleExact _) (wpAny_newObj_type (tqb ⟨_,rfl,tqb h⟩) htake)
  |exact tqa (m:=Builtin.Tuple.tupleExact _) (wpAny_newObj_type (tqa (tqb (tqb ⟨_,rfl,tqb h⟩))) htake)
  |exact tqa (tqa (m:=Builtin.Tuple.tupleExact _) (wpAny_newObj_type (tqb (tqb ⟨_,rfl,tqb h⟩)) htake))
  |exact tqa (tqa (m:=Builtin.Tuple.tupleExact _) (wpAny_newObj_type (tqb ⟨_,rfl,tqb h⟩) htake))
end
section
variable {fa:Fa}{X:Cx}{a st:Expr}{ga:GE}{pos p2:Pos}
noncomputable def zT (m:Bool)(x:D)(M:Mem):Res D:=match x with
 |.tup xs=>.ok (.tup xs.reverse) M
 | x => match d8 M x with
   |some xs=>a9 m xs.reverse M
   |none=>.bad
noncomputable def Hb (m:Bool)(a:GE):GE:=fun Z M=>(a Z M).bind fun x M=>zT m x M
noncomputable def FL (K:LX):V->Hp->VK->Prop:=fun x H Q=>∃a xs,x=.ref a/\((bV K H a xs/\∀p,H p=none->Q (.ref p) (upd H p (.lst xs.reverse)))\/(cZ K H a xs/\∀p,H p=none->Q (.ref p) (upd H p (.tup xs.reverse))))
theorem mK:∀{xs:List V}{us:List LY},Vals xs us->Vals xs.reverse us.reverse
 |_,_,.nil=>.nil
 | _, _, .cons p r => by
   rw [NT,NT]
   exact (mK r).append (.cons p .nil)
theorem F3 {ta:TE}(ha:PE X a ta){ts:TE}(hst:PE X st ts) :
 PE X (.Subscript a (.Slice none none (some st) p2) pos) (fun σ H Q=>ta σ H fun x H1=>ts σ H1 fun y H2=>y=.int (-1)/\FL X.K x H2 Q):=by
 intro pins s σ H Q I h
 refine Subscript_ (aP (ha pins s σ H _ I h) fun v s1 ⟨x,H1,I1,r1,q1⟩=>?_)
 refine wpAny_Slice ?_
 rw [evalPart_none]
 refine tqb ?_
 refine tqb ?_
 rw [evalPart_some]
 refine aP (hst pins s1 σ H1 _ I1 q1) fun vu s3 ⟨y,H3,I3,r3,ey,q3⟩=>?_
 subst ey
 obtain ⟨k,rfl⟩:=r3
 have I4:Inv X pins σ H3 {s3 with heap:=s3.heap.push {cls:=.type "slice",data:=.fields #[.none,.none,.int (-1) k]}}:=I3.kept (t':=s3.toks) fun b ob q=>L3 _ q
 have hsl:(s3.heap.push {cls:=.type "slice",data:=.fields #[.none,.none,.int (-1) k]}).IsSliceOf s3.heap.objs.size .none .none (.int (-1) k):=Heap.IsSliceOf.new ..
 obtain ⟨b,xs,rfl,q⟩:=q3
 cases r1
 have key:∃T id,typeLookup (.type T) "__getitem__"=pure (some (.builtin id))/\Shared.TypeIs {s3 with heap:=s3.heap.push {cls:=.type "slice",data:=.fields #[.none,.none,.int (-1) k]}} (.ref b) T/\wpAny (model X.prog X.w) X.A (getItem (.ref b) (.ref s3.heap.objs.size)) (EP X pins σ Q) X.xe {s3 with heap:=s3.heap.push {cls:=.type "slice",data:=.fields #[.none,.none,.int (-1) k]}}:=by
  rcases q with ⟨hx,q⟩|⟨hx,q⟩
  ·obtain ⟨its,r,ht,hz⟩:=I4.list hx
   have hlen:=r.length
   refine ⟨"list",_,slot_list_getitem.lookup,ht.isList.typeIs,?_⟩
   refine wpAny_getItem_list_slice ht.isList hsl .none .none (.int (-1) k) (by decide) ?_ (by rw [L8]<;>omega)
   rw [qv]
   refine ⟨.ref _,_,I4.laid (t':=s3.toks) (o:=.lst xs.reverse) (fun b ob q=>L3 _ q) (L7 _) ?_,rfl,q _ (I4.hok.fresh (L7 _))⟩
   exact ⟨by simpa using hz,_,0,mK r,Mo _ rfl⟩
  ·obtain ⟨its,r,ht,hz⟩:=I4.tuple hx
   have hlen:=r.length
   refine ⟨"tuple",_,MM.lookup,ht.typeIs,?_⟩
   refine mr ht hsl ?_ (by rw [L8,<- hlen];exact hz)
   refine ⟨.ref _,_,I4.laid (t':=s3.toks) (o:=.tup xs.reverse) (fun b ob q=>L3 _ q) (L7 _) ?_,rfl,q _ (I4.hok.fresh (L7 _))⟩
   exact ⟨by simpa using hz,_,mK r,IsTup.new _ _⟩
 obtain ⟨T,id,hT,ht,hg⟩:=key
 show wpAny (model X.prog X.w) X.A (subscriptTail a (.Slice none none (some st) p2) (.ref b) (.ref s3.heap.objs.size)) (EP X pins σ Q) X.xe {s3 with heap:=s3.heap.push {cls:=.type "slice",data:=.fields #[.none,.none,.int (-1) k]}}
 exact tail_any (ops:=[.ref b,.ref s3.heap.objs.size]) ht hT hg (by with_unfolding_all rfl)
theorem Iw (m:Bool){pc pu:Pos}{k:Nat}(ha:DE fa X a ga):DE fa X (.Subscript a (.Slice none none (some (.UnaryOp .USub (.Constant (.int 1) k pc) pu)) p2) pos) (Hb m ga):=
 br (F3 ha (BH wu xC)) fun σ H Q ⟨μ,Z,M,hE,hM,h⟩=>t1 hE hM h fun x M1 v H1 μ1 x1 hE1 hM1 r1 h1=>by
  refine ⟨1,rfl,rfl,?_⟩
  have lst:∀(ds:List D) (b:Addr) (vs:List V),bV X.K H1 b vs->aF fa X.K μ1 H1 ds vs->ag (a9 m ds.reverse M1) (aZ fa X.K μ H Q)->FL X.K (.ref b) H1 Q:=fun ds b vs hs hr h1=>by
   obtain ⟨_,q⟩:=fC hM1 hr.reverse (jn h1 x1)
   exact ⟨b,vs,rfl,.inl ⟨hs,q⟩⟩
  cases x with
  | tup ds =>
    obtain ⟨b,vs,rfl,hs,hr⟩:=r1
    exact ⟨b,vs,rfl,.inr ⟨hs,gG hM1 hr.reverse (aZ.ext h1 x1)⟩⟩
  | lst ds =>
    obtain ⟨b,vs,rfl,hs,hr⟩:=r1
    exact lst ds b vs (bV.of hs.1) hr h1
  | frz ds =>
    obtain ⟨b,vs,rfl,hs,hr⟩:=r1
    exact lst ds b vs (hs.elim (fun ⟨o,z⟩=>.inl (.inr ⟨o,z⟩)) .inr) hr h1
  | cell k =>
    obtain ⟨b,rfl,hk⟩:=r1
    obtain ⟨ds,vs,e,hH,hr⟩:=hM1.mu_lt hk
    have h1:ag (match M1[k]? with|some xs=>a9 m xs.reverse M1|none=>.bad) (aZ fa X.K μ H Q):=h1
    rw [e] at h1
    exact lst ds b vs (bV.of hH) hr h1
  |_=>exact h1.elim
end
end LD
namespace LD
open PySem PySem.Spec PyProof.Rows L2
theorem mm {fa:Fa}{mg:Str->Option LY}{i:Nat}{x:Str}{f:Addr}(e:fa i=some f)(m:mg x=some (.ref f)):∀ad,fa i=some ad->mg x=some (.ref ad):=fun ad h=>by rw [e] at h;cases h;exact m
theorem us1 {α:Type}{p:List α->Prop}(h:∀a,p [a])(us:List α)(hl:us.length=1):p us:=by
 obtain ⟨a,rfl⟩:=List.length_eq_one_iff.mp hl;exact h a
theorem JK {α:Type}{p:List α->Prop}(h:∀a b,p [a,b]):∀(us:List α) (hl:us.length=2),p us
 |[a,b],_=>h a b
theorem us3 {α:Type}{p:List α->Prop}(h:∀a b c,p [a,b,c]):∀(us:List α) (hl:us.length=3),p us
 |[a,b,c],_=>h a b c
theorem us4 {α:Type}{p:List α->Prop}(h:∀a b c d,p [a,b,c,d]):∀(us:List α) (hl:us.length=4),p us
 |[a,b,c,d],_=>h a b c d
theorem yh {P:Nq}:N6 (nt P) [] []:=.nil
theorem fL {P:Nq}{x:Str}{t:Tok}{a:Addr}{es:List N0}{kvs:List (Str×Addr)}(h:N6 (nt P) es kvs):N6 (nt P) (⟨PyData.keyHash P x,.str x t,.ref a⟩::es) ((x,a)::kvs):=.cons ⟨t,rfl⟩ h
noncomputable def BA (K:LX):Sp:=fun vs H Q _=>∃(a:Addr) (ns:List Int),vs=[.ref a]/\bV K H a (ns.map V.int)/\wb H/\ns.length<=63/\∀H',Q (.bl true) H'
theorem GQ {fa:Fa}{P:Ms}{w:Mv}{K:LX}{mg:Str->Option LY}{base:Heap}{Pg:Nat->Option Df}{n f:Nat}{ad:Addr}{d:Df}{fd:N8}{N:List Str}{st:Stmt}{x qual y:Str}(h:∀f d,Pg f=some d->wd fa P w K mg base f d)
 (hl:∀ns:List Int,ns.length<=63->∃M,ak Pg (n+1) f [.frz (ns.map D.int)] []=.ok (.bl true) M) (e:Pg f=some d) (F:oE K x qual st ad fd) (S:fU N [y] (aK st)) (hs:d.slots=N.length)
 (hbody:∀(call:Call) (n:Nat) (cdv:LY) (A:MZ) (outer:List MN) (s:L4) (H:Hp) (E:XK),(∀f,eA fa P w K mg base n f (call f))->bC (2*n+5) (A.deeper (envOfC qual (aK st) s.heap.objs.size ad cdv))->
  mG fa (dY (fu P w) P w K mg base N qual (aK st) ad cdv A outer s H E) (cp st) (d.body call)):fG P w K mg base (fu P w) (2*n+5+1) ad fd [y] (BA K):=by
 have eq:∀ds M,ak Pg (n+1) f ds M=ig (ak Pg n) d ds M:=fun ds M=>by show (match Pg f with|none=>Res.bad|some d=>ig (ak Pg n) d ds M)=_;rw [e]
 refine oY F S (fun vs H Q E hsp=>?_) fun cdv A outer s H vs Q E hr hsp=>⟨_,hbody (ak Pg n) n cdv A outer s H E (sS h n) hr,?_⟩
 ·obtain ⟨a,ns,rfl,_⟩:=hsp;rfl
 ·obtain ⟨a,ns,rfl,hS,hO,hn,q⟩:=hsp
  obtain ⟨M',e'⟩:=hl ns hn
  rw [eq] at e'
  have rp:aF fa K ⟨fun _=>none,[],fun _=>none⟩ H [.frz (ns.map D.int)] [.ref a]:=by
   refine ⟨.ref a,[],rfl,⟨a,ns.map V.int,rfl,?_,aF.ints ns⟩,rfl⟩
   rcases hS with (z|⟨o,z⟩)|z
   ·rcases hO a with y|⟨o,xs,y⟩
    ·rw [y] at z;cases z
    ·rw [y] at z;cases z
   ·exact .inl ⟨o,z⟩
   ·exact .inr z
  refine qg (μ:=⟨fun _=>none,[],fun _=>none⟩) (M:=[]) hs ⟨fun k ds z=>by simp at z,fun _ _=>rfl,fun _ _=>rfl,(fun _ _ _ z=>nomatch z),(fun _ _ _ z=>nomatch z),(fun _ _ z=>nomatch z),(fun _ z=>nomatch z)⟩ rp ?_
  rw [e']
  intro v H' μ' _ _ r
  obtain rfl:v=.bl true:=r
  exact q H'
theorem uv {K:LX}{h:Heap}{mg:Str->Option LY}{x:Str}{ad:Addr}{P:Nq}{es:Array N0}{n:Nat}{kvs:List (Str×Addr)}{fa:Fa}{fs:List (Str×Nat)}(X:K.In h)(G:h.Ns mainGlobals mg)(a:PySem.W.nsIn K mainGlobals x=some (some (.ref ad)))
 (l:K.lookup ad=some {cls:=.type "dict",data:=.dict es n}) (he:N6 (nt P) es.toList kvs) (nd:(kvs.map (·.1)).Nodup) (ns:(ad==sysModules)=false) (dk:dI fa kvs fs):∃ad kvs,mg x=some (.ref ad)/\fg K P ad kvs/\dI fa kvs fs:=
 ⟨ad,kvs,Nt X G a,⟨⟨es,n,l,he⟩,nd,ns⟩,dk⟩
end LD
namespace LD
open PySem PySem.Spec PyProof.Rows L2
theorem wR (lo hi:Option Int)(n:Nat):Builtin.Str.strSliceIndices lo hi 1 n=(List.range (HT.aI n n hi-HT.aI n 0 lo)).map (HT.aI n 0 lo+·):=by
 rw [<- sliceRange_one]
 unfold Builtin.Str.strSliceIndices
 simp only [show (1:Int) > 0 by decide,if_true]
 congr 1
 ·cases lo with
  |none=>rfl
  | some i =>
    simp only [HT.aI]
    split<;>omega
 ·cases hi with
  |none=>rfl
  | some i =>
    simp only [HT.aI]
    split<;>omega
noncomputable def vR (z:Str)(l h:Nat):Str:=⟨(cut z.cps.toList l h).toArray⟩
section
variable {fa:Fa}{X:Cx}{a b:Expr}{ga gb:GE}{pos p2:Pos}{tg:Expr}
theorem rR {v:LY}{o:Option Int}(h:IsPart v o):∃p:Option (Int×Tok),v=partValue p/\p.map (·.1)=o:=by
 cases h with
 |none=>exact ⟨none,rfl,rfl⟩
 |int i t=>exact ⟨some (i,t),rfl,rfl⟩
theorem Fj:kF X (fun x lo hi H Q=>∃z:Str,x=.str z/\z.cps.size<=sizeLine/\Q (.str (vR z (HT.aI z.cps.size 0 lo) (HT.aI z.cps.size z.cps.size hi))) H):=by
 intro pins s σ H x v vl vu lo hi sl Q I rx hs pl pu h
 obtain ⟨z,rfl,hz,q⟩:=h
 obtain ⟨t,rfl⟩:=rx
 obtain ⟨l,rfl,el⟩:=rR pl
 obtain ⟨u,rfl,eu⟩:=rR pu
 refine ⟨"str",_,slot_str_getitem.lookup,typeIs_str s z t,?_⟩
 refine wpAny_getItem_str_slice (l:=l) (u:=u) (st:=none) hs rfl ?_
 have e:(slicePicked z l u none).filterMap (z.cps[·]?)=cut z.cps.toList (HT.aI z.cps.size 0 lo) (HT.aI z.cps.size z.cps.size hi):=by
  unfold slicePicked
  rw [el,eu]
  show (Builtin.Str.strSliceIndices lo hi 1 z.cps.size).filterMap _=_
  rw [wR,pick_run]
  rfl
 unfold sliceMade
 split
 ·next c=>
  have c':(slicePicked z l u none).length=z.length:=by simpa using c
  have e2:vR z (HT.aI z.cps.size 0 lo) (HT.aI z.cps.size z.cps.size hi)=z:=by
   have hl:HT.aI z.cps.size z.cps.size hi-HT.aI z.cps.size 0 lo=z.cps.size:=by
    unfold slicePicked at c'
    rw [el,eu] at c'
    have c':(Builtin.Str.strSliceIndices lo hi 1 z.cps.size).length=z.cps.size:=c'
    rw [wR] at c'
    simpa using c'
   have hh:HT.aI z.cps.size z.cps.size hi<=z.cps.size:=by
    cases hi with
    |none=>exact L7 _
    |some i=>simp only [HT.aI];split<;>omega
   have h0:HT.aI z.cps.size 0 lo=0\/z.cps.size=0:=by omega
   unfold vR cut
   rw [hl]
   rcases h0 with h0|h0
   ·rw [h0]
    rcases z with ⟨zs⟩
    show (⟨(List.take zs.size (List.drop 0 zs.toList)).toArray⟩:Str)=⟨zs⟩
    rw [List.drop_zero,Nu (by simp)]
   ·have:z.cps=#[]:=Array.eq_empty_of_size_eq_zero h0
    rcases z with ⟨zs⟩
    simp at this
    subst this
    simp
  rw [e2] at q
  exact ⟨.str z,H,I,⟨t,rfl⟩,q⟩
 ·rw [e]
  refine ⟨?_,.str _,H,I.tok _,⟨_,rfl⟩,q⟩
  have:(cut z.cps.toList (HT.aI z.cps.size 0 lo) (HT.aI z.cps.size z.cps.size hi)).length<=z.cps.size:=by
   unfold cut
   rw [Nz,List.length_drop]
   simp
   omega
  show (cut z.cps.toList _ _).toArray.size<=sizeLine
  simp at this ⊢
  omega
noncomputable def B7 (hl hh:Bool)(a lo hi:GE):GE:=fun Z M=>(a Z M).bind fun x M=>(lo Z M).bind fun l M=>(hi Z M).bind fun h M=>if c9 hl l&&c9 hh h then (match x with
 | .str z => if z.cps.size <= sz then (match aI z.cps.size 0 l, aI z.cps.size z.cps.size h with
   |some l,some h=>.ok (.str (vR z l h)) M
   |_,_=>.bad) else .bad
 |_=>.bad) else .bad
theorem FE (hl hh:Bool){lo hi:Option Expr}{gl gh:GE}(ha:DE fa X a ga)(hlo:DO fa X lo hl gl)(hhi:DO fa X hi hh gh):DE fa X (.Subscript a (.Slice lo hi none p2) pos) (B7 hl hh ga gl gh):=
 br (rO Fj ha hlo hhi) fun σ H Q ⟨μ,Z,M,hE,hM,h⟩=>t1 hE hM h fun x M1 v H1 μ1 x1 hE1 hM1 r1 h1=>by
  obtain ⟨l,M2,e2,h2⟩:=aJ h1
  obtain ⟨u,M3,e3,h3⟩:=aJ h2
  split at h3
  ·next c=>
   rw [L6] at c
   obtain ⟨ol,el⟩:=part_of c.1
   obtain ⟨ou,eu⟩:=part_of c.2
   refine ⟨μ1,Z,M1,hE1,hM1,?_⟩
   rw [e2]
   refine ⟨ol,c.1,el,fun H2 μ2 x2 hM2=>⟨μ2,Z,M2,hE1.ext x2,hM2,?_⟩⟩
   rw [e3]
   refine ⟨ou,c.2,eu,fun H3 μ3 x3 hM3=>?_⟩
   cases x with
   | str z =>
     obtain rfl:v=.str z:=r1
     dsimp only at h3
     split at h3
     ·next hz=>
      simp only [mP,el,eu,Option.map_some] at h3
      exact ⟨z,rfl,by rw [<- cS];exact hz,aY (v:=.str _) hM3 (aZ.ext h3 ((x1.trans x2).trans x3)) rfl⟩
     ·exact h3.elim
   |_=>exact h3.elim
  ·exact h3.elim
theorem DV:bD X (compareOp .IsNot) (fun x y H Q=>∃k,x=.bl k/\y=.bl true/\Q (.bl (!k)) H):=by
 intro pins s σ H x y v u Q I rx ry h
 obtain ⟨k,rfl,rfl,q⟩:=h
 cases rx
 cases ry
 refine tqb (ba I q ?_)
 cases k<;>rfl
noncomputable def vK (a b:GE):GE:=fun Z M=>(a Z M).bind fun x M=>(b Z M).bind fun y M=>match x,y with
 |.bl k,.bl true=>.ok (.bl (!k)) M
 |_,_=>.bad
theorem FR (ha:DE fa X a ga)(hb:DE fa X b gb)(hm:behindInMarks .IsNot b=false):DT fa X (.Compare a [.IsNot] [b] pos) (aE (vK ga gb)):=
 jK (oP DV ha hb hm) fun σ H Q ⟨μ,Z,M,hE,hM,h⟩=>by
  obtain ⟨z,M3,e,q⟩:=aJ h
  have h':ag (vK ga gb Z M) (fun d M=>d=z/\M=M3):=by rw [e];exact ⟨rfl,rfl⟩
  refine t2 hE hM h' fun x y M2 v u H2 μ2 x2 hE2 hM2 r1 r2 h2=>?_
  cases x with
  | bl k =>
    cases y with
    | bl j =>
      cases j with
      | true =>
        obtain ⟨rfl,rfl⟩:=h2
        exact ⟨k,r1,r2,!k,rfl,q H2 μ2 x2 hM2⟩
      |false=>exact h2.elim
    |_=>exact h2.elim
  |_=>cases y<;>exact h2.elim
noncomputable def signs (z:Str):List D:=z.cps.toList.map fun c=>.str ⟨#[c]⟩
noncomputable def HW (z:Str):It:=⟨fun i _=>i<z.cps.size,fun i H x H'=>H'=H/\∃c,z.cps[i]?=some c/\x=.str ⟨#[c]⟩,fun i _=>z.cps.size<=i⟩
theorem qX {P:Ms}{w:Mv}{K:LX}{n:String}(hn:["enumerate","zip","dict_itemiterator","dict_reverseitemiterator","odict_iterator","itertools.zip_longest","itertools.pairwise"].contains n=false)(it:Addr)(z:Str)(t:Tok)
 (W:∀A':MZ,A'.handled=none->Walks P w A' it [it] [it] z.cps.size (SignAt z) (fun i h=>h.IsStrIter it n z t i))
 (S:∀(A:MZ) (i:Nat) (s:L4) (Q:LY->L4->Prop) (E:LY->L4->Prop),s.heap.IsStrIter it n z t i->Q (.ref it) s->wpAny (model P w) A (pyIter (.ref it)) Q E s)
 (D:∀(A:MZ) (hh:A.handled=none) (i:Nat) (s:L4) (Q:Option LY->L4->Prop) (E:LY->L4->Prop),s.heap.IsStrIter it n z t i->z.cps.size<=i->(∀h',(∀b o,b≠it->s.heap.get? b=some o->h'.get? b=some o)->Q none {s with heap:=h'})->wpAny (model P w) A (pyNext (.ref it)) Q E s) :
 Turn P w K tg (HW z) [it] it (fun i h=>h.IsStrIter it n z t i) where
 mem:=by simp
 obj:=fun i h st b hb=>by
  have e:b=it:=by simpa using hb
  subst e
  obtain ⟨o,e,c,d⟩:=st
  exact ⟨o,e,fun v z=>by rw [d] at z;cases z⟩
 keep:=fun i h h' st k=>let ⟨o,e,r⟩:=st;⟨o,k it (by simp) o e,r⟩
 item:=by
  intro X hP hw hK hc i pins s σ H E I hf st hg
  subst hP hw hK
  obtain ⟨f0,f1,f2,f3,f4,f5⟩:=hf it (by simp)
  refine (W X.A (I.ok.hd hc)).item i s _ _ hg st fun v h' tk hv st' kk=>?_
  obtain ⟨c,u,hc',rfl⟩:=hv
  have I1:Inv X pins σ H {s with heap:=h',toks:=tk}:=I.turned (fun b o hb e=>kk b o (by simpa using hb) e) f0 f1 f3 f4 f5
  obtain ⟨o,e,co,d⟩:=id st'
  exact ⟨_,rfl,qM (s:={s with heap:=h',toks:=tk}) e co d hn ⟨.str ⟨#[c]⟩,H,I1,⟨u,rfl⟩,⟨rfl,c,hc',rfl⟩,st',fun b hb=>(hf b hb).1⟩⟩
 done:=by
  intro X hP hw hK hc i pins s σ H E I hf st hg
  subst hP hw hK
  obtain ⟨f0,f1,f2,f3,f4,f5⟩:=hf it (by simp)
  exact D X.A (I.ok.hd hc) i s _ _ st hg fun h' eb=>⟨rfl,I.turned (t':=s.toks) (fun b o hb e=>eb b o hb e) f0 f1 f3 f4 f5⟩
 self:=fun A i s Q E st h=>S A i s Q E st h
theorem F0 {l:Expr}{tl:TE}(hl:PE X l tl):PI X tg l (fun σ H R=>tl σ H fun x H1=>∃z,x=.str z/\R (HW z) H1):=by
 intro pins s σ H R I h
 refine aP (hl pins s σ H _ I h) fun v s1 ⟨x,H1,I1,r1,q1⟩=>?_
 obtain ⟨z,rfl,q⟩:=q1
 obtain ⟨t,rfl⟩:=r1
 have fp:∀b∈[s1.heap.objs.size],fh X pins H1 b:=fun b hb=>by
  have e:b=s1.heap.objs.size:=by simpa using hb
  subst e
  exact I1.fpOk (L7 _) (I1.hok.fresh (L7 _))
 cases ha:z.cps.all (· < 128)
 ·refine wpAny_pyIter_wide ha ?_
  exact ⟨s1.heap.objs.size,[s1.heap.objs.size],_,_,H1,rfl,I1.kept (t':=s1.toks) fun b o e=>L3 _ e,qX (n:="str_iterator") rfl _ z t (fun A' h=>Walks.strWide h _ z t) (fun A i s Q E st h=>wpAny_pyIter_striter_wide st h) (fun A hh i s Q E st hi k=>wpAny_pyNext_wide_end hh st (by simp;omega) k),⟨_,Mo _ rfl,rfl,rfl⟩,fp,q⟩
 ·refine wpAny_pyIter_ascii ha ?_
  exact ⟨s1.heap.objs.size,[s1.heap.objs.size],_,_,H1,rfl,I1.kept (t':=s1.toks) fun b o e=>L3 _ e,qX (n:="str_ascii_iterator") rfl _ z t (fun A' h=>Walks.strAscii h _ z t) (fun A i s Q E st h=>wpAny_pyIter_striter_ascii st h) (fun A hh i s Q E st hi k=>wpAny_pyNext_ascii_end hh st (by simp;omega) k),⟨_,Mo _ rfl,rfl,rfl⟩,fp,q⟩
noncomputable def B8 (ga:GE):Env->Mem->Res Walk:=fun Z M=>(ga Z M).bind fun x M=>match x with
 |.str z=>.ok (fun _=>some (signs z)) M
 |_=>.bad
theorem yY {μ0:Mu}{H0:Hp}(z:Str):cY fa X.K μ0 H0 (fun _=>some (signs z)) (HW z):=fun μ H M ds x hM e=>by
 cases e
 refine ⟨fun i d hd=>?_,fun i hi=>(show z.cps.size<=i by simpa [signs] using hi)⟩
 have hd:(signs z)[i]?=some d:=hd
 unfold signs at hd
 rw [MU] at hd
 cases e:z.cps.toList[i]? with
 |none=>rw [e] at hd;cases hd
 | some c =>
   rw [e] at hd
   have e':D.str ⟨#[c]⟩=d:=L9 hd
   subst e'
   have e2:z.cps[i]?=some c:=by simpa using e
   refine ⟨(Nb.mp e2).1,fun y H' ⟨e1,c',e3,e4⟩=>?_⟩
   rw [e2] at e3
   cases e3
   subst e1 e4
   exact ⟨.refl,hM,rfl⟩
theorem Ew (ha:DE fa X a ga):DI fa X tg a (B8 ga):=fun pins s σ H R I ⟨μ,Z,M,hE,hM,h⟩=>by
 obtain ⟨x,M1,e,q⟩:=aJ h
 refine F0 ha pins s σ H R I ⟨μ,Z,M,hE,hM,?_⟩
 rw [e]
 intro v H1 μ1 x1 m1 r1
 cases x with
 | str z =>
   obtain rfl:v=.str z:=r1
   exact ⟨z,rfl,q _ H1 μ1 x1 m1 (yY z)⟩
 |_=>exact q.elim
end
end LD
namespace LD
open PySem PySem.Spec PySem.Calls PyProof.Rows PySem.W
section
variable {prog:Ms}{w:Mv}{A:MZ}{E:LY->L4->Prop}{s:L4}{K:Frag}{x C:Addr}{ox:Obj}{od:Option Obj}{name:Str}
noncomputable def EU (K:Frag)(C:Addr):Bool:=findIn K (.ref C) "__getattribute__"==some (some (.builtin "BaseException.__getattribute__"))&&findIn K (.ref C) "__getattr__"==some none&&mroIn K C (.type "BaseException")==some true&&mroIn K C (.type "object")==some true &&
 findIn K (.ref C) "__class__"==some (some (.builtin "object.__class__"))&&specialIn K (.builtin "object.__class__") "__get__"==some (some (.builtin "getset_descriptor.__get__"))&&takesIn K (.builtin "object.__class__")==some true
end
end LD
namespace LD
open PySem PySem.Spec PyProof.Rows L2
noncomputable def dj (f:Nat)(c:Call)(s:GA):GE:=fun Z M=>match s Z M with
 |.ok ds M=>c f ds M
 |_=>.bad
noncomputable def uR (k:D->Mem->Res Fl)(Z:Env):Res D->Res Fl
 |.ok d M=>k d M
 |.err x M=>.ok (.exc x Z) M
 |.bad=>.bad
noncomputable def jC (a:GE):GS:=fun Z M=>uR (fun _ M=>.ok (.next Z) M) Z (a Z M)
noncomputable def gU (t:cD)(a:GE):GS:=fun Z M=>uR (fun x M=>(bR M (b7 t x Z)).bind fun ρ1 M=>.ok (.next ρ1) M) Z (a Z M)
noncomputable def vc (a:GE):GS:=fun Z M=>uR (fun x M=>.ok (.ret x) M) Z (a Z M)
noncomputable def vL (t:GT)(a b:GE):GE:=fun Z M=>match t Z M with
 |.ok k M=>if k then a Z M else b Z M
 |_=>.bad
noncomputable def d7 (c:Nat)(s:GA):GS:=fun Z M=>match s Z M with
 |.ok ds M=>if ds.length<=sz then .ok (.exc (.exc c none) Z) M else .bad
 |_=>.bad
noncomputable def JP (fa:Fa)(X:Cx)(g:GE):TE:=fun σ H Q=>∃μ Z M,a7 fa X.K μ H σ Z/\RelM fa X.K μ H M/\kB (g Z M) (aZ fa X.K μ H Q) (fun x M'=>XW fa X μ H x Z M')
abbrev DX (fa:Fa)(X:Cx)(e:Expr)(g:GE):Prop:=PE X e (JP fa X g)
section
variable {fa:Fa}{X:Cx}{a b:Expr}{ga gb:GE}{ta:GT}{pos p:Pos}{es:List Expr}{gs:GA}{n:Nat}
theorem x_call (f:Nat){x:Str}{call:Call}(C:∀f,eA fa X.prog X.w X.K X.mg X.base n f (call f))(hr:bC (2*n+4) X.A)(hex:X.ex=[])(hg:Gl X x)(hm:∀ad,fa f=some ad->X.mg x=some (.ref ad))(hs:DA fa X (a::es) gs)
 (hdb:(x==("__debug__":Str))=false) (he:notStar a=true) (hpl:es.all notStar=true):DX fa X (.Call (.Name x p) (a::es) [] pos) (dj f call gs):=by
 intro pins s σ H Q I ⟨μ,Z,M,hE,hM,h⟩
 unfold dj at h
 cases eg:gs Z M with
 |err=>rw [eg] at h;exact h.elim
 |bad=>rw [eg] at h;exact h.elim
 | ok ds M1 =>
   rw [eg] at h
   have h:kB (call f ds M1) (aZ fa X.K μ H Q) (fun x M'=>XW fa X μ H x Z M'):=h
   rcases C f with hb|⟨ad,fd,ps,h1,h2,h3,h4,F⟩
   ·rw [hb] at h;exact h.elim
   ·have hl:ds.length=ps.length:=by
     by_cases hl:ds.length=ps.length
     ·exact hl
     ·rw [h4 ds M1 hl] at h;exact h.elim
    refine wpAny_Call_Name_kw (fK I hg (hm ad h1) ?_ hdb)
    refine NR (h₀:=X.base) I.ok.mod.kin h2 (aP (hs pos pins s σ H (fun vs H1=>∃μ1,Ext μ H μ1 H1/\RelM fa X.K μ1 H1 M1/\aF fa X.K μ1 H1 ds vs) I ⟨μ,Z,M,hE,hM,by rw [eg];exact fun vs H1 μ1 x1 m1 r1=>⟨μ1,x1,m1,r1⟩⟩) fun us s1 ⟨vs,H1,I1,r,μ1,x1,m1,r1⟩=>⟨I1.kIn,?_⟩) (bh he) (b9 hpl)
    have hsp:BB fa X.K ps.length (call f) vs H1 Q fun Cv dx H'=>∃y M' μ' C' c p,Cv=.ref C'/\Ext μ1 H1 μ' H'/\RelM fa X.K μ' H' M'/\y=.exc c p/\fa (eE c)=some C'/\v8 H' c dx p/\XW fa X μ H y Z M':=by
     refine ⟨by rw [r1.length];exact hl,μ1,M1,ds,m1,r1,?_⟩
     cases ec:call f ds M1 with
     |ok d M2=>rw [ec] at h;exact aZ.ext h x1
     |err y M2=>rw [ec] at h;exact fun C dx c p H' μ' y' m ex hc hn=>⟨_,M2,μ',C,c,p,rfl,y',m,ex,hc,hn,h⟩
     |bad=>rw [ec] at h;exact h.elim
    have hl2:us.length=ps.length:=by rw [<- r.length,r1.length];exact hl
    have hb:=h3 s1 us I1.kIn (by simpa using hl2)
    rw [Ob] at hb
    refine wpAny_call (codeAny_mono (F.run X.A X.stack s1 H1 ⟨us,[]⟩ us vs Q _ hr I1.env0 hb r hsp) fun r' s' hq=>?_)
    cases r' with
    | error e =>
      unfold CR at hq
      dsimp only at hq
      obtain ⟨a',C',dx,H',rfl,I',fl,y,M',μ',C2,c,p,ec,ye,m',ey,hc,hn,hw⟩:=yp I1 hex hq
      cases ec
      exact hw pins σ H' μ' s' a' C' dx c p I' (x1.trans ye) ((hE.ext x1).ext ye) m' ey hc hn fl
    | ok fl =>
      cases fl with
      |ret u=>exact I1.after hq
      |next=>exact False.elim hq
      |brk=>exact False.elim hq
      |cont=>exact False.elim hq
theorem Ic {c:Expr}(hc:DT fa X c ta)(ha:DX fa X a ga)(hb:DX fa X b gb):DX fa X (.IfExp c a b pos) (vL ta ga gb):=
 br (rP hc ha hb) fun σ H Q ⟨μ,Z,M,hE,hM,h⟩=>by
  unfold vL at h
  cases et:ta Z M with
  |err=>rw [et] at h;exact h.elim
  |bad=>rw [et] at h;exact h.elim
  | ok k M1 =>
    rw [et] at h
    refine ⟨μ,Z,M,hE,hM,?_⟩
    rw [et]
    intro H1 μ1 x1 m1
    have go:∀g:GE,kB (g Z M1) (aZ fa X.K μ H Q) (fun x M'=>XW fa X μ H x Z M')->JP fa X g σ H1 Q:=fun g q=>by
     refine ⟨μ1,Z,M1,hE.ext x1,m1,?_⟩
     cases e:g Z M1 with
     |ok d M2=>rw [e] at q;exact aZ.ext q x1
     |err y M2=>rw [e] at q;exact XW.ext q x1
     |bad=>rw [e] at q;exact q
    cases k with
    |true=>exact go ga h
    |false=>exact go gb h
theorem Ir (ha:DX fa X a ga)(hs:swapsWith a none pos.line X.env=pure false):DS fa X (.Expr a pos) (jC ga):=
 dw (lN ha hs) fun D' σ H ⟨μ,Z,M,hE,hM,h⟩=>⟨μ,Z,M,hE,hM,by
  unfold jC at h
  cases e:ga Z M with
  |ok d M1=>rw [e] at h;exact fun v H1 μ1 x1 m1 r1=>h σ H1 μ1 x1 (hE.ext x1) m1
  |err x M1=>rw [e] at h;exact h
  |bad=>rw [e] at h;exact h.elim⟩
theorem Ft {tg:Expr}{t:cD}(ha:DX fa X a ga)(hg:PG X tg (gT fa X.K t))(hs:swapsWithSole [tg] a pos.line X.env=pure false)(hw:swappedStores [tg] a X.env=pure none)(h1:(assignEach [tg] X.env).map (·.2)=[assign tg X.env]) :
 DS fa X (.Assign [tg] a pos) (gU t ga):=
 dw (nQ ha hg hs hw h1) fun D σ H ⟨μ,Z,M,hE,hM,h⟩=>⟨μ,Z,M,hE,hM,by
  unfold gU at h
  cases e:ga Z M with
  | ok d M1 =>
    rw [e] at h
    obtain ⟨ρ1,M2,e',q⟩:=aJ h
    cases eb:b7 t d Z with
    |none=>rw [eb] at e';cases e'
    | some ρ2 =>
      rw [eb] at e'
      cases e'
      exact fun v H1 μ1 x1 m1 r1=>⟨μ1,Z,_,d,ρ1,hE.ext x1,m1,r1,eb,fun σ1 hE2=>q σ1 H1 μ1 x1 hE2 m1⟩
  |err x M1=>rw [e] at h;exact h
  |bad=>rw [e] at h;exact h.elim⟩
theorem Fp (ha:DX fa X a ga):DS fa X (.Return (some a) pos) (vc ga):=
 dw (xt ha) fun D' σ H ⟨μ,Z,M,hE,hM,h⟩=>⟨μ,Z,M,hE,hM,by
  unfold vc at h
  cases e:ga Z M with
  |ok d M1=>rw [e] at h;exact h
  |err x M1=>rw [e] at h;exact h
  |bad=>rw [e] at h;exact h.elim⟩
end
abbrev lG:List LY:=[.type "ValueError",.type "Exception",.type "BaseException",.type "object"]
noncomputable def Fn (K:LX)(C:Addr)(f:ClassData->Addr->List LY->String->Bool):Bool:=match K.lookup C with
 | some ⟨.type "type", _, .cls cd, sl⟩ => (match cd.mro, sl.toList with
   |.ref C'::bm,[_,_,_,_,some (.builtin n),_]=>f cd C' bm n
   |_,_=>false)
 |_=>false
theorem xl {K:LX}{h:Heap}{C:Addr}{f:ClassData->Addr->List LY->String->Bool}(X:K.In h)(q:Fn K C f=true) :
 ∃bm N nm q bs hdct sn sub ab col dd k0 k1 k2 k3 k5 dl n C',f ⟨nm,bs,.ref C'::bm,N,q,hdct,sn,sub,ab,col,dl⟩ C' bm n=true/\h.get? C=some ⟨.type "type",dd,.cls ⟨nm,bs,.ref C'::bm,N,q,hdct,sn,sub,ab,col,dl⟩,#[k0,k1,k2,k3,some (.builtin n),k5]⟩:=by
 unfold Fn at q
 split at q
 ·rename_i dd cd sl ho
  split at q
  ·rename_i C' bm k0 k1 k2 k3 n k5 hm hs
   obtain ⟨nm,bs,mro,ns,qn,hd,sn,sub,ab,col,del⟩:=cd
   dsimp only at hm
   subst hm
   have hsl:sl=#[k0,k1,k2,k3,some (.builtin n),k5]:=by
    obtain ⟨l⟩:=sl
    simp only at hs
    rw [hs]
   subst hsl
   exact ⟨_,_,_,_,_,_,_,_,_,_,_,_,_,_,_,_,_,_,_,q,X _ _ ho⟩
  ·cases q
 ·cases q
theorem AR {K:LX}{h:Heap}{C:Addr}{bmB:List LY}{newId:String}(X:K.In h)(q:PySem.W.excIn K C bmB newId=true) :
 ∃bm N nm q bs hdct sn sub ab col dd k0 k1 k2 k3 k5 mN,h.get? C=some (excClassObj nm q C N bs bm hdct sn sub ab col dd k0 k1 k2 k3 k5 newId)/\h.Ns N mN/\mN "__init__"=none/\OwnTail h bmB bm:=by
 obtain ⟨bm,ns,nm,qn,bs,hd,sn,sub,ab,col,dd,k0,k1,k2,k3,k5,dl,n,C',q,ho⟩:=xl (f:=fun cd C' bm n=>C'==C&&n==newId&&!cd.hasDel&&PySem.W.tailIn K bmB bm&&PySem.W.nsOkIn K cd.ns&&PySem.W.nsIn K cd.ns "__init__"==some none) X q
 simp only [L6,beq_iff_eq,NW] at q
 obtain ⟨⟨⟨⟨⟨rfl,rfl⟩,rfl⟩,ht⟩,hok⟩,hni⟩:=q
 exact ⟨bm,ns,nm,qn,bs,hd,sn,sub,ab,col,dd,k0,k1,k2,k3,k5,_,ho,.of_isNs (PySem.W.isNs_of_in X hok),PySem.W.nsMap_none_of_in X hok hni,PySem.W.tail_of_in X ht⟩
theorem xR {P:Ms}{w:Mv}{H:Hp}{h:Heap}{a:Addr}{o:HO}(x:b8 P w H h a o):∃ob,h.get? a=some ob:=by
 cases o with
 |lst xs=>obtain ⟨_,_,_,_,e⟩:=x;exact ⟨_,e⟩
 |tup xs=>obtain ⟨_,_,_,ob,e,_⟩:=x;exact ⟨_,e⟩
 |dK kvs=>obtain ⟨_,_,_,_,o,_,_,e,_⟩:=x;exact ⟨_,e⟩
 |dT kvs=>obtain ⟨_,_,_,_,o,_,_,e,_⟩:=x;exact ⟨_,e⟩
 |set S n=>obtain ⟨o,_,_,_,e,_⟩:=x;exact ⟨_,e⟩
 |ins C dx fs=>obtain ⟨_,_,_,e,_⟩:=x;exact ⟨_,e⟩
 |own y=>exact x
 |xd fs=>obtain ⟨_,⟨_,_,_,e,_⟩,_⟩:=x;exact ⟨_,e⟩
 |rng lo hi=>obtain ⟨_,_,_,e⟩:=x;exact ⟨_,e⟩
 |frz ob u=>obtain ⟨e,_⟩:=x;exact ⟨_,e⟩
 |tbl ps=>exact ⟨_,x⟩
 |met f y=>exact ⟨_,x⟩
 |ext φ=>obtain ⟨_,e,_⟩:=x;exact e
theorem su {X:Cx}{pins:List (Addr×Obj)}{σ:L2.St}{H:Hp}{s:L4}(I:Inv X pins σ H s)(hex:X.ex=[]){e:Addr}(hn:s.heap.get? e=none):nj X e/\H e=none:=by
 refine ⟨⟨?_,fun p hp z=>?_⟩,?_⟩
 ·cases q:X.s₀.heap.get? e with
  |none=>rfl
  | some o =>
    obtain ⟨o',e'⟩:=I.base.there e o q (by rw [hex];simp)
    rw [hn] at e';cases e'
 ·have:=(I.pin p (NY _ hp)).1
  rw [z,hn] at this;cases this
 ·cases q:H e with
  |none=>rfl
  | some u =>
    obtain ⟨ob,z⟩:=xR (I.hok e u q)
    rw [hn] at z;cases z
section
variable {fa:Fa}{X:Cx}{a b:Expr}{ga gb:GE}{ta:GT}{pos p:Pos}{es:List Expr}{gs:GA}{n:Nat}
theorem Dq (c:Nat){x:Str}{np cpos:Pos}(hx:∃C,X.mg x=some (.ref C)/\fa (eE c)=some C/\PySem.W.excIn X.K C lG "ValueError.__new__"=true)(hex:X.ex=[])(hg:Gl X x)(hc:X.calm=true)(hs:DA fa X (a::es) gs)
 (hdb:(x==("__debug__":Str))=false) (he:notStar a=true) (hpl:es.all notStar=true):DS fa X (.Raise (some (.Call (.Name x np) (a::es) [] cpos)) none pos) (d7 c gs):=by
 intro pins s σ H D' I ⟨μ,Z,M,hE,hM,h⟩
 obtain ⟨C,hmC,hfC,hin⟩:=hx
 obtain ⟨bm,N,nm,q,bs,hdct,sn,sub,ab,col,dd,k0,k1,k2,k3,k5,mN,hC,hN,hni,T⟩:=AR I.ok.mod.kin hin
 unfold d7 at h
 cases eg:gs Z M with
 |err=>rw [eg] at h;exact h.elim
 |bad=>rw [eg] at h;exact h.elim
 | ok ds M1 =>
   rw [eg] at h
   dsimp only at h
   split at h
   ·next hz=>
    have h:XW fa X μ H (.exc c none) Z M1:=h
    refine wpAny_Raise_call_subT (nm:=nm) (q:=q) (N:=N) (bs:=bs) (hdct:=hdct) (sn:=sn) (sub:=sub) (ab:=ab) (col:=col) (dd:=dd) (k0:=k0) (k1:=k1) (k2:=k2) (k3:=k3) (k5:=k5) PySem.F.excBase_ValueError (T.hasType (by decide +kernel)) (I.ok.hd hc) (b9 (es:=a::es) (by simp [he,hpl])) hni (fK I hg hmC ⟨rfl,?_⟩ hdb)
    have ar:=aP (hs cpos pins s σ H (fun vs H1=>∃μ1,Ext μ H μ1 H1/\RelM fa X.K μ1 H1 M1/\aF fa X.K μ1 H1 ds vs) I ⟨μ,Z,M,hE,hM,by rw [eg];exact fun vs H1 μ1 x1 m1 r1=>⟨μ1,x1,m1,r1⟩⟩) (Q':=fun us s2=>([]:List (Str×LY))=[]/\us.length<=sizeLine/\s2.heap.get? C=some (excClassObj nm q C N bs bm hdct sn sub ab col dd k0 k1 k2 k3 k5 "ValueError.__new__")/\s2.heap.Ns N mN/\OwnTail s2.heap lG bm/\∀h' e,Heap.MadeExcOf s2.heap h' e (.ref C) us->X.xe (.ref e) {s2 with heap:=h'}) fun us s1 ⟨vs,H1,I1,r,μ1,x1,m1,r1⟩=>by
     refine ⟨rfl,?_,I1.bk _ _ hC,hN.keeps I1.bk,T.keeps I1.bk,fun h' e hm=>?_⟩
     ·rw [<- r.length,r1.length,<- cS];exact hz
     ·obtain ⟨t,ht,_,_⟩:=hm.there
      obtain ⟨n1,n2⟩:=su I1 hex hm.new
      exact h pins σ H1 μ1 {s1 with heap:=h'} e C none c none (I1.kept (t':=s1.toks) hm.keeps) x1 (hE.ext x1) m1 rfl hfC rfl ⟨n1,n2,_,_,ht,rfl,rfl,rfl,.inl rfl⟩
    rw [bh he] at ar ⊢
    exact PySem.Calls.evalArgs_plain ar
   ·exact h.elim
end
end LD
namespace LD
open PySem PySem.Spec PyProof.Rows L2
structure HP (fa:Fa) (K:LX):Prop where
 g:∀c C,fa (eE c)=some C->EU K C=true/\PySem.W.mroIn K C (.type "ValueError")=some true/\PySem.W.isIn K (.ref C) C=true
 d:∀c C D,fa (eE c)=some C->fa 999=some D->PySem.W.isIn K (.ref C) D=true/\PySem.W.mroIn K C (.ref D)=some true/\PySem.W.mroIn K D (.type "BaseException")=some true/\PySem.W.typeIn K (.ref D)=some (.type "type")
 n:∀c C c' C',fa (eE c)=some C->fa (eE c')=some C'->c'≠c->PySem.W.kin_not K C C'=true
noncomputable def EW (K:LX)(cl:List (Nat×Addr))(D:Addr):Bool:=PySem.W.mroIn K D (.type "BaseException")==some true&&PySem.W.typeIn K (.ref D)==some (.type "type") &&
 cl.all fun q=>EU K q.2&&PySem.W.mroIn K q.2 (.type "ValueError")==some true&&PySem.W.isIn K (.ref q.2) q.2&&PySem.W.isIn K (.ref q.2) D&&PySem.W.mroIn K q.2 (.ref D)==some true&&cl.all fun r=>r.1==q.1||PySem.W.kin_not K q.2 r.2
noncomputable def uF (l cl:List (Nat×Addr))(D:Addr):Fa:=fun i=>if i<999 then l.lookup i else if i=999 then some D else cl.lookup (i-1000)
theorem lookup_mem:∀{l:List (Nat×Addr)}{c:Nat}{C:Addr},l.lookup c=some C->(c,C)∈l
 |[],_,_,h=>by cases h
 | (a, b) :: r, c, C, h => by
   rw [MK] at h
   split at h
   ·next e=>cases h;rw [eq_of_beq e];exact My
   ·exact Mh _ (lookup_mem h)
theorem l4 {l cl:List (Nat×Addr)}{D:Addr}{c:Nat}{C:Addr}(h:uF l cl D (eE c)=some C):(c,C)∈cl:=by
 unfold uF eE at h
 rw [if_neg (by omega),if_neg (by omega),NM] at h
 exact lookup_mem h
theorem EV {K:LX}{l cl:List (Nat×Addr)}{D:Addr}(h:EW K cl D=true):HP (uF l cl D) K:=by
 unfold EW at h
 simp only [L6,beq_iff_eq,Mp,Oc] at h
 obtain ⟨⟨h1,h2⟩,h3⟩:=h
 refine ⟨fun c C e=>?_,fun c C D' e e'=>?_,fun c C c' C' e e' n=>?_⟩
 ·obtain ⟨⟨⟨⟨⟨a1,a2⟩,a3⟩,a4⟩,a5⟩,a6⟩:=h3 _ (l4 e)
  exact ⟨a1,a2,a3⟩
 ·obtain ⟨⟨⟨⟨⟨a1,a2⟩,a3⟩,a4⟩,a5⟩,a6⟩:=h3 _ (l4 e)
  have e':some D=some D':=e'
  cases e'
  exact ⟨a4,a5,h1,h2⟩
 ·obtain ⟨⟨⟨⟨⟨a1,a2⟩,a3⟩,a4⟩,a5⟩,a6⟩:=h3 _ (l4 e)
  exact (a6 _ (l4 e')).elim (fun z=>absurd z n) id
end LD
namespace LD
open PySem PySem.Spec PySem.Calls PyProof.Rows
section
variable {prog:Ms}{w:Mv}{A:MZ}{E:LY->L4->Prop}{h:Heap}{g:Array GenState}{d:Drawn}{t:Nat}{os:MV}
variable {nm q:Str}{C N:Addr}{bs bm:List LY}{hdct:Bool}{sn:List Str}{sub:List LY}{ab:Bool}{col:Option Bool}{dd:Option Addr}{k0 k1 k2 k3 k5:Option LY}
theorem AQ {e:Addr}{oe:Obj}{vs:Array LY}{u:LY}{Q:LY->L4->Prop}(hC:h.get? C=some (excClassObj nm q C N bs bm hdct sn sub ab col dd k0 k1 k2 k3 k5 "ValueError.__new__"))(T:OwnTail h lG bm)
 (he:h.get? e=some oe) (hcls:oe.cls=.ref C) (hd:oe.data=.fields vs) {t0:Addr} (h0:vs[0]?=some (.ref t0))
 (hq:∀h' tp,(∀b o,b≠e->h.get? b=some o->h'.get? b=some o)->h'.get? e=some (oe.mapFields (·.setIfInBounds 0 (.ref tp)))->Q .none ⟨h',g,d,t,os⟩) :
 wpAny (model prog w) A (call (.builtin "ValueError.__init__") [.ref e,u]) Q E ⟨h,g,d,t,os⟩:=by
 refine wpAny_call (codeAny_call_builtin PySem.F.excBase_ValueError.init.plain PySem.F.excBase_ValueError.initEntry (wpAny_check_init_subT PySem.F.excBase_ValueError T hC he hcls ?_))
 wp_walk
 have he2:(h.push {cls:=.type "tuple",data:=.seq #[u]}).get? e=some oe:=L3 _ he
 rw [hd]
 refine tqb ?_
 rw [h0]
 refine tqb ?_
 refine tqa (wpAny_setField he2 hd (Nb.mp h0).1 ?_)
 wp_walk
 refine hq _ h.objs.size (fun b o hb e'=>?_) ?_
 ·rw [Na _ _ (Ng hb)];exact L3 _ e'
 ·exact NA _ he2 (N1 (Nr hd _))
end
noncomputable def j9:List LY->Bool
 |.ref _::r=>j9 r
 |l=>l==lG
theorem rJ (self:LY):∀{l:List LY},j9 l=true->refuseLoop self "__setattr__" l=pure ()
 |[],e=>absurd e (by decide)
 | a :: r, e => by
   cases a with
   |ref c=>rw [refuseLoop_ref];exact rJ self e
   | _ =>
     have q:=eq_of_beq (show (_::r==lG)=true from e)
     rw [q];exact PySem.F.store_ValueError.passes self
noncomputable def qD (K:LX)(C:Addr):Bool:=(PySem.W.clsIn K C).any (fun cd=>j9 cd.mro)&&PySem.W.mroIn K C (.type "object")==some true
theorem IJ {prog:Ms}{w:Mv}{A:MZ}{R:Result->L4->Prop}{s:L4}{K:LX}{x C:Addr}{ox:Obj}{od:Option Obj}{name:Str}{tk:Tok}{v:LY}(X:K.In s.heap)(J:PySem.W.InstAt s.heap x ox C od)(hp:qD K C=true)(ht:PySem.W.takerIn K C name=some none)
 (h:∀b,wpAny (model prog w) A.in1 (Builtin.ObjectAttr.storeInOwnDict (.ref x) (.ref C) (.str name tk) name v b) (fun fin s'=>match fin with|.done f=>R (.ok f) s'|.again c'=>c'.quiet=true/\codeAny (model prog w) A c' R s') (fun e s'=>R (.error e) s') s) :
 codeAny (model prog w) A (.call (.builtin "object.__setattr__") ⟨[.ref x,.str name tk,v],[]⟩) R s:=by
 unfold qD at hp
 rw [L6,beq_iff_eq] at hp
 obtain ⟨cd,hc,ho⟩:=PySem.W.any_some hp.1
 have G:=PySem.F.store_ValueError
 have ho:j9 cd.mro=true:=ho
 have e0:PySem.W.Looks (model prog w) s.heap (isInstance (.ref x) (.type "object")) true:=J.type.andThen (PySem.W.looks_mroIn X hp.2)
 obtain ⟨at',ha,hr⟩:=Nn.mp ht
 have e1:PySem.W.Looks (model prog w) s.heap (mroOf (.ref C)) cd.mro:=(PySem.W.looks_clsIn X hc).andThen .now
 have e2:PySem.W.Looks (model prog w) s.heap (Builtin.ObjectAttr.storeTaker? at') none:=by
  cases at' with
  |none=>exact .now
  | some a =>
    obtain ⟨b,hb,hn⟩:=MF.mp hr
    cases b with
    |true=>cases hn
    |false=>exact (PySem.W.looks_takesIn X hb).andThen .now
 refine codeAny_call_builtin PySem.F.store_object.slot.plain G.entry (@PySem.W.check_slot (model prog w) _ _ s "object.__setattr__" "object" "__setattr__" (.ref x) [.str name tk,v] [] _ G.kind G.split e0 (G.args (.ref x) (.str name tk) v) ?_)
 rw [PySem.W.osa_eq]
 refine tqa ?_
 rw [refuse_eq]
 refine tqa (J.type.here (tqa (e1.here ?_)))
 rw [rJ _ ho]
 exact tqb (tqa (J.type.here (tqa ((PySem.W.looks_findIn X ha).here (tqa (e2.here (h _)))))))
theorem Ei {prog:Ms}{w:Mv}{A:MZ}{E:LY->L4->Prop}{s:L4}{K:LX}{x C:Addr}{ox:Obj}{name:Str}{v:LY}{vs:Array LY}{Q:Unit->L4->Prop}(X:K.In s.heap)(J:PySem.W.InstAt s.heap x ox C none)
 (hs:PySem.W.findIn K (.ref C) "__setattr__"=some (some (.builtin "object.__setattr__"))) (hp:qD K C=true) (ht:PySem.W.takerIn K C name=some none) (hh:PySem.W.hasDictIn K C=true) (hd:ox.data=.fields vs)
 (h:∀h' d,s.heap.objs.size<=d->h'.Ns1 d (fun y=>if y=name then some v else none)->h'.get? x=some {ox with dict:=some d}->(∀b o,b≠x->s.heap.get? b=some o->h'.get? b=some o)->Q () {s with heap:=h',toks:=s.toks+2}) :
 wpAny (model prog w) A (setAttr (.ref x) name v) Q E s:=by
 refine PySem.W.set_plain X J hs (IJ (s:={s with toks:=s.toks+1}) X J hp ht fun b=>?_)
 obtain ⟨cd,hc,hd'⟩:=PySem.W.any_some hh
 have hx:=J.at_
 obtain ⟨oc,odi,oda,osl⟩:=ox
 obtain rfl:oc=.ref C:=J.cls
 obtain rfl:oda=.fields vs:=hd
 have hdi:odi=none:=by
  have:=J.dict
  cases odi with
  |none=>rfl
  |some d=>exact this.elim
 subst hdi
 refine tqa (tqb (tqa (tqa (wpAny_loadPart hx (tqa (PySem.W.Looks.here (s:={s with toks:=s.toks+1}) (PySem.W.looks_clsIn X hc) ?_))))))
 rw [hd']
 show wpAny _ _ (alloc {cls:=.type "dict",data:=.dict #[]} >>= fun d=>update x (fun o=>{o with dict:=some d}) >>= fun _=>(pure (some d):Sem (Option Addr))) _ _ _
 refine tqa (wpAny_alloc ?_)
 have hx2:(s.heap.push {cls:=.type "dict",data:=.dict #[]}).get? x=some ⟨.ref C,none,.fields vs,osl⟩:=L3 _ hx
 refine tqa (wpAny_update hx2 (tqb ?_))
 have hdx:s.heap.objs.size≠x:=Nc (Mi hx)
 have e1:(s.heap.push {cls:=.type "dict",data:=.dict #[]}).get? s.heap.objs.size=some {cls:=.type "dict",data:=.dict #[]}:=Mo s.heap rfl
 have e2:((s.heap.push {cls:=.type "dict",data:=.dict #[]}).update x (fun o=>{o with dict:=some s.heap.objs.size})).get? s.heap.objs.size=some {cls:=.type "dict",data:=.dict #[]}:=(Na _ _ (Ng hdx)).trans e1
 have e3:((s.heap.push {cls:=.type "dict",data:=.dict #[]}).update x (fun o=>{o with dict:=some s.heap.objs.size})).Ns s.heap.objs.size (fun _=>none):=⟨_,#[],_,e2,rfl,(fun e he=>absurd he (by simp)),fun _=>rfl⟩
 have e4:=NA (fun o=>{o with dict:=some s.heap.objs.size}) hx2 rfl
 refine tqa (tqb (tqa ?_))
 refine wpAny_nsSet1 (Heap.Ns1.of_empty e3) fun h' hn2 hs2=>?_
 obtain ⟨oD,esD,epD,hoD,hdD,hcD⟩:=hn2.count (PySem.Within.cons name v PySem.Within.nil)
 refine tqa (wpAny_lookBehind hoD (by rw [hdD];exact pastItsLine_dict (Mb hcD (by show 1<=sizeLine+1;omega))) ?_)
 refine tqb (h _ s.heap.objs.size (L7 _) hn2 ((hs2.2 _ (Ng hdx)).trans e4) fun b o hb e=>?_)
 rw [hs2.2 b (MO (Mi e)),Na _ _ (Ng hb)]
 exact L3 _ e
end LD
namespace LD
open PySem PySem.Spec PyProof.Rows L2
noncomputable def fit (z:Str)(i:Int)(y:Str):Prop:=i.natAbs.log2<1920/\(z++(toString i:Str)).length<=sizeLine/\(z++(toString i:Str)++y).length<=sizeLine
section
variable {X:Cx}{a:Expr}{ta:TE}{pos p1 p2 p3:Pos}{j j2:Nat}{z y:Str}
noncomputable def JO (z y:Str)(ta:TE):TE:=fun σ H Q=>z.length<=sizeLine/\ta σ H fun v H1=>∃i,v=.int i/\fit z i y/\Q (.str (z++(toString i:Str)++y)) H1
theorem qp (z:Str):Str.empty++z=z:=by
 cases z with
 |mk c=>show Str.mk (#[]++c)=_;simp
theorem vZ (z:Str):z++Str.empty=z:=by
 cases z with
 |mk c=>show Str.mk (c++#[])=_;simp
theorem IF (ha:PE X a ta):PE X (.JoinedStr [.Constant (.str z) j p1,.FormattedValue a (-1) none p2,.Constant (.str y) j2 p3] pos) (JO z y ta):=by
 intro pins s σ H Q I ⟨hz,h⟩
 refine JoinedStr_many (joinParts_cons (Calls.Constant_str ?_))
 show (Str.empty++z).length<=sizeLine/\_
 rw [qp]
 refine ⟨hz,joinParts_cons (FormattedValue_plain (aP (ha pins _ σ H _ (I.tok _) h) fun u s1 ⟨v,H1,I1,r1,i,ev,⟨f1,f2,f3⟩,q⟩=>?_))⟩
 subst ev
 obtain ⟨t,rfl⟩:=r1
 refine formatField_int_small f1 ⟨f2,joinParts_cons (Calls.Constant_str ⟨f3,joinParts_nil ?_ f3⟩)⟩
 exact ⟨.str _,H1,I1.tok _,⟨_,rfl⟩,q⟩
theorem IG (ha:PE X a ta):PE X (.JoinedStr [.Constant (.str z) j p1,.FormattedValue a (-1) none p2] pos) (JO z Str.empty ta):=by
 intro pins s σ H Q I ⟨hz,h⟩
 refine JoinedStr_many (joinParts_cons (Calls.Constant_str ?_))
 show (Str.empty++z).length<=sizeLine/\_
 rw [qp]
 refine ⟨hz,joinParts_cons (FormattedValue_plain (aP (ha pins _ σ H _ (I.tok _) h) fun u s1 ⟨v,H1,I1,r1,i,ev,⟨f1,f2,f3⟩,q⟩=>?_))⟩
 subst ev
 obtain ⟨t,rfl⟩:=r1
 refine formatField_int_small f1 ⟨f2,joinParts_nil ?_ f2⟩
 have e:z++(toString i:Str)++Str.empty=z++(toString i:Str):=by
  exact vZ _
 rw [e] at q
 exact ⟨.str _,H1,I1.tok _,⟨_,rfl⟩,q⟩
end
noncomputable def dO (C:Addr)(dx:Option Addr)(a:Addr)(h:Heap):Prop:=∃o vs t0,h.get? a=some o/\o.cls=.ref C/\o.dict=dx/\o.data=.fields vs/\vs[0]?=some (.ref t0)/\vs[1]?=some .none
noncomputable def jT (K:LX)(C:Addr)(fI:Addr):Bool:=Fn K C fun cd C' bm n=>C'==C&&n=="ValueError.__new__"&&!cd.hasDel&&PySem.W.tailIn K lG bm&&PySem.W.nsOkIn K cd.ns&&PySem.W.nsIn K cd.ns "__init__"==some (some (.ref fI))
theorem vj {K:LX}{h:Heap}{N:Addr}{x:Str}{v:LY}{mg:Str->Option LY}(X:K.In h)(G:h.Ns N mg)(e:PySem.W.nsIn K N x=some (some v)):mg x=some v:=by
 obtain ⟨o,es,ep,ho,hd,_,hf⟩:=G
 unfold PySem.W.nsIn at e
 split at e
 ·rename_i c d es' n' sl q
  have:=X _ _ q
  rw [ho] at this
  cases this
  cases hd
  split at e
  ·rename_i en he
   cases e
   rw [<- hf]
   unfold nsFind findBy
   rw [<- Array.find?_toList,he]
   rfl
  ·split at e<;>cases e
 ·cases e
theorem lj {K:LX}{h:Heap}{C fI:Addr}(X:K.In h)(q:jT K C fI=true) :
 ∃bm N nm q bs hdct sn sub ab col dd k0 k1 k2 k3 k5 mN,h.get? C=some (excClassObj nm q C N bs bm hdct sn sub ab col dd k0 k1 k2 k3 k5 "ValueError.__new__")/\h.Ns N mN/\mN "__init__"=some (.ref fI)/\OwnTail h lG bm:=by
 obtain ⟨bm,ns,nm,qn,bs,hd,sn,sub,ab,col,dd,k0,k1,k2,k3,k5,dl,n,C',q,ho⟩:=xl X q
 simp only [L6,beq_iff_eq,NW] at q
 obtain ⟨⟨⟨⟨⟨rfl,rfl⟩,rfl⟩,ht⟩,hok⟩,hni⟩:=q
 exact ⟨bm,ns,nm,qn,bs,hd,sn,sub,ab,col,dd,k0,k1,k2,k3,k5,_,ho,.of_isNs (PySem.W.isNs_of_in X hok),vj X (.of_isNs (PySem.W.isNs_of_in X hok)) hni,PySem.W.tail_of_in X ht⟩
theorem zb {H:Hp}{a:Addr}{o:HO}(h:H a=some o):upd H a o=H:=by
 funext b
 unfold upd
 split
 ·next e=>rw [e,h]
 ·rfl
section
variable {X:Cx}{a b:Expr}{ta tb:TE}{apos cpos p1 pos:Pos}{x:Str}{D:Addr}
noncomputable def Ko (K:LX)(ta tb:TE):TE:=fun σ H Q=>ta σ H fun v H1=>tb σ H1 fun u H2=>∃e C fI,v=.ref e/\H2 e=some (.ext (dO C none e))/\jT K C fI=true/\Q .non H2
theorem oG {P:Ms}{w:Mv}{H:Hp}{h:Heap}{C e:Addr}{dx:Option Addr}(x:dO C dx e h):b8 P w H h e (.ext (dO C dx e)):=by
 refine ⟨x,let ⟨o,_,_,e,_⟩:=x;⟨o,e⟩,fun g1 g2 ⟨o,vs,t0,k1,k2⟩ kk=>⟨o,vs,t0,kk o k1,k2⟩⟩
theorem F8 {pl:Sem Bool}(hD:X.mg x=some (.ref D))(hg:Gl X x)(h1:PySem.W.readsIn X.K D (.type "type")=true)(h2:PySem.W.findCls X.K (.ref D) (.type "type") "__init__"=some (.val (.builtin "ValueError.__init__")))
 (h3:PySem.W.specialIn X.K (.ref D) "__getattribute__"=some (some (.builtin "type.__getattribute__"))) (ha:PE X a ta) (hb:PE X b tb) (he:notStar a=true) (he2:notStar b=true) (hdb:(x==("__debug__":Str))=false)
 (ht:eval (.Call (.Attribute (.Name x p1) "__init__" apos) [a,b] [] cpos) X.env=(do
  let ov <- eval (.Name x p1) X.env
  standAt apos.atName
  let (f,first) <- holding [ov] (getMethod ov "__init__" pl)
  callWith cpos f first (backTo cpos (starEach [a,b] X.env)) (backToKw cpos (keywordEach [] X.env)))) :
 PE X (.Call (.Attribute (.Name x p1) "__init__" apos) [a,b] [] cpos) (Ko X.K ta tb):=by
 intro pins s σ H Q I h
 refine PySem.W.methodCall_KW (pl:=pl) (fK I hg hD ?_ hdb) ht
 refine PySem.W.method_cls I.kIn h3 (PySem.W.cls_value I.kIn h1 h2 rfl ?_)
 refine Calls.callWith_builtin (b9 (es:=[a,b]) (by simp [he,he2])) ?_
 have ar:=aP ((cH ha (cH hb fi (bh he2)) (bh he)) cpos pins {s with toks:=s.toks+1} σ H (fun vs H2=>match vs with|[v,u]=>∃e C fI,v=.ref e/\H2 e=some (.ext (dO C none e))/\jT X.K C fI=true/\Q .non H2|_=>False) (I.tok _) h) (Q':=fun us s2=>wpAny (model X.prog X.w) X.A (call (.builtin "ValueError.__init__") ([]++us) []) (EP X pins σ Q) X.xe s2) fun us s1 ⟨vs,H1,I1,r,hq⟩=>by
  match vs,r,hq with
  |[],_,hq=>exact hq.elim
  |[_],_,hq=>exact hq.elim
  |_::_::_::_,_,hq=>exact hq.elim
  | [v, u], r, ⟨e, C, fI, ev, hH, hx, q⟩ =>
    subst ev
    obtain ⟨w1,w2,rfl,r1,r2⟩:=vals2 r
    obtain rfl:w1=Value.ref e:=r1
    obtain ⟨⟨o,vs,t0,k1,k2,k3,k4,k5,k6⟩,_,_⟩:=I1.hok e _ hH
    obtain ⟨bm,N,nm,qq,bs,hdct,sn,sub,ab,col,dd,c0,c1,c2,c3,c5,mN,hC,hN,hni,T⟩:=lj I1.kIn hx
    obtain ⟨hp,gg,dr,tk,os⟩:=s1
    refine AQ hC T k1 k2 k4 k5 fun h' tp kk ke=>?_
    have nw:dO C none e h':=⟨_,_,tp,ke,by rw [Obj.cls_mapFields];exact k2,by rw [lC];exact k3,Nr k4 _,by simp [(Nb.mp k5).1],by rw [Array.getElem?_setIfInBounds_ne (by decide)];exact k6⟩
    have I2:=I1.write (x:=e) (e:=e) (o:=.ext (dO C none e)) (h':=h') (t':=tk) (by rw [hH];exact True.intro) (.inl rfl) (fun b u hb z=>kk b u hb z) ⟨_,ke⟩ (oG nw)
    rw [zb hH] at I2
    exact ⟨.non,H1,I2,rfl,q⟩
 rw [bh he] at ar ⊢
 exact PySem.Calls.evalArgs_plain ar
end
noncomputable def setIn (K:LX)(C:Addr)(fld:Str):Bool:=PySem.W.findIn K (.ref C) "__setattr__"==some (some (.builtin "object.__setattr__"))&&qD K C&&PySem.W.takerIn K C fld==some none&&PySem.W.hasDictIn K C
section
variable {X:Cx}{o value:Expr}{to tv:TE}{p' pos:Pos}{fld:Str}
noncomputable def Ih (K:LX)(tv to:TE)(fld:Str):TS:=fun D σ H=>tv σ H fun y H1=>to σ H1 fun x H2=>∃e C i,x=.ref e/\y=.int i/\H2 e=some (.ext (dO C none e))/\setIn K C fld=true/\∀d,H2 d=none->d≠e->D.nx σ (upd (upd H2 d (.xd [(fld,.int i)])) e (.ext (dO C (some d) e)))
theorem DG (ho:PE X o to)(hv:PE X value tv)(hs:swapsWith value (some (.Attribute o fld p')) pos.line X.env=pure false):PS X (.Assign [.Attribute o fld p'] value pos) (Ih X.K tv to fld):=by
 intro pins s σ H D I h
 refine plainObj_wpAny_Assign_Attribute (aP (hv pins s σ H _ I h) fun u s1 ⟨y,H1,I1,ry,q⟩=>aP (ho pins s1 σ H1 _ I1 q) fun ov s2 ⟨x,H2,I2,rx,e,C,i,ex,ey,hH,hset,q2⟩=>?_) hs
 subst ex ey
 obtain rfl:ov=Value.ref e:=rx
 obtain ⟨t,rfl⟩:=ry
 simp only [setIn,L6,beq_iff_eq] at hset
 obtain ⟨⟨⟨g1,g2⟩,g3⟩,g4⟩:=hset
 obtain ⟨⟨ob,vs,t0,k1,k2,k3,k4,k5,k6⟩,_,_⟩:=I2.hok e _ hH
 have IA:PySem.W.InstAt s2.heap e ob C none:=⟨k1,k2,by unfold PySem.W.notCls;rw [k4],by rw [k3];trivial⟩
 refine Ei I2.kIn IA g1 g2 g3 g4 k4 fun h' d hd hns hx' kk=>?_
 have hd0:H2 d=none:=I2.hok.fresh hd
 have hde:d≠e:=fun z=>by rw [z,hH] at hd0;cases hd0
 have lt:∀b o,s2.heap.get? b=some o->b≠d:=fun b o q z=>absurd (Mi q) (by rw [z];exact Nat.not_lt.mpr hd)
 have ne:∀b,H2 b=none->b≠e:=fun b q z=>by rw [z,hH] at q;cases q
 have up:∀b,b≠d->b≠e->upd (upd H2 d (.xd [(fld,.int i)])) e (.ext (dO C (some d) e)) b=H2 b:=fun b z1 z2=>by rw [ax z2,ax z1]
 have nd:∀b u,H2 b=some u->b≠d:=fun b u q=>aO q hd0
 refine ⟨σ,_,I2.un (h':=h') (t':=s2.toks+2) (H':=upd (upd H2 d (.xd [(fld,.int i)])) e (.ext (dO C (some d) e))) ⟨fun b o q n _ _=>kk b o (ne b n) q,fun b o q n _ _=>⟨o.slots,kk b o (ne b n) q⟩,fun b o q n _=>?_,fun b o q _=>?_,fun b xs q=>?_,fun b o u q=>?_,fun b ps q=>⟨#[],?_⟩⟩ fun b u q=>?_,q2 d hd0 hde⟩
 ·rw [up b (lt b o q) (ne b n)];exact n
 ·by_cases z:b=e
  ·exact ⟨_,by rw [z];exact hx'⟩
  ·exact ⟨o,kk b o z q⟩
 ·rw [up b (nd b _ q) (fun z=>by rw [z,hH] at q;cases q)];exact q
 ·rw [up b (nd b _ q) (fun z=>by rw [z,hH] at q;cases q)];exact q
 ·rw [up b (nd b _ q) (fun z=>by rw [z,hH] at q;cases q)];simpa using q
 ·by_cases z:b=e
  ·subst z
   rw [bw] at q;cases q
   exact oG ⟨_,vs,t0,hx',k2,rfl,k4,k5,k6⟩
  ·by_cases z2:b=d
   ·subst z2
    rw [ax hde,bw] at q;cases q
    refine ⟨_,hns,fun f=>?_⟩
    by_cases hf:f=fld
    ·subst hf
     simp only [MK,beq_self_eq_true,if_true]
     exact ⟨t,rfl⟩
    ·rw [if_neg hf]
     have:([(fld,V.int i)]:List (Str×V)).lookup f=none:=by simp [MK,MP.mpr hf]
     rw [this];trivial
   ·rw [up b z2 z] at q
    refine (I2.hok b u q).stay (fun c v hc w=>kk c v ?_ w) (fun c w=>?_) fun c xs w=>?_
    ·rcases hc with hc|hc
     ·rw [hc];exact z
     ·intro y;rw [y,hH] at hc;cases hc
    ·rw [up c (nd c _ w) (fun y=>by rw [y,hH] at w;cases w)];exact w
    ·rw [up c (nd c _ w) (fun y=>by rw [y,hH] at w;cases w)];exact w
end
end LD
namespace LD
open PySem PySem.Spec PyProof.Rows
section
variable {prog:Ms}{w:Mv}{A:MZ}{E:LY->L4->Prop}{h:Heap}{g:Array GenState}{d:Drawn}{t:Nat}{os:MV}
variable {nm q:Str}{C N:Addr}{bs bm:List LY}{hdct:Bool}{sn:List Str}{sub:List LY}{ab:Bool}{col:Option Bool}{dd:Option Addr}{k0 k1 k2 k3 k5:Option LY}
theorem qu {mN:Str->Option LY}{rest:List LY}{fI:Addr}{oI:Obj}{Q:Fin->L4->Prop}
 (hC:h.get? C=some (excClassObj nm q C N bs bm hdct sn sub ab col dd k0 k1 k2 k3 k5 "ValueError.__new__")) (T:OwnTail h lG bm) (hn:h.Ns N mN) (hi:mN "__init__"=some (.ref fI)) (hfI:h.get? fI=some oI) (hfc:oI.cls=.type "function")
 (hq:∀h' e,Heap.MadeExcOf h h' e (.ref C) rest->wpAny (model prog w) A (call (.ref fI) (.ref e::rest)) (fun r s'=>r=.none/\Q (.done (.ret (.ref e))) s') E ⟨h',g,d,t,os⟩) (hrest:rest.length<=sizeLine) :
 wpAny (model prog w) A (Builtin.«type.__call__» ⟨.ref C::rest,[]⟩) Q E ⟨h,g,d,t,os⟩:=by
 have F:=PySem.F.excBase_ValueError
 repeat (first|with_reducible refine wpAny_loadPart_at hC ?_|with_reducible refine wpAny_madeBy_exc hC ?_|wp_step)
 refine codeAny_call_builtin_code (Code.quiet_builtin _ F.quiet) (wpAny_check_new_subT F T hC ?_)
 refine codeAny_exc_new_subT F T hC ?_ hrest
 show wpAny _ _ _ _ _ _
 have kp:∀b o,h.get? b=some o->((h.push {cls:=.type "tuple",data:=.seq rest.toArray}).push {cls:=.ref C,data:=.fields #[.ref h.objs.size,.none,.none,.none,.bool false,.none]}).get? b=some o:=fun b o hb=>L3 _ (L3 _ hb)
 have hC₁:=kp _ _ hC
 have hfI₁:=kp _ _ hfI
 have hn₁:=hn.keeps kp
 have T₁:=T.keeps kp
 have hget:((h.push {cls:=.type "tuple",data:=.seq rest.toArray}).push {cls:=.ref C,data:=.fields #[.ref h.objs.size,.none,.none,.none,.bool false,.none]}).get? (h.objs.size+1)=some {cls:=.ref C,data:=.fields #[.ref h.objs.size,.none,.none,.none,.bool false,.none]}:=by heap_get
 have hcC:(Value.ref C::bm).contains (.ref C)=true:=by simp
 unfold isInstance
 repeat (first|with_reducible refine wpAny_loadPart_at hget ?_|(with_reducible refine wpAny_isSubtype_exc hC₁ ?_;rw [hcC])|wp_step)
 show wpAny _ _ (typeLookup (.ref C) _) _ _ _
 refine wpAny_typeLookup_tail hC₁ hn₁ T₁ F.mroIs F.init.lookup ?_
 rw [hi]
 refine tqo (tqa ?_)
 unfold bindSpecial
 refine tqa (wpAny_typeOf (T:="function") ⟨_,hfI₁,hfc⟩ ?_)
 rw [if_pos (by decide)]
 refine tqb (tqa (wpAny_mono (hq _ (h.objs.size+1) ⟨kp,Heap.get?_none_of_le (NQ _),h.objs.size,hget,Heap.get?_none_of_le (L7 _),?_⟩) (fun r s' hr=>?_) fun _ _ x=>x))
 ·exact L3 _ (Heap.get?_push_at rfl rfl)
 ·obtain ⟨rfl,hQ⟩:=hr
  wp_walk
  exact hQ
theorem yM {mN:Str->Option LY}{rest:List LY}{fI:Addr}{oI:Obj}{Q:LY->L4->Prop}
 (hC:h.get? C=some (excClassObj nm q C N bs bm hdct sn sub ab col dd k0 k1 k2 k3 k5 "ValueError.__new__")) (T:OwnTail h lG bm) (hn:h.Ns N mN) (hi:mN "__init__"=some (.ref fI)) (hfI:h.get? fI=some oI) (hfc:oI.cls=.type "function")
 (hq:∀h' e,Heap.MadeExcOf h h' e (.ref C) rest->wpAny (model prog w) (A.under (.builtin "type.__call__" ⟨.ref C::rest,[]⟩)) (call (.ref fI) (.ref e::rest)) (fun r s'=>r=.none/\Q (.ref e) s') E ⟨h',g,d,t,os⟩) (hrest:rest.length<=sizeLine) :
 wpAny (model prog w) A (call (.ref C) rest) Q E ⟨h,g,d,t,os⟩:=by
 have f1:=tc_lookup
 have f2:=tc_bind (.ref C)
 have hT:(⟨h,g,d,t,os⟩:L4).TypeIs (.ref C) "type":=⟨_,hC,rfl⟩
 refine wpAny_call (codeAny_of_tree ?_)
 show wpAny _ _ (callAny (.ref C) _) _ _ _
 repeat (any_goals (first|assumption|with_reducible refine wpAny_loadPart_at hC ?_|wp_step))
 refine ⟨rfl,?_⟩
 refine codeAny_call_builtin_at (Code.quiet_builtin _ (by decide +kernel)) entry_typeCall (wpAny_check_type_call_sub hC (qu hC T hn hi hfI hfc (fun h' e hm=>?_) hrest))
 exact hq h' e hm
end
end LD
namespace LD
open PySem PySem.Spec PyProof.Rows L2
noncomputable def CA (x m:Str)(a b:Expr)(p1 apos cpos:Pos)(env:MN):Prop:=∃pl,eval (.Call (.Attribute (.Name x p1) m apos) [a,b] [] cpos) env=(do
 let ov <- eval (.Name x p1) env
 standAt apos.atName
 let (f,first) <- holding [ov] (getMethod ov m pl)
 callWith cpos f first (backTo cpos (starEach [a,b] env)) (backToKw cpos (keywordEach [] env)))
noncomputable def JR (C:Addr)(fld:Str):Sp:=fun vs H Q _=>∃e i,vs=[.ref e,.int i]/\H e=some (.ext (dO C none e))/\i.natAbs<2^64/\∀d,H d=none->d≠e->Q .non (upd (upd H d (.xd [(fld,.int i)])) e (.ext (dO C (some d) e)))
theorem len_app (a b:Str):(a++b).length=a.length+b.length:=by
 show (Str.append a b).length=_
 unfold Str.append Str.length
 simp
theorem yy {z y:Str}{i:Int}(hz:z.length<=1000)(hy:y.length<=1000)(hi:i.natAbs<2^64):fit z i y:=by
 have h1:i.natAbs.log2<1920:=by
  by_cases h0:i.natAbs=0
  ·rw [h0];decide
  ·exact Mj ((Nat.log2_lt h0).mpr hi) (by omega)
 have h2:((toString i:Str)).length<=1921:=PyProof.Rows.int_text_len_1921 h1
 have hs:sizeLine=16777216:=cS.symm
 refine ⟨h1,?_,?_⟩
 ·rw [len_app];omega
 ·rw [len_app,len_app];omega
section
variable {P:Ms}{w:Mv}{K:LX}{mg:Str->Option LY}{base:Heap}{qual y fld z:Str}{st:Stmt}{f C D fI:Addr}{fd:N8}{p1 p2 p3 p4 p5 p6 p7 p8 p9 p10 p11 p12 p13:Pos}{j:Nat}
theorem G7 (F:oE K "__init__" qual st f fd)(S:fU ["self",y] ["self",y] (aK st))
 (hb:cp st=[.Expr (.Call (.Attribute (.Name "DeedError" p1) "__init__" p2) [.Name "self" p3,.JoinedStr [.Constant (.str z) j p4,.FormattedValue (.Name y p5) (-1) none p6] p7] [] p8) p9,.Assign [.Attribute (.Name "self" p10) fld p11] (.Name y p12) p13])
 (hev:∀L cd,CA "DeedError" "__init__" (.Name "self" p3) (.JoinedStr [.Constant (.str z) j p4,.FormattedValue (.Name y p5) (-1) none p6] p7) p1 p2 p8 (envOfC qual (aK st) L f cd))
 (hz:z.length<=1000) (hyd:(y==("__debug__":Str))=false) (hyc:(y==("__classdict__":Str))=false) (v0:(aK st).names.lookup ("self":Str)=some .local) (v1:(aK st).names.lookup y=some .local)
 (hg:∀L cd,(envOfC qual (aK st) L f cd).kindOf "DeedError"=some .globalImplicit) (hD:mg "DeedError"=some (.ref D)) (h1:PySem.W.readsIn K D (.type "type")=true) (h2:PySem.W.findCls K (.ref D) (.type "type") "__init__"=some (.val (.builtin "ValueError.__init__")))
 (h3:PySem.W.specialIn K (.ref D) "__getattribute__"=some (some (.builtin "type.__getattribute__"))) (hC:jT K C fI=true) (hset:setIn K C fld=true):fG P w K mg base (fu P w) 1 f fd ["self",y] (JR C fld):=by
 refine oY F S (fun vs H Q E ⟨e,i,ev,_⟩=>by rw [ev];rfl) fun cdv A outer s H vs Q E hr ⟨e,i,ev,hH,hi,q⟩=>?_
 subst ev
 rw [hb]
 have V0:qr (dY (fu P w) P w K mg base ["self",y] qual (aK st) f cdv A outer s H E).env.scope "self":=.inl v0
 have V1:qr (dY (fu P w) P w K mg base ["self",y] qual (aK st) f cdv A outer s H E).env.scope y:=.inl v1
 have a0:∀p,PE (dY (fu P w) P w K mg base ["self",y] qual (aK st) f cdv A outer s H E) (.Name "self" p) (zx 0):=fun p=>nS (i:=0) rfl V0
 have a1:∀p,PE (dY (fu P w) P w K mg base ["self",y] qual (aK st) f cdv A outer s H E) (.Name y p) (zx 1):=fun p=>nS (i:=1) rfl V1 hyd hyc
 obtain ⟨pl,hev⟩:=hev s.heap.objs.size cdv
 refine ⟨_,mS (lN (F8 (pl:=pl) hD (hg _ _) h1 h2 h3 (a0 p3) (IG (a1 p5)) rfl rfl rfl hev) rfl) (mS (DG (a0 p10) (a1 p12) rfl) ue),?_⟩
 refine ⟨.ref e,rfl,Mb hz (by rw [<- cS];decide),.int i,rfl,i,rfl,yy hz (by decide) hi,e,C,fI,rfl,hH,hC,?_⟩
 exact ⟨.int i,rfl,.ref e,rfl,e,C,i,rfl,rfl,hH,hset,fun d hd hde=>q d hd hde⟩
end
end LD
namespace LD
open PySem PySem.Spec PyProof.Rows L2
noncomputable def jX (fa:Fa)(P:Ms)(w:Mv)(K:LX)(mg:Str->Option LY)(base:Heap)(c:Nat)(x:Str):Prop:=
 ∃C fI fd y oI,mg x=some (.ref C)/\fa (eE c)=some C/\jT K C fI=true/\PySem.W.keepIn K (.ref C)=true/\K.lookup fI=some oI/\oI.cls=.type "function"/\Binds K fd ["self",y] []/\fG P w K mg base (fu P w) 1 fI fd ["self",y] (JR C (fV c))
section
variable {X:Cx}{pins:List (Addr×Obj)}{σ:L2.St}{H H0:Hp}{s:L4}{fa:Fa}
theorem tK {a:Addr}{φ:Heap->Prop}(I:Inv X pins σ H s)(ha:H a=some (.ext φ))(hH:∀b,b≠a->H0 b=H b)(hz:H0 a=none):Inv X pins σ H0 s:=by
 have nn:∀b,H b=none->b≠a:=fun b q z=>by rw [z,ha] at q;cases q
 have no:∀b u,H b=some u->(∀φ,u≠.ext φ)->H0 b=some u:=fun b u q n=>by
  rw [hH b (fun z=>by rw [z,ha] at q;cases q;exact n _ rfl)];exact q
 refine ⟨I.ok,I.os,I.bare,⟨I.base.keep,I.base.slot,fun b o e n hx=>?_,I.base.there,fun b xs e=>?_,fun b o u e=>?_,fun b ps e=>?_⟩,I.loc,I.cell,?_,fun x c e=>?_,fun p hp'=>?_,fun b u e=>?_,I.len⟩
 ·have q:=I.base.free b o e n hx
  rw [hH b (nn b q)];exact q
 ·exact no _ _ (I.base.tups b xs e) (fun _ z=>nomatch z)
 ·exact no _ _ (I.base.frzs b o u e) (fun _ z=>nomatch z)
 ·obtain ⟨m,q⟩:=I.base.tbls b ps e
  exact ⟨m,no _ _ q (fun _ z=>nomatch z)⟩
 ·rw [hH _ (nn _ I.free)];exact I.free
 ·rw [hH _ (nn _ (I.freeC x c e))];exact I.freeC x c e
 ·obtain ⟨e,n,r⟩:=I.pin p hp'
  exact ⟨e,by rw [hH _ (nn _ n)];exact n,r⟩
 ·by_cases hb:b=a
  ·rw [hb,hz] at e;cases e
  ·rw [hH b hb] at e
   exact (I.hok b u e).stay (fun c v _ q=>q) (fun c q=>no _ _ q (fun _ z=>nomatch z)) fun c xs q=>no _ _ q (fun _ z=>nomatch z)
theorem GO {c:Nat}{x:Str}{C:Addr}{i:Int}{t:Tok}{Q:LY->L4->Prop}(J:jX fa X.prog X.w X.K X.mg X.base c x)(hr:bC 2 X.A)(hex:X.ex=[])(I:Inv X pins σ H s)(hC:X.mg x=some (.ref C))(hi:i.natAbs<2^64)
 (h:∀e d s',fa (eE c)=some C->nj X e->H e=none->H d=none->d≠e->Inv X pins σ (upd (upd H d (.xd [(fV c,.int i)])) e (.ext (dO C (some d) e))) s'->Q (.ref e) s'):wpAny (model X.prog X.w) X.A (call (.ref C) [.int i t]) Q X.xe s:=by
 obtain ⟨C',fI,fd,y,oI,m1,hf,hin,hk,hfI,hfc,hb,F⟩:=J
 rw [hC] at m1
 cases m1
 obtain ⟨bm,N,nm,q,bs,hdct,sn,sub,ab,col,dd,k0,k1,k2,k3,k5,mN,hCo,hN,hni,T⟩:=lj I.kIn hin
 obtain ⟨hp,g,dr,tk,os⟩:=s
 refine yM hCo T hN hni (I.kIn _ _ hfI) hfc (fun h' e hm=>?_) (by rw [<- cS];exact NG rfl)
 obtain ⟨tp,ht,_,_⟩:=hm.there
 obtain ⟨n1,n2⟩:=su I hex hm.new
 have I1:=I.kept (t':=tk) hm.keeps
 have I2:Inv X pins σ (upd H e (.ext (dO C none e))) ⟨h',g,dr,tk,os⟩:=yn I1 hex n2 n1.1 ⟨_,_,ht,rfl⟩ (fun p hp z=>by
  have:=(I.pin p hp).1
  rw [z,hm.new] at this;cases this) (oG ⟨_,_,tp,ht,rfl,rfl,rfl,rfl,rfl⟩)
 have hb':=hb ⟨h',g,dr,tk,os⟩ [.ref e,.int i t] I2.kIn rfl
 rw [Ob] at hb'
 refine wpAny_call (codeAny_mono (F.run _ X.stack ⟨h',g,dr,tk,os⟩ (upd H e (.ext (dO C none e))) ⟨[.ref e,.int i t],[]⟩ [.ref e,.int i t] [.ref e,.int i] (fun v H'=>v=.non/\∃d,H d=none/\d≠e/\H'=upd (upd H d (.xd [(fV c,.int i)])) e (.ext (dO C (some d) e))) (fun _ _ _=>False) (hr.make C [.int i t] []) (I2.env0.make C [.int i t] []) hb' (.cons rfl (.cons ⟨t,rfl⟩ .nil)) ?_) fun r s' hq'=>?_)
 ·refine ⟨e,i,rfl,bw,hi,fun d hd hde=>⟨rfl,d,by rw [ax hde] at hd;exact hd,hde,?_⟩⟩
  funext b
  unfold upd
  split
  ·rfl
  ·split
   ·rfl
   ·rfl
 ·cases r with
  | error e' =>
    obtain ⟨_,_,_,_,_,_,_,_,_,_,z⟩:=hq'
    exact z.elim
  | ok fl =>
    cases fl with
    | ret u =>
      obtain ⟨v,H',I3,rv,ev,d,hd,hde,eH⟩:=I2.after hq'
      subst ev eH
      exact ⟨rv,h e d s' hf n1 n2 hd hde I3⟩
    |next=>exact False.elim hq'
    |brk=>exact False.elim hq'
    |cont=>exact False.elim hq'
end
noncomputable def gMkI (c:Nat)(a:GE):GE:=fun Z M=>(a Z M).bind fun d M=>match d with
 |.int i=>if i.natAbs<2^64 then .ok (.exc c (some i)) M else .bad
 |_=>.bad
noncomputable def jI (c:Nat)(a:GE):GS:=fun Z M=>match a Z M with
 |.ok (.int i) M=>if i.natAbs<2^64 then .ok (.exc (.exc c (some i)) Z) M else .bad
 |_=>.bad
theorem vd {M:Model}{A:MZ}{E:LY->L4->Prop}{env:MN}{nm q:Str}{C N:Addr}{bs bm:List LY}{hdct:Bool}{sn:List Str}{sub:List LY}{ab:Bool}{col:Option Bool}{dd:Option Addr}{k0 k1 k2 k3 k5:Option LY}{newId:String}
 {s:L4}{x:Sem LY}{Q:Flow->L4->Prop} (hbase:bm.contains (.type "BaseException")=true) (hh:A.handled=none)
 (h:wpAny M A x (fun v s₁=>∃e o vs,v=.ref e/\s₁.heap.get? C=some (excClassObj nm q C N bs bm hdct sn sub ab col dd k0 k1 k2 k3 k5 newId)/\s₁.heap.get? e=some o/\o.cls=.ref C/\o.data=.fields vs/\vs[1]?=some .none/\E (.ref e) s₁) E s) :
 wpAny M A (raiseStmt env (some x) none) Q E s:=by
 have hcB:(Value.ref C::bm).contains (.type "BaseException")=true:=by rw [List.contains_cons,hbase,Bool.or_true]
 unfold raiseStmt
 refine tqa (wpAny_mono h (fun v s₁ h₁=>?_) fun _ _ x=>x)
 obtain ⟨e,⟨cl,od,da,sl⟩,vs,rfl,hC,he,hc,hd,h1,hE⟩:=h₁
 obtain rfl:cl=.ref C:=hc
 obtain rfl:da=.fields vs:=hd
 obtain ⟨hp,g,d,tk,os⟩:=s₁
 repeat (first|with_reducible refine wpAny_loadPart_at he ?_|with_reducible refine wpAny_loadPart_at hC ?_|(with_reducible refine wpAny_isSubtype_exc hC ?_;rw [hcB])|(with_reducible refine tqf he rfl h1 ?_)|wp_step)
 exact wpAny_raiseNew_none hh hE
section
variable {fa:Fa}{X:Cx}{a b:Expr}{ga gb:GE}{ta:GT}{pos p np cpos:Pos}{es:List Expr}{gs:GA}{n:Nat}{x:Str}
theorem AS (c:Nat){pins:List (Addr×Obj)}{σ:L2.St}{H:Hp}{s:L4}{Q:LY->L4->Prop}(J:jX fa X.prog X.w X.K X.mg X.base c x)(hr:bC 2 X.A)(hex:X.ex=[])(hg:Gl X x)(ha:DE fa X a ga)(hdb:(x==("__debug__":Str))=false)(he:notStar a=true)(I:Inv X pins σ H s)
 (h:∃μ Z M,a7 fa X.K μ H σ Z/\RelM fa X.K μ H M/\ag (ga Z M) fun d M'=>∃i,d=.int i/\i.natAbs<2^64/\∀H1 μ1 e d C s',Ext μ H μ1 H1->a7 fa X.K μ1 H1 σ Z->RelM fa X.K μ1 H1 M'->X.mg x=some (.ref C)->fa (eE c)=some C->nj X e->H1 e=none->H1 d=none->d≠e->Inv X pins σ (upd (upd H1 d (.xd [(fV c,.int i)])) e (.ext (dO C (some d) e))) s'->Q (.ref e) s') :
 wpAny (model X.prog X.w) X.A (eval (.Call (.Name x np) [a] [] cpos) X.env) Q X.xe s:=by
 obtain ⟨μ,Z,M,hE,hM,h⟩:=h
 obtain ⟨C,fI,fd,y,oI,m1,hf,hin,hk,r⟩:=id J
 refine wpAny_Call_Name_kw (fK I hg m1 ?_ hdb)
 refine NR (h₀:=X.base) I.ok.mod.kin hk (aP (cH ha fi (bh he) cpos pins s σ H (fun vs H1=>∃μ1 M1 i,Ext μ H μ1 H1/\RelM fa X.K μ1 H1 M1/\vs=[.int i]/\i.natAbs<2^64/\∀H1 μ1 e d C s',Ext μ H μ1 H1->a7 fa X.K μ1 H1 σ Z->RelM fa X.K μ1 H1 M1->X.mg x=some (.ref C)->fa (eE c)=some C->nj X e->H1 e=none->H1 d=none->d≠e->Inv X pins σ (upd (upd H1 d (.xd [(fV c,.int i)])) e (.ext (dO C (some d) e))) s'->Q (.ref e) s') I ⟨μ,Z,M,hE,hM,aT h fun d M' ⟨i,ed,hi,k⟩ v H1 μ1 x1 m1 r1=>by
  subst ed
  obtain rfl:v=.int i:=r1
  exact ⟨μ1,M',i,x1,m1,rfl,hi,k⟩⟩) fun us s1 ⟨vs,H1,I1,r,μ1,M1,i,x1,mm,ev,hi,k⟩=>⟨I1.kIn,?_⟩) (bh he) (b9 (es:=[]) rfl)
 subst ev
 cases r with
 | cons r1 r2 =>
   cases r2
   obtain ⟨t,rfl⟩:=r1
   exact GO J hr hex I1 m1 hi fun e d s' hfa n1 n2 hd hde I3=>k H1 μ1 e d C s' x1 (hE.ext x1) mm m1 hfa n1 n2 hd hde I3
theorem zQ (c:Nat)(J:jX fa X.prog X.w X.K X.mg X.base c x)(hr:bC 2 X.A)(hex:X.ex=[])(hg:Gl X x)(hc:X.calm=true)(ha:DE fa X a ga)(hdb:(x==("__debug__":Str))=false)(he:notStar a=true):DS fa X (.Raise (some (.Call (.Name x np) [a] [] cpos)) none pos) (jI c ga):=by
 intro pins s σ H D' I ⟨μ,Z,M,hE,hM,h⟩
 obtain ⟨C,fI,fd,y,oI,m1,hf,hin,hk,r⟩:=id J
 obtain ⟨bm,N,nm,q,bs,hdct,sn,sub,ab,col,dd,k0,k1,k2,k3,k5,mN,hCo,hN,hni,T⟩:=lj I.ok.mod.kin hin
 rw [arm_exec_Raise]
 simp only [evalOpt,Option.map]
 refine tqa (wpAny_standAt (vd (C:=C) (nm:=nm) (q:=q) (N:=N) (bs:=bs) (bm:=bm) (hdct:=hdct) (sn:=sn) (sub:=sub) (ab:=ab) (col:=col) (dd:=dd) (k0:=k0) (k1:=k1) (k2:=k2) (k3:=k3) (k5:=k5) (newId:="ValueError.__new__") (T.hasType (by decide +kernel)) (I.ok.hd hc) (tqa (wpAny_mono (AS (Q:=fun v s₁=>∃e o vs,v=.ref e/\s₁.heap.get? C=some (excClassObj nm q C N bs bm hdct sn sub ab col dd k0 k1 k2 k3 k5 "ValueError.__new__")/\s₁.heap.get? e=some o/\o.cls=.ref C/\o.data=.fields vs/\vs[1]?=some .none/\X.xe (.ref e) s₁) c J hr hex hg ha hdb he I ?_) (fun v s₃ h₃=>tqa (wpAny_standAt (tqb h₃))) fun _ _ x=>x))))
 refine ⟨μ,Z,M,hE,hM,?_⟩
 unfold jI at h
 cases eg:ga Z M with
 |err=>rw [eg] at h;exact h.elim
 |bad=>rw [eg] at h;exact h.elim
 | ok x0 M1 =>
   rw [eg] at h
   cases x0 with
   | int i =>
     dsimp only at h
     split at h
     ·next hi=>
      have h:XW fa X μ H (.exc c (some i)) Z M1:=h
      refine ⟨i,rfl,hi,fun H1 μ1 e d C' s' x1 hE1 hM1 hm hf nw he hd hde I3=>?_⟩
      rw [m1] at hm
      cases hm
      have ne:upd (upd H1 d (.xd [(fV c,.int i)])) e (.ext (dO C (some d) e)) e=some (.ext (dO C (some d) e)):=bw
      obtain ⟨⟨o,vs,t0,g1,g2,g3,g4,g5,g6⟩,_,_⟩:=I3.hok e _ ne
      have he':upd H1 d (.xd [(fV c,.int i)]) e=none:=by rw [ax (Ng hde)];exact he
      have I4:Inv X pins σ (upd H1 d (.xd [(fV c,.int i)])) s':=tK I3 ne (fun b hb=>(ax hb).symm) he'
      have hMd:RelM fa X.K μ1 (upd H1 d (.xd [(fV c,.int i)])) M1:=hM1.alloc hd
      have xd:=Ext.alloc (o:=.xd [(fV c,.int i)]) hM1 hd
      exact ⟨e,o,vs,rfl,I3.bk _ _ hCo,g1,g2,g4,g6,h pins σ _ μ1 s' e C (some d) c (some i) I4 (x1.trans xd) (hE1.ext xd) hMd rfl hf ⟨d,rfl,bw⟩ ⟨nw,he',o,vs,g1,g2,g3,g4,.inl g6⟩⟩
     ·exact h.elim
   |_=>exact h.elim
noncomputable def Cn (fa:Fa)(K:LX)(f:Str):Prop:=∀c C,fa (eE c)=some C->fV c=f->PySem.W.hasDictIn K C=true/\PySem.W.findIn K (.ref C) f=some none
end
end LD
namespace LD
open PySem PySem.Spec PyProof.Rows L2
noncomputable def inC (s:Stmt):Stmt:=match s with
 |.ClassDef _ _ _ (b::_) _ _ _ _ _ _ _=>b
 |_=>s
noncomputable def Ca (z y:Str)(a:GE):GE:=fun Z M=>(a Z M).bind fun d M=>match d with
 |.int i=>if z.length<=1000/\y.length<=1000/\i.natAbs<2^64 then .ok (.str (z++(toString i:Str)++y)) M else .bad
 |_=>.bad
theorem Kx {fa:Fa}{X:Cx}{a:Expr}{ga:GE}{pos p1 p2 p3:Pos}{j j2:Nat}{z y:Str}(ha:DE fa X a ga):DE fa X (.JoinedStr [.Constant (.str z) j p1,.FormattedValue a (-1) none p2,.Constant (.str y) j2 p3] pos) (Ca z y ga):=
 br (IF ha) fun σ H Q ⟨μ,Z,M,hE,hM,h⟩=>by
  obtain ⟨x0,M1,eg,h1⟩:=aJ h
  cases x0 with
  | int i =>
    have h1:ag (if z.length<=1000/\y.length<=1000/\i.natAbs<2^64 then .ok (.str (z++(toString i:Str)++y)) M1 else .bad) (aZ fa X.K μ H Q):=h1
    split at h1
    ·next hm=>
     refine ⟨Mb hm.1 (by rw [<- cS];decide),μ,Z,M,hE,hM,?_⟩
     rw [eg]
     intro v H1 μ1 x1 m1 r1
     obtain rfl:v=.int i:=r1
     exact ⟨i,rfl,yy hm.1 hm.2.1 hm.2.2,h1 (.str _) H1 μ1 x1 m1 rfl⟩
    ·exact h1.elim
  |_=>exact h1.elim
noncomputable def G8 (K:LX)(C D fI:Addr)(fld:Str):Bool:=jT K C fI&&PySem.W.keepIn K (.ref C)&&PySem.W.readsIn K D (.type "type")&&(PySem.W.specialIn K (.ref D) "__getattribute__"==some (some (.builtin "type.__getattribute__")))&&setIn K C fld&&PySem.W.keepIn K (.ref fI)
theorem AI {fa:Fa}{w:Mv}{K:LX}{mg:Str->Option LY}{h:Heap}{c:Nat}{x qual y z pm:Str}{st:Stmt}{C D fI cd:Addr}{t:Tok}{p1 p2 p3 p4 p5 p6 p7 p8 p9 p10 p11 p12 p13:Pos}{j:Nat}(X:K.In h)(G:h.Ns mainGlobals mg)
 (a:PySem.W.nsIn K mainGlobals x=some (some (.ref C))) (aD:PySem.W.nsIn K mainGlobals "DeedError"=some (some (.ref D))) (hf:fa (eE c)=some C) (b:G8 K C D fI (fV c)=true) (h2:PySem.W.findCls K (.ref D) (.type "type") "__init__"=some (.val (.builtin "ValueError.__init__")))
 (l:K.lookup fI=some ⟨.type "function",none,.func (PySem.W.fnOf "__init__" qual (eZ st) (cp st) (aK st) .none .none .none (.str pm t) none (.ref cd) .none),#[]⟩) (e:PySem.W.codeIn K (.ref cd) qual=true) (S:fU ["self",y] ["self",y] (aK st))
 (hb:cp st=[.Expr (.Call (.Attribute (.Name "DeedError" p1) "__init__" p2) [.Name "self" p3,.JoinedStr [.Constant (.str z) j p4,.FormattedValue (.Name y p5) (-1) none p6] p7] [] p8) p9,.Assign [.Attribute (.Name "self" p10) (fV c) p11] (.Name y p12) p13])
 (hev:∀L cd,CA "DeedError" "__init__" (.Name "self" p3) (.JoinedStr [.Constant (.str z) j p4,.FormattedValue (.Name y p5) (-1) none p6] p7) p1 p2 p8 (envOfC qual (aK st) L fI cd))
 (hz:z.length<=1000) (hyd:(y==("__debug__":Str))=false) (hyc:(y==("__classdict__":Str))=false) (v0:(aK st).names.lookup ("self":Str)=some .local) (v1:(aK st).names.lookup y=some .local)
 (hg:∀L cd,(envOfC qual (aK st) L fI cd).kindOf "DeedError"=some .globalImplicit)
 (hbd:∀(kV doc pm:LY) (an:Option Addr) (cdv ct u1 u2:LY),bindArgs (PySem.W.fnOf "__init__" qual (eZ st) (cp st) (aK st) .none kV doc pm an cdv ct) ⟨[u1,u2],[]⟩=pure ((["self",y]:List Str).zip [u1,u2])) (P:Ms) (base:Heap):jX fa P w K mg base c x:=by
 simp only [G8,L6,beq_iff_eq] at b
 obtain ⟨⟨⟨⟨⟨b1,b2⟩,b3⟩,b4⟩,b5⟩,b6⟩:=b
 have F:=yw l e b6
 exact ⟨C,fI,_,y,_,Nt X G a,hf,b1,b2,l,rfl,F.binds fun kV doc pm an cdv ct us hl=>JK (p:=fun us=>bindArgs (PySem.W.fnOf "__init__" qual (eZ st) (cp st) (aK st) .none kV doc pm an cdv ct) ⟨us,[]⟩=pure ((["self",y]:List Str).zip us)) (hbd kV doc pm an cdv ct) us hl,
  G7 F S hb hev hz hyd hyc v0 v1 hg (Nt X G aD) b3 h2 b4 b1 b5⟩
end LD
namespace LD
open PySem PySem.Spec PyProof.Rows L2
noncomputable def Cp (fa:Fa)(K:LX)(mg:Str->Option LY)(x1 x2:Str)(k1 k2:Nat):Prop:=∃D1 D2,mg x1=some (.ref D1)/\mg x2=some (.ref D2)/\∀c C,c=k1\/c=k2->fa (eE c)=some C->PySem.W.exmAny K (.ref C) [.ref D1,.ref D2]=some true
end LD
namespace LD
open PySem PySem.Spec PyProof.Rows L2
noncomputable def sF (M:Mem)(o:Nat)(nm:Str):Option D:=if 5000<=o then (match M[o-5000]? with
 |some (.int c::es)=>((cm c.toNat).findIdx? (·==nm)).bind fun i=>es[i]?
 |_=>none) else none
noncomputable def bW (nm:Str)(a:GE):GE:=fun Z M=>(a Z M).bind fun x M=>match x with
 |.fn o=>bR M (sF M o nm)
 |_=>.bad
noncomputable def yS (fa:Fa)(K:LX):Prop:=∀c C,fa (i7 c)=some C->cm c≠[]->iz K C/\∀f∈cm c,ji K C f
section
variable {fa:Fa}{K:LX}{μ:Mu}{H:Hp}{M:Mem}
theorem RelM.obj (h:RelM fa K μ H M){o:Nat}{a:Addr}{c:Int}{es:List D}(ho:5000<=o)(ha:μ.ob o=some a)(e:M[o-5000]?=some (.int c::es)) :
 ∃n C dx fs,c=(n:Nat)/\fa (i7 n)=some C/\H a=some (.ins C dx fs)/\fs.map (·.1)=(cm n).take fs.length/\aF fa K μ H es (fs.map (·.2)):=by
 have eo:aQ (o-5000)=o:=Nat.add_sub_cancel' ho
 rcases h.at' _ _ e with ⟨b,vs,h1,_⟩|⟨b,n,C,dx,fs,es',h1,h2,h3,h4,h5,h6,h7⟩
 ·have:=h.sep _ _ h1
  rw [eo,ha] at this;cases this
 ·rw [eo,ha] at h1;cases h1
  cases h6
  exact ⟨n,C,dx,fs,rfl,h3,h4,h5,h7⟩
theorem sj {nm:Str}:∀{fs:List (Str×V)}{ns:List Str}{i:Nat}{v:V},fs.map (·.1)=ns.take fs.length->ns.findIdx? (·==nm)=some i->(fs.map (·.2))[i]?=some v->fs.lookup nm=some v
 |[],_,_,_,_,_,e=>by simp at e
 |(x,u)::fs,[],_,_,h,_,_=>by simp at h
 | (x, u) :: fs, y :: ns, i, v, h, f, e => by
   simp only [Nd,MT,List.take_succ_cons,List.cons.injEq] at h
   obtain ⟨rfl,h⟩:=h
   rw [List.findIdx?_cons] at f
   split at f
   ·next q=>
    cases f
    cases e
    rw [MK,show (nm==x)=true by rw [<- eq_of_beq q,beq_self_eq_true]]
   ·next q=>
    obtain ⟨j,hj,rfl⟩:=MF.mp f
    rw [MK,show (nm==x)=false by rw [Bool.eq_false_iff];exact fun z=>q (by rw [<- eq_of_beq z,beq_self_eq_true])]
    exact sj h hj e
end
section
variable {fa:Fa}{X:Cx}{a:Expr}{ga:GE}{pos:Pos}
theorem Jw (nm:Str)(hc:yS fa X.K)(hf:∀o,5000<=o->fa o=none)(ha:DE fa X a ga)(hb:attributeBase a nm X.env (eval a X.env)=eval a X.env):DE fa X (.Attribute a nm pos) (bW nm ga):=
 br (F9 ha hb) fun σ H Q ⟨μ,Z,M,hE,hM,h⟩=>by
  obtain ⟨x0,M1,eg,h⟩:=aJ h
  refine ⟨μ,Z,M,hE,hM,?_⟩
  rw [eg]
  intro v H1 μ1 x1 m1 r1
  cases x0 with
  | fn o =>
    dsimp only at h
    obtain ⟨d,ed,q⟩:=jN h
    unfold sF at ed
    split at ed
    ·next ho=>
     split at ed
     ·next c es em=>
      obtain ⟨i,hi,ei⟩:=Nn.mp ed
      obtain ⟨b,rfl,hb⟩:=r1
      rcases hb with hb|⟨_,hb⟩
      ·rw [hf o ho] at hb;cases hb
      obtain ⟨n,C,dx,fs,rfl,hC,hH,hn,hr⟩:=m1.obj ho hb em
      rw [NB] at hi
      obtain ⟨v,hv,rv⟩:=hr.get ei
      have ne:cm n≠[]:=fun z=>by rw [z] at hi;cases hi
      obtain ⟨cl,na⟩:=hc n C hC ne
      have mem:nm∈cm n:=by
       obtain ⟨hl,h1,_⟩:=Og.mp hi
       rw [<- eq_of_beq h1];exact NO _
      exact ⟨b,C,dx,fs,v,rfl,hH,cl,na nm mem,sj hn hi hv,q v H1 μ1 x1 m1 rv⟩
     ·cases ed
    ·cases ed
  |_=>exact h.elim
end
noncomputable def ko (M:Mem)(o:Nat)(nm:Str)(z:D):Option Mem:=if 5000<=o then (match M[o-5000]? with
 |some (.int c::es)=>((cm c.toNat).findIdx? (·==nm)).bind fun i=>if i<es.length then some (M.set (o-5000) (.int c::es.set i z)) else if i=es.length then some (M.set (o-5000) (.int c::(es++[z]))) else none
 |_=>none) else none
noncomputable def gR (nm:Str)(a v:GE):GS:=fun Z M=>(v Z M).bind fun z M=>(a Z M).bind fun x M=>match x with
 | .fn o => (match ko M o nm z with
   |some M'=>.ok (.next Z) M'
   |none=>.bad)
 |_=>.bad
theorem AM (n:Nat):(cm n).length<1000:=by
 unfold cm
 split<;>decide
theorem uc {nm:Str}{v:V}:∀{fs:List (Str×V)}{ns:List Str}{i:Nat},fs.map (·.1)=ns.take fs.length->ns.findIdx? (·==nm)=some i->i<fs.length->(cF nm v fs).map (·.1)=fs.map (·.1)/\(cF nm v fs).map (·.2)=(fs.map (·.2)).set i v
 |(x,u)::fs,[],_,h,_,_=>by simp at h
 | (x, u) :: fs, y :: ns, i, h, f, l => by
   simp only [Nd,MT,List.take_succ_cons,List.cons.injEq] at h
   obtain ⟨rfl,h⟩:=h
   rw [List.findIdx?_cons] at f
   show (if x=nm then (x,v)::fs else (x,u)::cF nm v fs).map _=_/\(if x=nm then (x,v)::fs else (x,u)::cF nm v fs).map _=_
   split at f
   ·next q=>
    cases f
    rw [if_pos (eq_of_beq q)]
    exact ⟨rfl,rfl⟩
   ·next q=>
    obtain ⟨j,hj,rfl⟩:=MF.mp f
    rw [if_neg (fun z=>q (by rw [z,beq_self_eq_true]))]
    obtain ⟨h1,h2⟩:=uc (v:=v) h hj (Nat.lt_of_succ_lt_succ l)
    exact ⟨by rw [Nd,h1];rfl,by rw [Nd,h2];rfl⟩
theorem ud {nm:Str}{v:V}:∀{fs:List (Str×V)}{ns:List Str},fs.map (·.1)=ns.take fs.length->ns.findIdx? (·==nm)=some fs.length->cF nm v fs=fs++[(nm,v)]
 |[],_,_,_=>rfl
 |(x,u)::fs,[],h,_=>by simp at h
 | (x, u) :: fs, y :: ns, h, f => by
   simp only [Nd,MT,List.take_succ_cons,List.cons.injEq] at h
   obtain ⟨rfl,h⟩:=h
   rw [List.findIdx?_cons] at f
   show (if x=nm then (x,v)::fs else (x,u)::cF nm v fs)=_
   split at f
   ·cases f
   ·next q=>
    obtain ⟨j,hj,e⟩:=MF.mp f
    cases e
    rw [if_neg (fun z=>q (by rw [z,beq_self_eq_true])),ud h hj];rfl
section
variable {fa:Fa}{K:LX}{μ:Mu}{H:Hp}{M:Mem}
theorem Ext.ins {a C dx:Addr}{fs fs':List (Str×V)}(h:RelM fa K μ H M)(hH:H a=some (.ins C dx fs)):Ext μ H μ (upd H a (.ins C dx fs')):=by
 have ne:∀{b o},H b=some o->(∀C dx fs,o≠.ins C dx fs)->b≠a:=fun g n z=>by rw [z,hH] at g;cases g;exact n _ _ _ rfl
 refine ⟨⟨fun _ _ q=>q,fun b vs g=>?_,fun b vs g n=>⟨by rw [ax (ne g (fun _ _ _ z=>by cases z))];exact g,n⟩,fun b ob u g=>by rw [ax (ne g (fun _ _ _ z=>by cases z))];exact g,fun b o i g=>?_,fun _ _ q=>q⟩,rfl,fun b hb=>?_⟩
 ·rcases g with g|⟨ob,g⟩
  ·exact .inl (by rw [ax (ne g (fun _ _ _ z=>by cases z))];exact g)
  ·exact .inr ⟨ob,by rw [ax (ne g (fun _ _ _ z=>by cases z))];exact g⟩
 ·rw [ax (ne g (fun _ _ _ z=>by rcases i with ⟨_,i⟩|⟨_,i⟩<;>(rw [i] at z;cases z)))];exact g
 ·obtain ⟨⟨vs,g⟩,_⟩:=h.pv b hb
  rw [ax (ne g (fun _ _ _ z=>by cases z))]
theorem RelM.objW (h:RelM fa K μ H M){k n:Nat}{a C dx:Addr}{fs fs':List (Str×V)}{ds es:List D}(e:M[k]?=some ds)(ha:μ.ob (aQ k)=some a)(hC:fa (i7 n)=some C)(hH:H a=some (.ins C dx fs))(hn:fs'.map (·.1)=(cm n).take fs'.length)(hr:aF fa K μ H es (fs'.map (·.2))) :
 RelM fa K μ (upd H a (.ins C dx fs')) (M.set k (.int n::es)):=by
 have x:Ext μ H μ (upd H a (.ins C dx fs')):=Ext.ins h hH
 refine ⟨fun j es' q=>?_,fun j hj=>h.out j (by simpa using hj),fun j hj=>h.oout j (by simpa using hj),h.inj,h.oinj,h.sep,fun b hb=>⟨let ⟨⟨vs,g⟩,_⟩:=h.pv b hb;⟨vs,by rw [x.pk b hb];exact g⟩,(h.pv b hb).2⟩⟩
 by_cases hj:j=k
 ·subst hj
  have hl:j<M.length:=(LZ.mp e).1
  rw [Mn hl] at q
  cases q
  have np:μ.pub j=none:=by
   cases z:μ.pub j with
   |none=>rfl
   |some b=>rw [h.sep j b z] at ha;cases ha
  exact .inr ⟨a,n,C,dx,fs',es,ha,np,hC,bw,hn,rfl,hr.ext x⟩
 ·rw [Mc (Ng hj)] at q
  rcases h.at' j es' q with ⟨b,vs,h1,h2,h3⟩|⟨b,c,C',dx',gs,es2,h1,h2,h3,h4,h5,h6,h7⟩
  ·exact .inl ⟨b,vs,h1,by rw [ax (fun z=>by rw [z,hH] at h2;cases h2)];exact h2,h3.ext x⟩
  ·have nb:b≠a:=fun z=>hj (h.oinj _ _ a (z ▸ h1) ha)
   exact .inr ⟨b,c,C',dx',gs,es2,h1,h2,h3,by rw [ax nb];exact h4,h5,h6,h7.ext x⟩
end
section
variable {fa:Fa}{X:Cx}{a e:Expr}{ga gv:GE}{pos pos':Pos}
theorem Iq (nm:Str)(hc:yS fa X.K)(hf:∀o,5000<=o->fa o=none)(ha:DE fa X a ga)(hv:DE fa X e gv)(hs:swapsWith e (some (.Attribute a nm pos')) pos.line X.env=pure false):DS fa X (.Assign [.Attribute a nm pos'] e pos) (gR nm ga gv):=
 dw (FY ha hv hs) fun D' σ H ⟨μ,Z,M,hE,hM,h⟩=>t2 hE hM h fun z x M2 v u H2 μ2 x2 hE2 hM2 rz rx h2=>by
  cases x with
  | fn o =>
    dsimp only at h2
    cases eS:ko M2 o nm z with
    |none=>rw [eS] at h2;exact h2.elim
    | some M' =>
      rw [eS] at h2
      have q:∀σ' H' μ',Ext μ H μ' H'->a7 fa X.K μ' H' σ' Z->RelM fa X.K μ' H' M'->D'.nx σ' H':=h2
      unfold ko at eS
      split at eS
      ·next ho=>
       split at eS
       ·next c es em=>
        obtain ⟨i,hi,eS⟩:=Nn.mp eS
        obtain ⟨b,rfl,hb⟩:=rx
        rcases hb with hb|⟨_,hb⟩
        ·rw [hf o ho] at hb;cases hb
        obtain ⟨n,C,dx,fs,rfl,hC,hH,hn,hr⟩:=hM2.obj ho hb em
        rw [NB] at hi
        have ne:cm n≠[]:=fun z=>by rw [z] at hi;cases hi
        obtain ⟨cl,na⟩:=hc n C hC ne
        obtain ⟨hil,hi1,_⟩:=Og.mp hi
        have mem:nm∈cm n:=by rw [<- eq_of_beq hi1];exact NO _
        have lf:fs.length<=(cm n).length:=by
         have:=congrArg List.length hn
         rw [Md,Nz] at this
         omega
        have le:es.length=fs.length:=by rw [<- hr.length,Md]
        have hb':μ2.ob (aQ (o-5000))=some b:=by rw [show aQ (o-5000)=o from Nat.add_sub_cancel' ho];exact hb
        refine ⟨b,C,dx,fs,rfl,hH,cl,na nm mem,Nat.lt_of_le_of_lt lf (AM n),?_⟩
        have fin:∀es',M'=M2.set (o-5000) (.int n::es')->(cF nm v fs).map (·.1)=(cm n).take (cF nm v fs).length->aF fa X.K μ2 H2 es' ((cF nm v fs).map (·.2))->D'.nx σ (upd H2 b (.ins C dx (cF nm v fs))):=fun es' e1 e2 e3=>by
         subst e1
         exact q σ _ μ2 (x2.trans (Ext.ins hM2 hH)) (hE2.ext (Ext.ins hM2 hH)) (hM2.objW em hb' hC hH e2 e3)
        split at eS
        ·next hlt=>
         obtain ⟨p1,p2⟩:=uc (v:=v) hn hi (le ▸ hlt)
         have pl:(cF nm v fs).length=fs.length:=by have:=congrArg List.length p1;simpa using this
         exact fin _ (L9 eS).symm (by rw [p1,pl];exact hn) (by rw [p2];exact hr.set i rz)
        ·split at eS
         ·next _ heq=>
          rw [heq,le] at hi
          have pa:=ud (v:=v) hn hi
          refine fin _ (L9 eS).symm ?_ (by rw [pa,Nl];exact hr.append (.one rz))
          rw [pa,Nl,hn,Mz]
          subst heq
          rw [NH,List.take_add_one]
          congr 1
          rw [Mr (by rw [<- le];exact hil)]
          have:=eq_of_beq hi1
          simp only [le] at this
          simp [this]
         ·cases eS
       ·cases eS
      ·cases eS
  |_=>exact h2.elim
end
noncomputable def oC (fa:Fa)(K:LX)(m:Str)(c f:Nat):Prop:=∃C,fa (i7 c)=some C/\iz K C/\(∀ad,fa f=some ad->Meth K C m ad)/\m∉cm c
noncomputable def kN (M:Mem)(o:Nat):Option Nat:=if 5000<=o then (match M[o-5000]? with
 |some (.int c::_)=>some c.toNat
 |_=>none) else none
noncomputable def cw (c f:Nat)(call:Call)(a:GE)(s:GA):GE:=fun Z M=>(a Z M).bind fun x M=>match x with
 |.fn o=>if kN M o=some c then (s Z M).bind fun ds M=>call f (.fn o::ds) M else .bad
 |_=>.bad
theorem qb {m:Str}:∀{fs:List (Str×V)}{ns:List Str},fs.map (·.1)=ns.take fs.length->m∉ns->fs.lookup m=none
 |[],_,_,_=>rfl
 |(x,u)::fs,[],h,_=>by simp at h
 | (x, u) :: fs, y :: ns, h, n => by
   simp only [Nd,MT,List.take_succ_cons,List.cons.injEq] at h
   obtain ⟨rfl,h⟩:=h
   rw [MK,show (m==x)=false from MP.mpr fun z=>n (by rw [z];exact My)]
   exact qb h fun z=>n (Mh _ z)
theorem uw {env:MN}{o:Expr}{m:Str}{apos pos:Pos}{args:List Expr}(hbase:attributeBase o m env (eval o env)=eval o env)(hfew:methodCallForm args.length (backTo pos (starEach args env)) (backToKw pos (keywordEach [] env))=true)(hline:(apos.endLine==pos.line)=true) :
 ∃pl,eval (.Call (.Attribute o m apos) args [] pos) env=(do
  let ov <- eval o env
  standAt apos.atName
  let (f,first) <- holding [ov] (getMethod ov m pl)
  callWith pos f first (backTo pos (starEach args env)) (backToKw pos (keywordEach [] env))):=by
 refine ⟨(do let b <- importBound o env;pure (b.getD true)),?_⟩
 rw [eval,hbase]
 unfold methodCall
 simp only [List.length_nil,Nat.add_zero,hfew]
 have e:methodCallPos true o env apos pos=pure pos:=by unfold methodCallPos;rw [hline];rfl
 simp only [e,pure_bind]
 rfl
section
variable {fa:Fa}{X:Cx}{o e:Expr}{es:List Expr}{go:GE}{gs:GA}{pos apos:Pos}{n c f:Nat}{m:Str}{call:Call}
theorem qa {k:Nat}{C:Addr}{t:TA}(ht:∀σ H R,tA fa X.K gs σ H R->t σ H R){σ:L2.St}{H:Hp}{Q:VK}{μ:Mu}{Z:Env}{M:Mem}(hf:∀o,5000<=o->fa o=none)(hC:fa (i7 c)=some C)(hnm:m∉cm c)(hE:a7 fa X.K μ H σ Z)(hM:RelM fa X.K μ H M)(h:ag (cw c f call go gs Z M) (aZ fa X.K μ H Q))
 (hk:∀ds M1,ds.length≠k->call f ds M1=.bad):uW C m (BB fa X.K k (call f)) [] E0 (tE fa X.K go) t σ H Q:=
 t1 hE hM h fun x M1 v H1 μ1 x1 hE1 hM1 r1 h1=>by
  cases x with
  | fn o =>
    dsimp only at h1
    split at h1
    ·next ec=>
     unfold kN at ec
     split at ec
     ·next ho=>
      split at ec
      ·next c' es' em=>
       obtain ⟨b,rfl,hb⟩:=id r1
       rcases hb with hb|⟨_,hb⟩
       ·rw [hf o ho] at hb;cases hb
       obtain ⟨n',C',dx,fs,rfl,hC',hH,hn,_⟩:=hM1.obj ho hb em
       rw [NB] at ec
       obtain rfl:n'=c:=L9 ec
       rw [hC] at hC';cases hC'
       refine ⟨b,dx,fs,rfl,hH,qb hn hnm,?_⟩
       refine ht _ _ _ (pJ hE1 hM1 h1 fun ds M2 vs H2 μ2 x2 hE2 hM2 r2 h2=>?_)
       rw [Ob]
       refine ⟨?_,μ2,M2,.fn o::ds,hM2,⟨_,vs,rfl,Rep.ext x2 r1,r2⟩,xO (jn h2 (x1.trans x2))⟩
       rw [MT,r2.length]
       by_cases hl:(D.fn o::ds).length=k
       ·exact hl
       ·rw [hk _ M2 hl] at h2;exact h2.elim
      ·cases ec
     ·cases ec
    ·exact h1.elim
  |_=>exact h1.elim
theorem si {Z:Env}{M:Mem}{P:D->Mem->Prop}(hb:∀ds M,call f ds M=.bad)(h:ag (cw c f call go gs Z M) P):False:=by
 obtain ⟨x,M1,_,h⟩:=aJ h
 cases x with
 | fn o =>
   dsimp only at h
   split at h
   ·obtain ⟨ds,M2,_,h⟩:=aJ h
    rw [hb] at h;exact h
   ·exact h
 |_=>exact h
theorem HB (CO:eA fa X.prog X.w X.K X.mg X.base n f (call f))(hr:bC (2*n+4) X.A)(hf:∀o,5000<=o->fa o=none){C:Addr}(hC:fa (i7 c)=some C)(cl:iz X.K C)(hm:∀ad,fa f=some ad->Meth X.K C m ad)(hnm:m∉cm c)(ho:DE fa X o go)(hs:DA fa X (e::es) gs)
 (hbase:attributeBase o m X.env (eval o X.env)=eval o X.env) (hfew:methodCallForm (e::es).length (backTo pos (starEach (e::es) X.env)) (backToKw pos (keywordEach [] X.env))=true) (hline:(apos.endLine==pos.line)=true)
 (he:starEach (e::es) X.env=(false,eval e X.env)::starEach es X.env) (hpl:(backTo pos (starEach es X.env)).any (·.1)=false) :
 DE fa X (.Call (.Attribute o m apos) (e::es) [] pos) (cw c f call go gs):=by
 rcases CO with hb|⟨ad,fd,ps,h1,h2,h3,h4,F⟩
 ·exact fun pins s σ H Q I ⟨μ,Z,M,hE,hM,h⟩=>(si hb h).elim
 ·obtain ⟨pl,ht⟩:=uw hbase hfew hline
  exact br (DN (pl:=pl) ho cl (hm ad h1) F hr h3 .nil lO hs he hpl ht) fun σ H Q ⟨μ,Z,M,hE,hM,h⟩=>qa (fun _ _ _ z=>z) hf hC hnm hE hM h h4
theorem EB (CO:eA fa X.prog X.w X.K X.mg X.base n f (call f))(hr:bC (2*n+4) X.A)(hf:∀o,5000<=o->fa o=none){C:Addr}(hC:fa (i7 c)=some C)(cl:iz X.K C)(hm:∀ad,fa f=some ad->Meth X.K C m ad)(hnm:m∉cm c)(ho:DE fa X o go)
 (hbase:attributeBase o m X.env (eval o X.env)=eval o X.env) (hline:(apos.endLine==pos.line)=true) :
 DE fa X (.Call (.Attribute o m apos) [] [] pos) (cw c f call go ah):=by
 rcases CO with hb|⟨ad,fd,ps,h1,h2,h3,h4,F⟩
 ·exact fun pins s σ H Q I ⟨μ,Z,M,hE,hM,h⟩=>(si hb h).elim
 ·obtain ⟨pl,ht⟩:=uw (args:=[]) (pos:=pos) hbase rfl hline
  exact br (Ae (pl:=pl) ho cl (hm ad h1) F hr h3 .nil lO ht) fun σ H Q ⟨μ,Z,M,hE,hM,h⟩=>qa (fun σ H R ⟨μ,Z,M,_,hM,h⟩=>h [] H μ Ext.refl hM rfl) hf hC hnm hE hM h h4
end
noncomputable def jo (μ:Mu)(k:Nat)(p:Addr):Mu:=⟨μ.pub,μ.priv,fun j=>if j=aQ k then some p else μ.ob j⟩
section
variable {fa:Fa}{K:LX}{μ:Mu}{H:Hp}{M:Mem}
theorem RelM.ob_ins (h:RelM fa K μ H M){k:Nat}{a:Addr}(e:μ.ob (aQ k)=some a):∃C dx fs,H a=some (.ins C dx fs):=by
 by_cases hk:k<M.length
 ·rcases h.at' k M[k] (by simp [hk]) with ⟨b,vs,h1,_⟩|⟨b,n,C,dx,fs,es',h1,h2,h3,h4,_⟩
  ·rw [h.sep _ _ h1] at e;cases e
  ·rw [e] at h1;cases h1
   exact ⟨C,dx,fs,h4⟩
 ·rw [h.oout k (Nat.le_of_not_lt hk)] at e;cases e
theorem Ext.objNew (h:RelM fa K μ H M){x dx C:Addr}(hx:H x=none)(hd:H dx=none)(ne:dx≠x):Ext μ H (jo μ M.length x) (upd (upd H dx (.own x)) x (.ins C dx [])):=by
 have e1:Ext μ H μ (upd H dx (.own x)):=Ext.alloc h hd
 have e2:Ext μ (upd H dx (.own x)) μ (upd (upd H dx (.own x)) x (.ins C dx [])):=Ext.alloc (h.alloc hd) (by rw [ax (Ng ne)];exact hx)
 have e:=e1.trans e2
 refine ⟨⟨e.mu,e.tups,fun b vs g n=>⟨(e.lsts b vs g n).1,n⟩,e.frzs,e.exts,fun j b z=>?_⟩,rfl,e.pk⟩
 show (if j=aQ M.length then some x else μ.ob j)=some b
 split
 ·next q=>rw [q,h.oout _ (L7 _)] at z;cases z
 ·exact z
theorem RelM.objNew (h:RelM fa K μ H M){x dx C:Addr}{c:Nat}(hx:H x=none)(hd:H dx=none)(ne:dx≠x)(hC:fa (i7 c)=some C):RelM fa K (jo μ M.length x) (upd (upd H dx (.own x)) x (.ins C dx [])) (M++[[.int c]]):=by
 have X:Ext μ H (jo μ M.length x) (upd (upd H dx (.own x)) x (.ins C dx [])):=Ext.objNew h hx hd ne
 have old:∀{b o},H b=some o->(upd (upd H dx (.own x)) x (.ins C dx [])) b=some o:=fun g=>by rw [ax (aO g hx),ax (aO g hd)];exact g
 have pc:∀{k b},(jo μ M.length x).ob (aQ k)=some b->(k=M.length/\b=x)\/μ.ob (aQ k)=some b:=fun {k b} z=>by
  have z:(if aQ k=aQ M.length then some x else μ.ob (aQ k))=some b:=z
  split at z
  ·next q=>cases z;exact .inl ⟨Nat.add_left_cancel q,rfl⟩
  ·exact .inr z
 refine ⟨fun k ds q=>?_,fun k hk=>h.out k (by simp at hk;omega),fun k hk=>?_,h.inj,fun j k b e1 e2=>?_,fun k b z=>?_,fun b hb=>⟨?_,(h.pv b hb).2⟩⟩
 ·by_cases hk:k<M.length
  ·rw [Mw hk] at q
   rcases h.at' k ds q with ⟨b,vs,h1,h2,h3⟩|⟨b,c',C',dx',gs,es2,h1,h2,h3,h4,h5,h6,h7⟩
   ·exact .inl ⟨b,vs,h1,old h2,h3.ext X⟩
   ·exact .inr ⟨b,c',C',dx',gs,es2,X.obs _ _ h1,h2,h3,old h4,h5,h6,h7.ext X⟩
  ·have hk':k=M.length:=by
    have:=(LZ.mp q).1
    simp at this;omega
   subst hk'
   rw [ME (L7 _)] at q
   simp at q
   subst q
   exact .inr ⟨x,c,C,dx,[],[],by show (if aQ M.length=aQ M.length then some x else _)=some x;rw [if_pos rfl],h.out _ (L7 _),hC,bw,rfl,rfl,rfl⟩
 ·show (if aQ k=aQ M.length then some x else μ.ob (aQ k))=none
  simp at hk
  rw [if_neg (fun z=>by have:=Nat.add_left_cancel z;omega)]
  exact h.oout k (by omega)
 ·rcases pc e1 with ⟨a1,a2⟩|a1<;>rcases pc e2 with ⟨b1,b2⟩|b1
  ·omega
  ·subst a2;obtain ⟨_,_,_,z⟩:=h.ob_ins b1;rw [hx] at z;cases z
  ·subst b2;obtain ⟨_,_,_,z⟩:=h.ob_ins a1;rw [hx] at z;cases z
  ·exact h.oinj j k b a1 b1
 ·show (if aQ k=aQ M.length then some x else μ.ob (aQ k))=none
  have z:μ.pub k=some b:=z
  rw [if_neg (fun q=>by rw [Nat.add_left_cancel q,h.out _ (L7 _)] at z;cases z)]
  exact h.sep k b z
 ·obtain ⟨⟨vs,g⟩,_⟩:=h.pv b hb
  exact ⟨vs,old g⟩
end
noncomputable def km (c f:Nat)(call:Call)(s:GA):GE:=fun Z M=>(s Z M).bind fun ds M=>(call f (.fn (aQ M.length)::ds) (M++[[.int c]])).bind fun r M'=>match r with
 |.non=>.ok (.fn (aQ M.length)) M'
 |_=>.bad
section
variable {fa:Fa}{X:Cx}{e:Expr}{es:List Expr}{gs:GA}{pos p:Pos}{n c f:Nat}{x:Str}{call:Call}
theorem HC (CO:eA fa X.prog X.w X.K X.mg X.base n f (call f))(hr:bC (2*n+4+1) X.A)(hf:∀o,5000<=o->fa o=none){C:Addr}(hC:fa (i7 c)=some C)(mk:∀ad,fa f=some ad->Mk X.K C ad)(hg:Gl X x)(hm:X.mg x=some (.ref C))(hs:DA fa X (e::es) gs)
 (hdb:(x==("__debug__":Str))=false) (he:starEach (e::es) X.env=(false,eval e X.env)::starEach es X.env) (hpl:(backTo pos (starEach es X.env)).any (·.1)=false) :
 DE fa X (.Call (.Name x p) (e::es) [] pos) (km c f call gs):=by
 rcases CO with hb|⟨ad,fd,ps,h1,h2,h3,h4,F⟩
 ·intro pins s σ H Q I ⟨μ,Z,M,hE,hM,h⟩
  obtain ⟨ds,M1,_,h⟩:=aJ h
  rw [hb] at h;exact h.elim
 ·exact br (DP (mk ad h1) F hr hg hm h3 .nil lO hs hdb he hpl) fun σ H Q ⟨μ,Z,M,hE,hM,h⟩=>pJ hE hM h fun ds M1 vs H1 μ1 x1 hE1 hM1 r1 q=>by
   intro a dx na nd ne
   rw [Ob]
   have X2:Ext μ1 H1 (jo μ1 M1.length a) (upd (upd H1 dx (.own a)) a (.ins C dx [])):=Ext.objNew hM1 na nd ne
   have hob:(jo μ1 M1.length a).ob (aQ M1.length)=some a:=by
    show (if aQ M1.length=aQ M1.length then some a else _)=some a
    rw [if_pos rfl]
   have rs:Rep fa X.K (jo μ1 M1.length a) (upd (upd H1 dx (.own a)) a (.ins C dx [])) (.fn (aQ M1.length)) (.ref a):=⟨a,rfl,.inr ⟨hf _ (NL _ _),hob⟩⟩
   obtain ⟨r,M2,ec,q⟩:=aJ q
   refine ⟨?_,jo μ1 M1.length a,M1++[[.int c]],.fn (aQ M1.length)::ds,hM1.objNew na nd ne hC,⟨_,vs,rfl,rs,r1.ext X2⟩,?_⟩
   ·rw [MT,r1.length]
    by_cases hl:(D.fn (aQ M1.length)::ds).length=ps.length
    ·exact hl
    ·rw [h4 _ _ hl] at ec;cases ec
   ·rw [ec]
    intro v H3 μ3 x3 hM3 r3
    cases r with
    | non =>
      obtain rfl:v=.non:=r3
      exact ⟨rfl,q (.ref a) H3 μ3 (x1.trans (X2.trans x3)) hM3 (rs.ext x3)⟩
    |_=>exact q.elim
end
end LD
namespace LD
open PySem PySem.Spec PyProof.Rows L2
noncomputable def oX (a:GE):GE:=fun Z M=>(a Z M).bind fun x M=>match x with
 | .cell k => match M[k]? with
   | some ds => match ds[ds.length - 1]? with
     |some y=>.ok y (M.set k ds.dropLast)
     |none=>.bad
   |none=>.bad
 |_=>.bad
noncomputable def B9 (a:GE):GE:=fun Z M=>(a Z M).bind fun x M=>match x with
 | .cell k => match M[k]? with
   |some ds=>.ok .non (M.set k ds.reverse)
   |none=>.bad
 |_=>.bad
section
variable {fa:Fa}{X:Cx}{a:Expr}{ga:GE}{apos cpos:Pos}
theorem Jo (ha:DE fa X a ga)(hbase:attributeBase a "pop" X.env (eval a X.env)=eval a X.env)(hline:(apos.endLine==cpos.line)=true) :
 DE fa X (.Call (.Attribute a "pop" apos) [] [] cpos) (oX ga):=
 br (xE PySem.F.plainAttrs_list PySem.F.slot_list_pop PySem.F.type_list_pop GN ha hbase hline) fun σ H Q ⟨μ,Z,M,hE,hM,h⟩=>
  t1 hE hM h fun x M1 v H1 μ1 x1 hE1 hM1 r1 h1=>by
   cases x with
   | cell k =>
     dsimp only at h1
     cases e:M1[k]? with
     |none=>rw [e] at h1;exact h1.elim
     | some ds =>
       rw [e] at h1
       dsimp only at h1
       cases ey:ds[ds.length-1]? with
       |none=>rw [ey] at h1;exact h1.elim
       | some y =>
         rw [ey] at h1
         obtain ⟨ad,rfl,hk⟩:=r1
         obtain ⟨ws,h4,h5⟩:=hM1.at_ e hk
         obtain ⟨w,hw,rw'⟩:=h5.get ey
         refine ⟨.inl ⟨rfl,ws,bV.of h4⟩,ad,ws,w,rfl,rfl,h4,by rw [h5.length];exact hw,?_⟩
         have h1:aZ fa X.K μ H Q y (M1.set k ds.dropLast):=h1
         have x2:=Ext.write (vs:=ws) (ws:=ws.dropLast) hM1 hk
         have r:=h5.take (ds.length-1)
         rw [<- List.dropLast_eq_take,<- h5.length,<- List.dropLast_eq_take] at r
         exact h1 w _ μ1 (x1.trans x2) (hM1.write hk r) (rw'.ext x2)
   |_=>exact h1.elim
theorem HA (ha:DE fa X a ga)(hbase:attributeBase a "reverse" X.env (eval a X.env)=eval a X.env)(hline:(apos.endLine==cpos.line)=true) :
 DE fa X (.Call (.Attribute a "reverse" apos) [] [] cpos) (B9 ga):=
 br (xE PySem.F.plainAttrs_list PySem.F.slot_list_reverse PySem.F.type_list_reverse vp ha hbase hline) fun σ H Q ⟨μ,Z,M,hE,hM,h⟩=>
  t1 hE hM h fun x M1 v H1 μ1 x1 hE1 hM1 r1 h1=>by
   cases x with
   | cell k =>
     dsimp only at h1
     cases e:M1[k]? with
     |none=>rw [e] at h1;exact h1.elim
     | some ds =>
       rw [e] at h1
       obtain ⟨ad,rfl,hk⟩:=r1
       obtain ⟨ws,h4,h5⟩:=hM1.at_ e hk
       refine ⟨.inl ⟨rfl,ws,bV.of h4⟩,ad,ws,rfl,rfl,h4,?_⟩
       have h1:aZ fa X.K μ H Q .non (M1.set k ds.reverse):=h1
       have x2:=Ext.write (vs:=ws) (ws:=ws.reverse) hM1 hk
       exact h1 .non _ μ1 (x1.trans x2) (hM1.write hk h5.reverse) rfl
   |_=>exact h1.elim
theorem ED {p pos:Pos}{n f:Nat}{x:Str}{call:Call}(C:eA fa X.prog X.w X.K X.mg X.base n f (call f))(hr:bC (2*n+4) X.A)(hg:Gl X x)(hm:∀ad,fa f=some ad->X.mg x=some (.ref ad))
 (hdb:(x==("__debug__":Str))=false):DE fa X (.Call (.Name x p) [] [] pos) (au f call ah):=by
 rcases C with hb|⟨ad,fd,ps,h1,h2,h3,h4,F⟩
 ·exact fun pins s σ H Q I ⟨μ,Z,M,hE,hM,h⟩=>(sY hb h).elim
 ·exact br (Ag F hr hg (hm ad h1) h2 h3 .nil lO hdb) fun σ H Q ⟨μ,Z,M,hE,hM,h⟩=>by
   obtain ⟨μ',ρ',M',_,hM',h'⟩:=lE hE hM h h4
   exact h' [] H μ' Ext.refl hM' rfl
end
end LD
namespace LD
open PySem PySem.Spec PyProof.Rows L2
noncomputable def j8 (a b:GE)(i:Nat)(e:GE):GS:=fun Z M=>(e Z M).bind fun d M=>match d with
 | .tup [u, w] => (a Z M).bind fun x M => (b Z M).bind fun y M => (match x, y with
   | .cell k, .int n => (match M[k]? with
     | some ds => (match bz ds.length n with
       |some j=>.ok (.next (Z.set i (some w))) (M.set k (ds.set j u))
       |none=>.bad)
     |none=>.bad)
   |_,_=>.bad)
 |_=>.bad
section
variable {fa:Fa}{X:Cx}{a b e:Expr}{ga gb ge:GE}{pos p2 px p4:Pos}{i kk:Nat}{x:Str}
theorem Fu (hc:X.calm=true)(ha:DE fa X a ga)(hb:DE fa X b gb)(he:DE fa X e ge)(hn:PG X (.Name x px) (gT fa X.K (.one i)))
 (h0:∀v,assign (.Subscript a b p2) X.env v=(do
  let ov <- holding [v] (eval a X.env)
  let iv <- holding [v,ov] (eval b X.env)
  standAt p2
  holding [v,ov,iv] (setItem ov iv v)
  release [v,ov,iv] []))
 (hs:swapsWithSole [.Tuple [.Subscript a b p2,.Name x px] kk p4] e pos.line X.env=pure false) (hw:swappedStores [.Tuple [.Subscript a b p2,.Name x px] kk p4] e X.env=pure none) :
 DS fa X (.Assign [.Tuple [.Subscript a b p2,.Name x px] kk p4] e pos) (j8 ga gb i ge):=
 dw (nQ he (xy hc (mV (xA ha hb set_list h0) (mV hn ug))) hs hw) fun D' σ H ⟨μ,Z,M,hE,hM,h⟩=>t1 hE hM h fun z M1 v H1 μ1 x1 hE1 hM1 r1 h1=>by
  cases z with
  | tup zs =>
    match zs,h1,r1 with
    | [u, w], h1, r1 =>
      obtain ⟨ad,vs,rfl,hq,v0,vs1,rfl,r0,v1,vs2,rfl,rw1,r2⟩:=r1
      obtain rfl:vs2=[]:=r2
      refine ⟨ad,[v0,v1],rfl,hq,rfl,v0,[v1],rfl,?_⟩
      refine t2 hE1 hM1 h1 fun x y M2 vx vy H2 μ2 x2 hE2 hM2 rx ry h2=>?_
      cases x with
      | cell k =>
        cases y with
        | int n =>
          dsimp only at h2
          cases em:M2[k]? with
          |none=>rw [em] at h2;exact h2.elim
          | some ds =>
            rw [em] at h2
            dsimp only at h2
            cases ej:LD.bz ds.length n with
            |none=>rw [ej] at h2;exact h2.elim
            | some j =>
              rw [ej] at h2
              obtain ⟨ad2,rfl,hk⟩:=rx
              obtain ⟨ws,h4,h5⟩:=hM2.at_ em hk
              have q:∀σ' H' μ',Ext μ H μ' H'->a7 fa X.K μ' H' σ' (Z.set i (some w))->RelM fa X.K μ' H' (M2.set k (ds.set j u))->D'.nx σ' H':=h2
              have xw:Ext μ2 H2 μ2 (upd H2 ad2 (.lst (ws.set j v0))):=Ext.write (vs:=ws.set j v0) hM2 hk
              have hM3:=hM2.write hk (h5.set j (r0.ext x2))
              exact ⟨ad2,ws,n,j,rfl,ry,h4,by rw [h5.length];exact ej,v1,[],rfl,μ2,Z,_,w,_,hE2.ext xw,hM3,(rw1.ext x2).ext xw,rfl,fun σ1 hE4=>⟨rfl,q σ1 _ μ2 ((x1.trans x2).trans xw) hE4 hM3⟩⟩
        |_=>exact h2.elim
      |_=>exact h2.elim
    |[],h1,_=>exact h1.elim
    |[_],h1,_=>exact h1.elim
    |_::_::_::_,h1,_=>exact h1.elim
  |_=>exact h1.elim
end
end LD
namespace LD
open PySem
theorem ob {α β:Type}{a:Option α}{f:α->Option β}{r:β}(h:a.bind f=some r):∃x,a=some x/\f x=some r:=Nn.mp h
theorem oi {α:Type}{c:Prop}[Decidable c]{a:Option α}{r:α}(h:(if c then a else none)=some r):c/\a=some r:=by
 split at h
 ·exact ⟨by assumption,h⟩
 ·cases h
section
variable {β:Type}{r:β}{e:Expr}{st:Stmt}
theorem od {c:Prop}[Decidable c]{f:c->Option β}(h:(if x:c then f x else none)=some r):∃x,f x=some r:=by
 by_cases z:c
 ·rw [dif_pos z] at h;exact ⟨z,h⟩
 ·rw [dif_neg z] at h;cases h
noncomputable def BM (e:Expr)(k:UnaryOp->Expr->Pos->Option β):Option β:=if h:e.ctorIdx=3 then @Expr.UnaryOp.elim (fun _=>Option β) e h k else none
theorem r9 {k:UnaryOp->Expr->Pos->Option β}(h:BM e k=some r):∃a b c,e=.UnaryOp a b c/\k a b c=some r:=(od h).elim fun z h=>@Expr.UnaryOp.elim (fun e=>∀z,@Expr.UnaryOp.elim (fun _=>Option β) e z k=some r->∃a b c,e=.UnaryOp a b c/\k a b c=some r) e z (fun a b c _ h=>⟨a,b,c,rfl,h⟩) z h
noncomputable def vo (e:Expr)(k:BoolOp->List Expr->Pos->Option β):Option β:=if h:e.ctorIdx=0 then @Expr.BoolOp.elim (fun _=>Option β) e h k else none
theorem sg {k:BoolOp->List Expr->Pos->Option β}(h:vo e k=some r):∃a b c,e=.BoolOp a b c/\k a b c=some r:=(od h).elim fun z h=>@Expr.BoolOp.elim (fun e=>∀z,@Expr.BoolOp.elim (fun _=>Option β) e z k=some r->∃a b c,e=.BoolOp a b c/\k a b c=some r) e z (fun a b c _ h=>⟨a,b,c,rfl,h⟩) z h
noncomputable def Gx (e:Expr)(k:Expr->List NC->Scope->Pos->Option β):Option β:=if h:e.ctorIdx=8 then @Expr.ListComp.elim (fun _=>Option β) e h k else none
theorem xU {k:Expr->List NC->Scope->Pos->Option β}(h:Gx e k=some r):∃a b c d,e=.ListComp a b c d/\k a b c d=some r:=(od h).elim fun z h=>@Expr.ListComp.elim (fun e=>∀z,@Expr.ListComp.elim (fun _=>Option β) e z k=some r->∃a b c d,e=.ListComp a b c d/\k a b c d=some r) e z (fun a b c d _ h=>⟨a,b,c,d,rfl,h⟩) z h
noncomputable def Ao (e:Expr)(k:Expr->Expr->Expr->Pos->Option β):Option β:=if h:e.ctorIdx=5 then @Expr.IfExp.elim (fun _=>Option β) e h k else none
theorem uu {k:Expr->Expr->Expr->Pos->Option β}(h:Ao e k=some r):∃a b c d,e=.IfExp a b c d/\k a b c d=some r:=(od h).elim fun z h=>@Expr.IfExp.elim (fun e=>∀z,@Expr.IfExp.elim (fun _=>Option β) e z k=some r->∃a b c d,e=.IfExp a b c d/\k a b c d=some r) e z (fun a b c d _ h=>⟨a,b,c,d,rfl,h⟩) z h
noncomputable def Ap (e:Expr)(k:Expr->List CmpOp->List Expr->Pos->Option β):Option β:=if h:e.ctorIdx=15 then @Expr.Compare.elim (fun _=>Option β) e h k else none
theorem oQ {k:Expr->List CmpOp->List Expr->Pos->Option β}(h:Ap e k=some r):∃a b c d,e=.Compare a b c d/\k a b c d=some r:=(od h).elim fun z h=>@Expr.Compare.elim (fun e=>∀z,@Expr.Compare.elim (fun _=>Option β) e z k=some r->∃a b c d,e=.Compare a b c d/\k a b c d=some r) e z (fun a b c d _ h=>⟨a,b,c,d,rfl,h⟩) z h
noncomputable def lS (e:Expr)(k:Expr->List Expr->List Keyword->Pos->Option β):Option β:=if h:e.ctorIdx=16 then @Expr.Call.elim (fun _=>Option β) e h k else none
theorem i8 {k:Expr->List Expr->List Keyword->Pos->Option β}(h:lS e k=some r):∃a b c d,e=.Call a b c d/\k a b c d=some r:=(od h).elim fun z h=>@Expr.Call.elim (fun e=>∀z,@Expr.Call.elim (fun _=>Option β) e z k=some r->∃a b c d,e=.Call a b c d/\k a b c d=some r) e z (fun a b c d _ h=>⟨a,b,c,d,rfl,h⟩) z h
noncomputable def GC (e:Expr)(k:Expr->Int->Option Expr->Pos->Option β):Option β:=if h:e.ctorIdx=17 then @Expr.FormattedValue.elim (fun _=>Option β) e h k else none
theorem D9 {k:Expr->Int->Option Expr->Pos->Option β}(h:GC e k=some r):∃a b c d,e=.FormattedValue a b c d/\k a b c d=some r:=(od h).elim fun z h=>@Expr.FormattedValue.elim (fun e=>∀z,@Expr.FormattedValue.elim (fun _=>Option β) e z k=some r->∃a b c d,e=.FormattedValue a b c d/\k a b c d=some r) e z (fun a b c d _ h=>⟨a,b,c,d,rfl,h⟩) z h
noncomputable def Gy (e:Expr)(k:List Expr->Pos->Option β):Option β:=if h:e.ctorIdx=18 then @Expr.JoinedStr.elim (fun _=>Option β) e h k else none
theorem D7 {k:List Expr->Pos->Option β}(h:Gy e k=some r):∃a b,e=.JoinedStr a b/\k a b=some r:=(od h).elim fun z h=>@Expr.JoinedStr.elim (fun e=>∀z,@Expr.JoinedStr.elim (fun _=>Option β) e z k=some r->∃a b,e=.JoinedStr a b/\k a b=some r) e z (fun a b _ h=>⟨a,b,rfl,h⟩) z h
noncomputable def se (e:Expr)(k:Const->Nat->Pos->Option β):Option β:=if h:e.ctorIdx=19 then @Expr.Constant.elim (fun _=>Option β) e h k else none
theorem lR {k:Const->Nat->Pos->Option β}(h:se e k=some r):∃a b c,e=.Constant a b c/\k a b c=some r:=(od h).elim fun z h=>@Expr.Constant.elim (fun e=>∀z,@Expr.Constant.elim (fun _=>Option β) e z k=some r->∃a b c,e=.Constant a b c/\k a b c=some r) e z (fun a b c _ h=>⟨a,b,c,rfl,h⟩) z h
noncomputable def lT (e:Expr)(k:Expr->Str->Pos->Option β):Option β:=if h:e.ctorIdx=20 then @Expr.Attribute.elim (fun _=>Option β) e h k else none
theorem i9 {k:Expr->Str->Pos->Option β}(h:lT e k=some r):∃a b c,e=.Attribute a b c/\k a b c=some r:=(od h).elim fun z h=>@Expr.Attribute.elim (fun e=>∀z,@Expr.Attribute.elim (fun _=>Option β) e z k=some r->∃a b c,e=.Attribute a b c/\k a b c=some r) e z (fun a b c _ h=>⟨a,b,c,rfl,h⟩) z h
noncomputable def sd (e:Expr)(k:Expr->Expr->Pos->Option β):Option β:=if h:e.ctorIdx=21 then @Expr.Subscript.elim (fun _=>Option β) e h k else none
theorem lQ {k:Expr->Expr->Pos->Option β}(h:sd e k=some r):∃a b c,e=.Subscript a b c/\k a b c=some r:=(od h).elim fun z h=>@Expr.Subscript.elim (fun e=>∀z,@Expr.Subscript.elim (fun _=>Option β) e z k=some r->∃a b c,e=.Subscript a b c/\k a b c=some r) e z (fun a b c _ h=>⟨a,b,c,rfl,h⟩) z h
noncomputable def nName (e:Expr)(k:Str->Pos->Option β):Option β:=if h:e.ctorIdx=23 then @Expr.Name.elim (fun _=>Option β) e h k else none
theorem cW {k:Str->Pos->Option β}(h:nName e k=some r):∃a b,e=.Name a b/\k a b=some r:=(od h).elim fun z h=>@Expr.Name.elim (fun e=>∀z,@Expr.Name.elim (fun _=>Option β) e z k=some r->∃a b,e=.Name a b/\k a b=some r) e z (fun a b _ h=>⟨a,b,rfl,h⟩) z h
noncomputable def mY (e:Expr)(k:List Expr->Nat->Pos->Option β):Option β:=if h:e.ctorIdx=25 then @Expr.Tuple.elim (fun _=>Option β) e h k else none
theorem fJ {k:List Expr->Nat->Pos->Option β}(h:mY e k=some r):∃a b c,e=.Tuple a b c/\k a b c=some r:=(od h).elim fun z h=>@Expr.Tuple.elim (fun e=>∀z,@Expr.Tuple.elim (fun _=>Option β) e z k=some r->∃a b c,e=.Tuple a b c/\k a b c=some r) e z (fun a b c _ h=>⟨a,b,c,rfl,h⟩) z h
noncomputable def Gv (e:Expr)(k:Option Expr->Option Expr->Option Expr->Pos->Option β):Option β:=if h:e.ctorIdx=26 then @Expr.Slice.elim (fun _=>Option β) e h k else none
theorem D5 {k:Option Expr->Option Expr->Option Expr->Pos->Option β}(h:Gv e k=some r):∃a b c d,e=.Slice a b c d/\k a b c d=some r:=(od h).elim fun z h=>@Expr.Slice.elim (fun e=>∀z,@Expr.Slice.elim (fun _=>Option β) e z k=some r->∃a b c d,e=.Slice a b c d/\k a b c d=some r) e z (fun a b c d _ h=>⟨a,b,c,d,rfl,h⟩) z h
noncomputable def oM (e:Stmt)(k:List Expr->Expr->Pos->Option β):Option β:=if h:e.ctorIdx=5 then @Stmt.Assign.elim (fun _=>Option β) e h k else none
theorem jJ {k:List Expr->Expr->Pos->Option β}(h:oM st k=some r):∃a b c,st=.Assign a b c/\k a b c=some r:=(od h).elim fun z h=>@Stmt.Assign.elim (fun e=>∀z,@Stmt.Assign.elim (fun _=>Option β) e z k=some r->∃a b c,e=.Assign a b c/\k a b c=some r) st z (fun a b c _ h=>⟨a,b,c,rfl,h⟩) z h
noncomputable def Fx (e:Stmt)(k:Option Expr->Option Expr->Pos->Option β):Option β:=if h:e.ctorIdx=16 then @Stmt.Raise.elim (fun _=>Option β) e h k else none
theorem Dr {k:Option Expr->Option Expr->Pos->Option β}(h:Fx st k=some r):∃a b c,st=.Raise a b c/\k a b c=some r:=(od h).elim fun z h=>@Stmt.Raise.elim (fun e=>∀z,@Stmt.Raise.elim (fun _=>Option β) e z k=some r->∃a b c,e=.Raise a b c/\k a b c=some r) st z (fun a b c _ h=>⟨a,b,c,rfl,h⟩) z h
noncomputable def zR (e:Stmt)(k:Expr->Pos->Option β):Option β:=if h:e.ctorIdx=24 then @Stmt.Expr.elim (fun _=>Option β) e h k else none
theorem ua {k:Expr->Pos->Option β}(h:zR st k=some r):∃a b,st=.Expr a b/\k a b=some r:=(od h).elim fun z h=>@Stmt.Expr.elim (fun e=>∀z,@Stmt.Expr.elim (fun _=>Option β) e z k=some r->∃a b,e=.Expr a b/\k a b=some r) st z (fun a b _ h=>⟨a,b,rfl,h⟩) z h
noncomputable def GG (e:Expr)(k:Expr->Operator->Expr->Pos->Option β):Option β:=if h:e.ctorIdx=2 then @Expr.BinOp.elim (fun _=>Option β) e h k else none
theorem Ea {k:Expr->Operator->Expr->Pos->Option β}(h:GG e k=some r):∃a b c d,e=.BinOp a b c d/\k a b c d=some r:=(od h).elim fun z h=>@Expr.BinOp.elim (fun e=>∀z,@Expr.BinOp.elim (fun _=>Option β) e z k=some r->∃a b c d,e=.BinOp a b c d/\k a b c d=some r) e z (fun a b c d _ h=>⟨a,b,c,d,rfl,h⟩) z h
noncomputable def Gw (e:Expr)(k:List Expr->Pos->Option β):Option β:=if h:e.ctorIdx=24 then @Expr.List.elim (fun _=>Option β) e h k else none
theorem D6 {k:List Expr->Pos->Option β}(h:Gw e k=some r):∃a b,e=.List a b/\k a b=some r:=(od h).elim fun z h=>@Expr.List.elim (fun e=>∀z,@Expr.List.elim (fun _=>Option β) e z k=some r->∃a b,e=.List a b/\k a b=some r) e z (fun a b _ h=>⟨a,b,rfl,h⟩) z h
noncomputable def JS (e:Stmt)(k:Option Expr->Pos->Option β):Option β:=if h:e.ctorIdx=3 then @Stmt.Return.elim (fun _=>Option β) e h k else none
theorem Fw {k:Option Expr->Pos->Option β}(h:JS st k=some r):∃a b,st=.Return a b/\k a b=some r:=(od h).elim fun z h=>@Stmt.Return.elim (fun e=>∀z,@Stmt.Return.elim (fun _=>Option β) e z k=some r->∃a b,e=.Return a b/\k a b=some r) st z (fun a b _ h=>⟨a,b,rfl,h⟩) z h
noncomputable def JV (e:Stmt)(k:Expr->Expr->List Stmt->List Stmt->Pos->Option β):Option β:=if h:e.ctorIdx=9 then @Stmt.For.elim (fun _=>Option β) e h k else none
theorem FC {k:Expr->Expr->List Stmt->List Stmt->Pos->Option β}(h:JV st k=some r):∃a b c d f,st=.For a b c d f/\k a b c d f=some r:=(od h).elim fun z h=>@Stmt.For.elim (fun e=>∀z,@Stmt.For.elim (fun _=>Option β) e z k=some r->∃a b c d f,e=.For a b c d f/\k a b c d f=some r) st z (fun a b c d f _ h=>⟨a,b,c,d,f,rfl,h⟩) z h
noncomputable def JU (e:Stmt)(k:Expr->List Stmt->List Stmt->Pos->Option β):Option β:=if h:e.ctorIdx=12 then @Stmt.If.elim (fun _=>Option β) e h k else none
theorem FA {k:Expr->List Stmt->List Stmt->Pos->Option β}(h:JU st k=some r):∃a b c d,st=.If a b c d/\k a b c d=some r:=(od h).elim fun z h=>@Stmt.If.elim (fun e=>∀z,@Stmt.If.elim (fun _=>Option β) e z k=some r->∃a b c d,e=.If a b c d/\k a b c d=some r) st z (fun a b c d _ h=>⟨a,b,c,d,rfl,h⟩) z h
noncomputable def JT (e:Stmt)(k:Pos->Option β):Option β:=if h:e.ctorIdx=25 then @Stmt.Pass.elim (fun _=>Option β) e h k else none
theorem Fy {k:Pos->Option β}(h:JT st k=some r):∃a,st=.Pass a/\k a=some r:=(od h).elim fun z h=>@Stmt.Pass.elim (fun e=>∀z,@Stmt.Pass.elim (fun _=>Option β) e z k=some r->∃a,e=.Pass a/\k a=some r) st z (fun a _ h=>⟨a,rfl,h⟩) z h
variable {α:Type}{l:List α}
noncomputable def n0 (l:List α)(v:Option β):Option β:=if l.isEmpty=true then v else none
theorem gi {v:Option β}(h:n0 l v=some r):l=[]/\v=some r:=(oi h).elim fun c h=>⟨List.isEmpty_iff.mp c,h⟩
noncomputable def nC (l:List α)(k:α->List α->Option β):Option β:=match l with
 |[]=>none
 |a::s=>k a s
theorem iC {k:α->List α->Option β}(h:nC l k=some r):∃a s,l=a::s/\k a s=some r:=by
 cases l with
 |nil=>cases h
 |cons a s=>exact ⟨a,s,rfl,h⟩
noncomputable def n1 (l:List α)(k:α->Option β):Option β:=nC l fun a s=>n0 s (k a)
theorem dz {k:α->Option β}(h:n1 l k=some r):∃a,l=[a]/\k a=some r:=by
 obtain ⟨a,s,rfl,h⟩:=iC h
 obtain ⟨rfl,h⟩:=gi h
 exact ⟨a,rfl,h⟩
noncomputable def n2 (l:List α)(k:α->α->Option β):Option β:=nC l fun a s=>n1 s (k a)
theorem gW {k:α->α->Option β}(h:n2 l k=some r):∃a b,l=[a,b]/\k a b=some r:=by
 obtain ⟨a,s,rfl,h⟩:=iC h
 obtain ⟨b,rfl,h⟩:=dz h
 exact ⟨a,b,rfl,h⟩
noncomputable def An (e:Expr)(k:Str->Option β):Option β:=se e fun c _ _=>match c with
 |.str z=>k z
 |_=>none
theorem ur {k:Str->Option β}(h:An e k=some r):∃z i p,e=.Constant (.str z) i p/\k z=some r:=by
 obtain ⟨c,i,p,rfl,h⟩:=lR h
 cases c with
 |str z=>exact ⟨z,i,p,rfl,h⟩
 |_=>cases h
noncomputable def BN (e:Expr)(v:Option β):Option β:=se e fun c _ _=>match c with
 |.bool b=>if b=true then v else none
 |_=>none
theorem Am {v:Option β}(h:BN e v=some r):∃i p,e=.Constant (.bool true) i p/\v=some r:=by
 obtain ⟨c,i,p,rfl,h⟩:=lR h
 cases c with
 |bool b=>obtain ⟨rfl,k⟩:=oi h;exact ⟨i,p,rfl,k⟩
 |_=>cases h
noncomputable def Gz (e:Expr)(k:Int->Option β):Option β:=se e fun c _ _=>match c with
 |.int z=>k z
 |_=>none
theorem D8 {k:Int->Option β}(h:Gz e k=some r):∃z i p,e=.Constant (.int z) i p/\k z=some r:=by
 obtain ⟨c,i,p,rfl,h⟩:=lR h
 cases c with
 |int z=>exact ⟨z,i,p,rfl,h⟩
 |_=>cases h
noncomputable def J1 (e:Expr)(k:Expr->Option β):Option β:=GC e fun a i s _=>if i=-1/\s.isNone=true then k a else none
theorem GD {k:Expr->Option β}(h:J1 e k=some r):∃a p,e=.FormattedValue a (-1) none p/\k a=some r:=by
 obtain ⟨a,i,s,p,rfl,h⟩:=D9 h
 obtain ⟨⟨rfl,c⟩,k⟩:=oi h
 rw [N2.mp c]
 exact ⟨a,p,rfl,k⟩
noncomputable def nG (c:NC)(k:Expr->Expr->List Expr->Option β):Option β:=if c.is_async=0 then k c.target c.iter c.ifs else none
theorem vn {c:NC}{k:Expr->Expr->List Expr->Option β}(h:nG c k=some r):∃t i f,c=⟨t,i,f,0⟩/\k t i f=some r:=by
 obtain ⟨z,h⟩:=oi h
 cases c;cases z
 exact ⟨_,_,_,rfl,h⟩
noncomputable def kU (e:Expr)(k:Str->List Expr->Pos->Option β):Option β:=lS e fun f es ks p=>nName f fun x _=>n0 ks (k x es p)
theorem fj {k:Str->List Expr->Pos->Option β}(h:kU e k=some r):∃x q es p,e=.Call (.Name x q) es [] p/\k x es p=some r:=by
 obtain ⟨f,es,ks,p,rfl,h⟩:=i8 h
 obtain ⟨x,q,rfl,h⟩:=cW h
 obtain ⟨rfl,h⟩:=gi h
 exact ⟨x,q,es,p,rfl,h⟩
noncomputable def J2 (e:Expr)(k:Expr->Str->Expr->Bool->Option β):Option β:=lS e fun f es ks p=>lT f fun a m q=>n0 ks (n1 es fun d=>k a m d (q.endLine==p.line))
theorem GF {k:Expr->Str->Expr->Bool->Option β}(h:J2 e k=some r):∃a m q d p,e=.Call (.Attribute a m q) [d] [] p/\k a m d (q.endLine==p.line)=some r:=by
 obtain ⟨f,es,ks,p,rfl,h⟩:=i8 h
 obtain ⟨a,m,q,rfl,h⟩:=i9 h
 obtain ⟨rfl,h⟩:=gi h
 obtain ⟨d,rfl,h⟩:=dz h
 exact ⟨a,m,q,d,p,rfl,h⟩
theorem bN {a b:Option β}(h:a.or b=some r):a=some r\/b=some r:=by
 cases a with
 |none=>exact .inr h
 |some x=>exact .inl h
end
end LD
namespace LD
open PySem PySem.Spec PyProof.Rows L2
inductive En where
 |fn (i:Nat) (r:Bool)|int (i:Int)|str (z:Str)|dct (fs:List (Str×Nat))|xc (k:Nat)|xi (k:Nat)|xk (k:Nat)|de|bl|cls (c f:Nat)
structure Cq (fa:Fa) (P:Ms) (w:Mv) (K:LX) (mg:Str->Option LY) (base:Heap) (T:List (Str×En)):Prop where
 fn:∀{x:Str}{i:Nat}{r:Bool},T.lookup x=some (.fn i r)->∀ad,fa i=some ad->mg x=some (.ref ad)
 int:∀{x:Str}{i:Int},T.lookup x=some (.int i)->∃t,mg x=some (.int i t)
 str:∀{x:Str}{z:Str},T.lookup x=some (.str z)->∃t,mg x=some (.str z t)
 dct:∀{x:Str}{fs:List (Str×Nat)},T.lookup x=some (.dct fs)->∃ad kvs,mg x=some (.ref ad)/\fg K w.params ad kvs/\dI fa kvs fs
 xc:∀{x:Str}{k:Nat},T.lookup x=some (.xc k)->∃C,mg x=some (.ref C)/\fa (eE k)=some C/\PySem.W.excIn K C lG "ValueError.__new__"=true/\PySem.W.keepIn K (.ref C)=true
 xi:∀{x:Str}{k:Nat},T.lookup x=some (.xi k)->jX fa P w K mg base k x/\∃D,mg x=some (.ref D)/\fa (eE k)=some D
 xk:∀{x:Str}{k:Nat},T.lookup x=some (.xk k)->∃D,mg x=some (.ref D)/\fa (eE k)=some D
 de:∀{x:Str},T.lookup x=some .de->∃D,mg x=some (.ref D)/\fa 999=some D
 bl:∀{x:Str},T.lookup x=some .bl->mg x=none
 xcs:HP fa K
 ob:yS fa K
 of:∀o,5000<=o->fa o=none
 cls:∀{x:Str}{c f:Nat},T.lookup x=some (.cls c f)->∃C,mg x=some (.ref C)/\fa (i7 c)=some C/\∀ad,fa f=some ad->Mk K C ad
structure G where
 T:List (Str×En)
 tw:List (Str×Str×Nat×Nat)
 xf:List Str
 cel:List (Nat×Nat×Nat)
 txt:List (Nat×Nat×Nat)
 ms:List (Str×Nat×Nat)
 c:Call
 N:List Str
 sc:Scope
 lv:Nat
structure eG (fa:Fa) (n:Nat) (g:G) (X:Cx):Prop where
 N:X.N=g.N
 nd:g.N.Nodup
 sc:X.env.scope=g.sc
 T:Cq fa X.prog X.w X.K X.mg X.base g.T
 tw:∀q∈g.tw,Cp fa X.K X.mg q.1 q.2.1 q.2.2.1 q.2.2.2
 xf:∀f∈g.xf,Cn fa X.K f
 ms:∀q∈g.ms,oC fa X.K q.1 q.2.1 q.2.2
 fn:g.lv≠1->∀x,X.fn x=true
 calm:0<g.lv->X.calm=true
 C:0<g.lv->∀f,eA fa X.prog X.w X.K X.mg X.base n f (g.c f)
 hr:0<g.lv->bC (2*n+4+1) X.A
 top:2<=g.lv->X.ex=[]/\X.stack=X.env::X.outer/\X.env.frame=some X.env.locals/\X.env.scope.kind=.function
 po:g.lv=2->PassesOwn (model X.prog X.w) X.A X.env X.xe
structure Rc where
 e:G->Expr->Option GE
 t:G->Expr->Option GT
 x:G->Expr->Option GE
 w:G->Expr->Expr->Option GW
 s:G->Stmt->Option GS
abbrev dS:=Rc->G->Expr->Option GE
abbrev HS:=Rc->G->Expr->Option GT
abbrev tq:=Rc->G->Expr->Expr->Option GW
abbrev mE:=Rc->G->Stmt->Option GS
structure jh (fa:Fa) (n:Nat) (R:Rc):Prop where
 e:∀{g:G}{X:Cx}{a:Expr}{ga:GE},eG fa n g X->R.e g a=some ga->DE fa X a ga
 t:∀{g:G}{X:Cx}{a:Expr}{ga:GT},eG fa n g X->R.t g a=some ga->DT fa X a ga
 x:∀{g:G}{X:Cx}{a:Expr}{ga:GE},eG fa n g X->R.x g a=some ga->DX fa X a ga
 w:∀{g:G}{X:Cx}{t a:Expr}{ga:GW},eG fa n g X->R.w g t a=some ga->DI fa X t a ga
 s:∀{g:G}{X:Cx}{a:Stmt}{ga:GS},eG fa n g X->R.s g a=some ga->DS fa X a ga
noncomputable def SE (r:dS):Prop:=∀{fa:Fa}{n:Nat}{R:Rc},jh fa n R->∀{g:G}{X:Cx},eG fa n g X->∀{a:Expr}{ga:GE},r R g a=some ga->DE fa X a ga
noncomputable def ST (r:HS):Prop:=∀{fa:Fa}{n:Nat}{R:Rc},jh fa n R->∀{g:G}{X:Cx},eG fa n g X->∀{a:Expr}{ga:GT},r R g a=some ga->DT fa X a ga
noncomputable def SX (r:dS):Prop:=∀{fa:Fa}{n:Nat}{R:Rc},jh fa n R->∀{g:G}{X:Cx},eG fa n g X->∀{a:Expr}{ga:GE},r R g a=some ga->DX fa X a ga
noncomputable def SW (r:tq):Prop:=∀{fa:Fa}{n:Nat}{R:Rc},jh fa n R->∀{g:G}{X:Cx},eG fa n g X->∀{t a:Expr}{ga:GW},r R g t a=some ga->DI fa X t a ga
noncomputable def SS (r:mE):Prop:=∀{fa:Fa}{n:Nat}{R:Rc},jh fa n R->∀{g:G}{X:Cx},eG fa n g X->∀{a:Stmt}{ga:GS},r R g a=some ga->DS fa X a ga
structure Rs where
 e:List dS
 t:List HS
 x:List dS
 w:List tq
 s:List mE
noncomputable def It (rs:Rs):Nat->Rc
 |0=>⟨fun _ _=>none,fun _ _=>none,fun _ _=>none,fun _ _ _=>none,fun _ _=>none⟩
 |n+1=>⟨fun g a=>rs.e.findSome? fun r=>r (It rs n) g a,fun g a=>rs.t.findSome? fun r=>r (It rs n) g a,fun g a=>rs.x.findSome? fun r=>r (It rs n) g a,fun g t a=>rs.w.findSome? fun r=>r (It rs n) g t a,fun g a=>rs.s.findSome? fun r=>r (It rs n) g a⟩
noncomputable def AllP {α:Type}(p:α->Prop):List α->Prop
 |[]=>True
 |a::l=>p a/\AllP p l
theorem AllP.mem {α:Type}{p:α->Prop}:∀{l:List α},AllP p l->∀a∈l,p a
 |_::_,h,a,m=>(MJ.mp m).elim (fun e=>e ▸ h.1) (AllP.mem h.2 a)
structure Bc (rs:Rs):Prop where
 e:AllP SE rs.e
 t:AllP ST rs.t
 x:AllP SX rs.x
 w:AllP SW rs.w
 s:AllP SS rs.s
theorem Cz {fa:Fa}{n:Nat}{rs:Rs}(h:Bc rs):∀k,jh fa n (It rs k)
 |0=>⟨(fun _ z=>nomatch z),(fun _ z=>nomatch z),(fun _ z=>nomatch z),(fun _ z=>nomatch z),(fun _ z=>nomatch z)⟩
 | k + 1 => by
   have ih:=Cz (n:=n) (fa:=fa) h k
   refine ⟨fun o z=>?_,fun o z=>?_,fun o z=>?_,fun o z=>?_,fun o z=>?_⟩
   ·obtain ⟨r,m,e⟩:=Nw z;exact h.e.mem r m ih o e
   ·obtain ⟨r,m,e⟩:=Nw z;exact h.t.mem r m ih o e
   ·obtain ⟨r,m,e⟩:=Nw z;exact h.x.mem r m ih o e
   ·obtain ⟨r,m,e⟩:=Nw z;exact h.w.mem r m ih o e
   ·obtain ⟨r,m,e⟩:=Nw z;exact h.s.mem r m ih o e
noncomputable def Kc:Str:="__debug__"
noncomputable def jc (g:G)(x:Str):Bool:=g.sc.names.lookup x==some .globalImplicit&&!(x==Kc)
noncomputable def vr (g:G)(x:Str):Option Nat:=if (g.sc.names.lookup x==some .local||g.sc.names.lookup x==some .cell||g.sc.names.lookup x==some .free)&&!(x==Kc)&&!(x==("__classdict__":Str)) then g.N.findIdx? (·==x) else none
section
variable {fa:Fa}{n:Nat}{g:G}{X:Cx}{R:Rc}(o:eG fa n g X)
include o
theorem cL {x:Str}(h:jc g x=true):Gl X x/\(x==("__debug__":Str))=false:=by
 unfold jc at h
 rw [L6,NW] at h
 exact ⟨by show X.env.scope.names.lookup x=_;rw [o.sc];exact eq_of_beq h.1,h.2⟩
theorem vG {x:Str}{i:Nat}(h:g.N.findIdx? (·==x)=some i):X.N[i]?=some x:=by
 obtain ⟨hi,h1,_⟩:=Og.mp h
 rw [o.N,Mr hi,eq_of_beq h1]
theorem Bo {x:Str}{i:Nat}(h:vr g x=some i):X.N[i]?=some x/\qr X.env.scope x/\(x==("__debug__":Str))=false/\(x==("__classdict__":Str))=false:=by
 obtain ⟨c,h⟩:=oi h
 simp only [L6,Oc,NW] at c
 refine ⟨vG o h,?_,c.1.2,c.2⟩
 unfold qr
 rw [o.sc]
 rcases c.1.1 with (z|z)|z
 ·exact .inl (eq_of_beq z)
 ·exact .inr (.inl (eq_of_beq z))
 ·exact .inr (.inr (eq_of_beq z))
omit o
theorem eG.rm (o:eG fa n g X)(h:0<g.lv):Rm X:=Ds (o.hr h)
end
noncomputable def cA (f:Expr->Option GE):List Expr->Option GA
 |[]=>some ah
 |a::r=>if notStar a=true then (f a).bind fun x=>(cA f r).bind fun y=>some (ae x y) else none
theorem gZ {fa:Fa}{X:Cx}{f:Expr->Option GE}(hf:∀{a:Expr}{ga:GE},f a=some ga->DE fa X a ga):∀{es:List Expr}{gs:GA},cA f es=some gs->DA fa X es gs/\es.all notStar=true
 |[],_,h=>by cases h;exact ⟨Hz,rfl⟩
 | a :: r, _, h => by
   obtain ⟨c,h⟩:=oi h
   obtain ⟨x,hx,h⟩:=ob h
   obtain ⟨y,hy,h⟩:=ob h
   cases h
   obtain ⟨h1,h2⟩:=gZ hf hy
   exact ⟨EA (hf hx) h1 (bh c),by rw [MS,c,h2];rfl⟩
noncomputable def tf (f:Expr->Option GE)(k:GE->GE->GE):List Expr->Option GE
 |[]=>none
 |[a]=>f a
 |a::b::r=>(f a).bind fun x=>(tf f k (b::r)).bind fun y=>some (k x y)
theorem uP {fa:Fa}{X:Cx}{pos:Pos}{f:Expr->Option GE}(hf:∀{a:Expr}{ga:GE},f a=some ga->DE fa X a ga):∀{es:List Expr}{ge:GE},tf f dM es=some ge->DE fa X (.BoolOp .And es pos) ge
 |[a],_,h=>Ce (hf h)
 | a :: b :: r, _, h => by
   obtain ⟨x,hx,h⟩:=ob h
   obtain ⟨y,hy,h⟩:=ob h
   cases h
   exact JA (hf hx) (uP hf hy)
theorem yP {fa:Fa}{X:Cx}{pos:Pos}{f:Expr->Option GE}(hf:∀{a:Expr}{ga:GE},f a=some ga->DE fa X a ga):∀{es:List Expr}{ge:GE},tf f Ka es=some ge->DE fa X (.BoolOp .Or es pos) ge
 |[a],_,h=>Ce (hf h)
 | a :: b :: r, _, h => by
   obtain ⟨x,hx,h⟩:=ob h
   obtain ⟨y,hy,h⟩:=ob h
   cases h
   exact Ln (hf hx) (yP hf hy)
noncomputable def rg (f:Expr->Option GT)(k:GT->GT->GT):List Expr->Option GT
 |[]=>none
 |[a]=>f a
 |a::b::r=>(f a).bind fun x=>(rg f k (b::r)).bind fun y=>some (k x y)
theorem tV {fa:Fa}{X:Cx}{pos:Pos}{f:Expr->Option GT}(hf:∀{a:Expr}{ga:GT},f a=some ga->DT fa X a ga):∀{es:List Expr}{ge:GT},rg f iX es=some ge->DW fa X (.BoolOp .And es pos) ge
 |[a],_,h=>El (hf h)
 | a :: b :: r, _, h => by
   obtain ⟨x,hx,h⟩:=ob h
   obtain ⟨y,hy,h⟩:=ob h
   cases h
   exact Hl (hf hx) (tV hf hy)
theorem wN {fa:Fa}{X:Cx}{pos:Pos}{f:Expr->Option GT}(hf:∀{a:Expr}{ga:GT},f a=some ga->DT fa X a ga):∀{es:List Expr}{ge:GT},rg f hX es=some ge->DW fa X (.BoolOp .Or es pos) ge
 |[a],_,h=>Hk (hf h)
 | a :: b :: r, _, h => by
   obtain ⟨x,hx,h⟩:=ob h
   obtain ⟨y,hy,h⟩:=ob h
   cases h
   exact Jh (hf hx) (wN hf hy)
noncomputable def Bq:dS:=fun _ g e=>nName e fun x _=>((vr g x).bind fun i=>some (aa i)).or (if jc g x=true then (g.T.lookup x).bind fun
 |.int i=>some (gC (.int i))
 |.str i=>some (gC (.str i))
 |_=>none else none)
theorem zd:SE Bq:=by
 intro fa n R rc g X o a ga h
 replace h:=cW h;obtain ⟨x,p,rfl,h⟩:=h
 rcases bN h with h|h
 ·obtain ⟨i,e,h⟩:=ob h;cases h;obtain ⟨a,b,c,d⟩:=Bo o e;exact Jk a b c d
 ·obtain ⟨c,h⟩:=oi h
  obtain ⟨hg,hd⟩:=cL o c
  obtain ⟨t,e,h⟩:=ob h
  cases t with
  |int i=>cases h;exact Du hg (o.T.int e) hd
  |str i=>cases h;obtain ⟨t,e⟩:=o.T.str e;exact iT (v:=.str _) (jM hg e ⟨t,rfl⟩ hd) fun _ _=>rfl
  |_=>cases h
noncomputable def wC:dS:=fun _ _ e=>se e fun
 |.int i,_,_=>some (gC (.int i))
 |.bool i,_,_=>some (gC (.bl i))
 |.str i,_,_=>some (gC (.str i))
 |.none,_,_=>some (gC .non)
 |_,_,_=>none
theorem wB:SE wC:=by
 intro fa n R rc g X o a ga h
 replace h:=lR h;obtain ⟨c,i,p,rfl,h⟩:=h
 cases c with
 |int i=>cases h;exact Ju
 |bool i=>cases h;exact HH
 |str i=>cases h;exact Jm
 |none=>cases h;exact Jq
 |_=>cases h
noncomputable def G.cl (g:G)(p:Pos):Bool:=g.cel.contains (p.line,p.col,p.endCol)
noncomputable def G.tx (g:G)(p:Pos):Bool:=g.txt.contains (p.line,p.col,p.endCol)
noncomputable def Cj:Operator->Option mI
 |.Add=>some .add|.Sub=>some .sub|.Mult=>some .mul|.FloorDiv=>some .fdiv|.Mod=>some .mod|.Pow=>some .pow|_=>none
theorem A9 {q:Operator}{b:mI}(h:Cj q=some b):q=binOp b:=by cases q<;>cases h<;>rfl
noncomputable def e9:CmpOp->iw
 |.Eq=>.eq|.NotEq=>.ne|.Lt=>.lt|.LtE=>.le|.Gt=>.gt|.GtE=>.ge|.Is=>.isN|.IsNot=>.notN|.In=>.isin|.NotIn=>.notin
theorem cn (q:CmpOp):dF (e9 q)=q:=by cases q<;>rfl
noncomputable def E5:dS:=fun R g e=>(GG e fun a q b p=>(Cj q).bind fun q=>(R.e g a).bind fun x=>(R.e g b).bind fun y=>some (aw (g.cl p) q x y)).or
 ((BM e fun q a _ => match q with
   |.USub=>(R.e g a).bind fun x=>some (gp x)
   |.Not=>(R.e g a).bind fun x=>some (Li x)
   |_=>none).or
 ((vo e fun q es _ => match q with
   |.And=>tf (R.e g) dM es
   |.Or=>tf (R.e g) Ka es).or
 ((Ao e fun c a b _=>(R.t g c).bind fun t=>(R.e g a).bind fun x=>(R.e g b).bind fun y=>some (jd t x y)).or
 ((mY e fun es _ _=>(cA (R.e g) es).bind fun s=>some (cv s)).or (Gw e fun es p=>(cA (R.e g) es).bind fun s=>some (bA (g.cl p) s))))))
theorem CU:SE E5:=by
 intro fa n R rc g X o a ga h
 replace h:=bN h;rcases h with h|h
 ·replace h:=Ea h;obtain ⟨a,q,b,p,rfl,h⟩:=h
  obtain ⟨q,hq,h⟩:=ob h;obtain ⟨x,hx,h⟩:=ob h;obtain ⟨y,hy,h⟩:=ob h;cases h
  rw [A9 hq];exact Jz _ _ (rc.e o hx) (rc.e o hy)
 replace h:=bN h;rcases h with h|h
 ·replace h:=r9 h;obtain ⟨q,a,p,rfl,h⟩:=h
  cases q with
  |USub=>obtain ⟨x,hx,h⟩:=ob h;cases h;exact Jr (rc.e o hx)
  |Not=>obtain ⟨x,hx,h⟩:=ob h;cases h;exact Jp (rc.e o hx)
  |_=>cases h
 replace h:=bN h;rcases h with h|h
 ·replace h:=sg h;obtain ⟨q,es,p,rfl,h⟩:=h
  cases q with
  |And=>exact uP (rc.e o) h
  |Or=>exact yP (rc.e o) h
 replace h:=bN h;rcases h with h|h
 ·replace h:=uu h;obtain ⟨c,a,b,p,rfl,h⟩:=h
  obtain ⟨t,ht,h⟩:=ob h;obtain ⟨x,hx,h⟩:=ob h;obtain ⟨y,hy,h⟩:=ob h;cases h
  exact Jt (rc.t o ht) (rc.e o hx) (rc.e o hy)
 replace h:=bN h;rcases h with h|h
 ·replace h:=fJ h;obtain ⟨es,k,p,rfl,h⟩:=h
  obtain ⟨s,hs,h⟩:=ob h;cases h;exact Jl (gZ (rc.e o) hs).1
 ·replace h:=D6 h;obtain ⟨es,p,rfl,h⟩:=h
  obtain ⟨s,hs,h⟩:=ob h;cases h;exact Js _ (gZ (rc.e o) hs).1
noncomputable def A3 (g:G)(x:Str):Option (List (Str×Nat)):=if jc g x=true then (match g.T.lookup x with|some (.dct fs)=>some fs|_=>none) else none
theorem sJ {fa:Fa}{n:Nat}{g:G}{X:Cx}(o:eG fa n g X){x:Str}{fs:List (Str×Nat)}(h:A3 g x=some fs):(∃ad kvs,X.mg x=some (.ref ad)/\fg X.K X.w.params ad kvs/\dI fa kvs fs)/\Gl X x/\(x==("__debug__":Str))=false:=by
 obtain ⟨c,h⟩:=oi h
 split at h
 ·next e=>cases h;exact ⟨o.T.dct e,cL o c⟩
 ·cases h
noncomputable def A7 (R:Rc)(g:G)(e:Expr):Option GE:=Ap e fun a qs bs _=>
 (n2 qs fun q r=>n2 bs fun b c=>if 0<g.lv/\behindInMarks r c=false then (R.e g a).bind fun y=>(R.e g b).bind fun z=>(R.e g c).bind fun u=>some (sE (e9 q) (e9 r) y z u) else none).or
 (n1 qs fun q=>n1 bs fun b=>(if e9 q=.notin then nName b fun x _=>(A3 g x).bind fun fs=>(R.e g a).bind fun y=>some (iG fs y) else none).or
  (if 0<g.lv/\behindInMarks q b=false then (R.e g a).bind fun y=>(R.e g b).bind fun z=>some (aU (e9 q) y z) else none))
noncomputable def Fb:dS:=A7
theorem rX {q:CmpOp}(h:e9 q=.notin):q=.NotIn:=(cn q).symm.trans (congrArg dF h)
theorem CZ:SE Fb:=by
 intro fa n R rc g X o a ga h
 replace h:=oQ h;obtain ⟨a,qs,bs,p,rfl,h⟩:=h
 replace h:=bN h;rcases h with h|h
 ·replace h:=gW h;obtain ⟨q,r,rfl,h⟩:=h;replace h:=gW h;obtain ⟨b,d,rfl,h⟩:=h;replace h:=oi h;obtain ⟨c,h⟩:=h
  replace h:=ob h;obtain ⟨y,hy,h⟩:=h;replace h:=ob h;obtain ⟨z,hz,h⟩:=h;replace h:=ob h;obtain ⟨u,hu,h⟩:=h;cases h
  have:=Jy (o.rm c.1) (e9 q) (e9 r) (rc.e o hy) (rc.e o hz) (rc.e o hu) (by rw [cn,cn];exact c.2) (pos:=p)
  rw [cn,cn] at this;exact this
 replace h:=dz h;obtain ⟨q,rfl,h⟩:=h;replace h:=dz h;obtain ⟨b,rfl,h⟩:=h
 replace h:=bN h;rcases h with h|h
 ·replace h:=oi h;obtain ⟨c,h⟩:=h;replace h:=cW h;obtain ⟨x,_,rfl,h⟩:=h;obtain ⟨fs,e,h⟩:=ob h
  obtain ⟨y,hy,h⟩:=ob h;cases h;obtain ⟨d,e1,e2⟩:=sJ o e;rw [rX c];exact Dv d e1 e2 (rc.e o hy) rfl
 ·obtain ⟨c,h⟩:=oi h
  obtain ⟨y,hy,h⟩:=ob h;obtain ⟨z,hz,h⟩:=ob h;cases h
  have:=Jx (o.rm c.1) (e9 q) (rc.e o hy) (rc.e o hz) (by rw [cn];exact c.2) (pos:=p)
  rw [cn] at this;exact this
noncomputable def Kg:Expr->Bool
 |.Compare ..=>false
 |.BoolOp ..=>false
 |.UnaryOp ..=>false
 |.IfExp ..=>false
 |_=>true
noncomputable def vT:HS:=fun R g e=>(Ap e fun a qs bs _=>(n1 qs fun q=>n1 bs fun b=>BN b (if e9 q=.notN then (R.e g a).bind fun x=>some (aE (vK x (gC (.bl true)))) else none)).or ((A7 R g e).bind fun x=>some (aE x))).or
 ((vo e fun q es _ => match q with
   |.And=>rg (R.t g) iX es
   |.Or=>rg (R.t g) hX es).or
 ((BM e fun q a _ => match q with
   |.Not=>(R.t g a).bind fun x=>some (bP x)
   |_=>none).or (if Kg e=true then (R.e g e).bind fun x=>some (aE x) else none)))
theorem CN {fa:Fa}{n:Nat}{R:Rc}(rc:jh fa n R){g:G}{X:Cx}(o:eG fa n g X){a:Expr}{ga:GE}(h:A7 R g a=some ga):DT fa X a (aE ga):=by
 replace h:=oQ h;obtain ⟨a,qs,bs,p,rfl,h⟩:=h
 replace h:=bN h;rcases h with h|h
 ·replace h:=gW h;obtain ⟨q,r,rfl,h⟩:=h;replace h:=gW h;obtain ⟨b,d,rfl,h⟩:=h;replace h:=oi h;obtain ⟨c,h⟩:=h
  replace h:=ob h;obtain ⟨y,hy,h⟩:=h;replace h:=ob h;obtain ⟨z,hz,h⟩:=h;replace h:=ob h;obtain ⟨u,hu,h⟩:=h;cases h
  have:=Ho (o.rm c.1) (e9 q) (e9 r) (rc.e o hy) (rc.e o hz) (rc.e o hu) (by rw [cn,cn];exact c.2) (pos:=p)
  rw [cn,cn] at this;exact this
 replace h:=dz h;obtain ⟨q,rfl,h⟩:=h;replace h:=dz h;obtain ⟨b,rfl,h⟩:=h
 replace h:=bN h;rcases h with h|h
 ·replace h:=oi h;obtain ⟨c,h⟩:=h;replace h:=cW h;obtain ⟨x,_,rfl,h⟩:=h;obtain ⟨fs,e,h⟩:=ob h
  obtain ⟨y,hy,h⟩:=ob h;cases h;obtain ⟨d,e1,e2⟩:=sJ o e;rw [rX c];exact Dz d e1 e2 (rc.e o hy) rfl
 ·obtain ⟨c,h⟩:=oi h
  obtain ⟨y,hy,h⟩:=ob h;obtain ⟨z,hz,h⟩:=ob h;cases h
  have:=Hn (o.rm c.1) (e9 q) (rc.e o hy) (rc.e o hz) (by rw [cn];exact c.2) (pos:=p)
  rw [cn] at this;exact this
theorem Ie:ST vT:=by
 intro fa n R rc g X o a ga h
 replace h:=bN h;rcases h with h|h
 ·replace h:=oQ h;obtain ⟨a,qs,bs,p,rfl,h⟩:=h
  replace h:=bN h;rcases h with h|h
  ·replace h:=dz h;obtain ⟨q,rfl,h⟩:=h;replace h:=dz h;obtain ⟨b,rfl,h⟩:=h;replace h:=Am h;obtain ⟨_,_,rfl,h⟩:=h;replace h:=oi h;obtain ⟨c,h⟩:=h
   replace h:=ob h;obtain ⟨x,hx,h⟩:=h;cases h;rw [show q=.IsNot from (cn q).symm.trans (congrArg dF c)];exact FR (rc.e o hx) HH rfl
  ·replace h:=ob h;obtain ⟨x,hx,h⟩:=h;cases h;exact CN rc o hx
 replace h:=bN h;rcases h with h|h
 ·replace h:=sg h;obtain ⟨q,es,p,rfl,h⟩:=h
  cases q with
  |And=>exact PW.pt (tV (rc.t o) h)
  |Or=>exact PW.pt (wN (rc.t o) h)
 replace h:=bN h;rcases h with h|h
 ·replace h:=r9 h;obtain ⟨q,a,p,rfl,h⟩:=h
  cases q with
  |Not=>obtain ⟨x,hx,h⟩:=ob h;cases h;exact Hm (rc.t o hx)
  |_=>cases h
 ·obtain ⟨c,h⟩:=oi h
  obtain ⟨x,hx,h⟩:=ob h;cases h
  exact AW (rc.e o hx) fun _=>by cases a<;>first|rfl|cases c
end LD
namespace LD
open PySem PySem.Spec PyProof.Rows L2
noncomputable def kS:Expr->Bool
 |.Slice ..=>false
 |_=>true
theorem rN {b:Expr}(h:kS b=true):jV b:=by
 intro x i
 cases b<;>first|rfl|cases h
noncomputable def cO (f:Expr->Option GE):Option Expr->Option GE
 |none=>some (gC .non)
 |some a=>f a
theorem qN {fa:Fa}{X:Cx}{f:Expr->Option GE}(hf:∀{a:Expr}{ga:GE},f a=some ga->DE fa X a ga){q:Option Expr}{ge:GE}(h:cO f q=some ge):DO fa X q q.isSome ge:=by
 cases q with
 |none=>cases h;exact Es
 |some a=>exact Er (hf h)
noncomputable def EZ:UnaryOp->Bool
 |.USub=>true
 |_=>false
theorem CP {q:UnaryOp}(h:EZ q=true):q=.USub:=by cases q<;>first|rfl|cases h
noncomputable def E3:dS:=fun R g e=>sd e fun a b _=>nName a fun x _=>(A3 g x).bind fun fs=>if kS b=true then (R.e g b).bind fun y=>some (kn fs y) else none
theorem CS:SE E3:=by
 intro fa n R rc g X o a ga h
 replace h:=lQ h;obtain ⟨a,b,p,rfl,h⟩:=h;replace h:=cW h;obtain ⟨x,q,rfl,h⟩:=h;obtain ⟨fs,e,h⟩:=ob h
 obtain ⟨c,h⟩:=oi h;obtain ⟨y,hy,h⟩:=ob h;cases h
 obtain ⟨d,e1,e2⟩:=sJ o e
 exact Dw d e1 e2 (rc.e o hy) (rN c)
noncomputable def E7:dS:=fun R g e=>sd e fun a b p=>(Gv b fun lo hi st _=>match st with
 |none=>(R.e g a).bind fun x=>(cO (R.e g) lo).bind fun y=>(cO (R.e g) hi).bind fun z=>some (if g.tx p=true then B7 lo.isSome hi.isSome x y z else dg (g.cl p) lo.isSome hi.isSome x y z)
 |some s=>BM s fun q c _=>Gz c fun z=>if lo.isNone=true/\hi.isNone=true/\EZ q=true/\z=1 then (R.e g a).bind fun x=>some (Hb (g.cl p) x) else none).or
 (if kS b=true then (R.e g a).bind fun x=>(R.e g b).bind fun y=>some (ay x y) else none)
theorem CW:SE E7:=by
 intro fa n R rc g X o a ga h
 replace h:=lQ h;obtain ⟨a,b,p,rfl,h⟩:=h
 replace h:=bN h;rcases h with h|h
 ·replace h:=D5 h;obtain ⟨lo,hi,st,p2,rfl,h⟩:=h
  cases st with
  | none =>
    replace h:=ob h;obtain ⟨x,hx,h⟩:=h;replace h:=ob h;obtain ⟨y,hy,h⟩:=h;replace h:=ob h;obtain ⟨z,hz,h⟩:=h;cases h
    split
    ·exact FE _ _ (rc.e o hx) (qN (rc.e o) hy) (qN (rc.e o) hz)
    ·exact Jn _ _ _ (rc.e o hx) (qN (rc.e o) hy) (qN (rc.e o) hz)
  | some s =>
    replace h:=r9 h;obtain ⟨q,c,_,rfl,h⟩:=h;replace h:=D8 h;obtain ⟨z,_,_,rfl,h⟩:=h;replace h:=oi h;obtain ⟨⟨c1,c2,c3,rfl⟩,h⟩:=h
    rw [N2.mp c1,N2.mp c2,CP c3]
    obtain ⟨x,hx,h⟩:=ob h;cases h;exact Iw _ (rc.e o hx)
 ·obtain ⟨c,h⟩:=oi h;obtain ⟨x,hx,h⟩:=ob h;obtain ⟨y,hy,h⟩:=ob h;cases h
  exact Jv (rc.e o hx) (rc.e o hy) (rN c)
noncomputable def lx (g:G)(x:Str):Option Nat:=if (g.sc.names.lookup x==some .local||(g.sc.names.lookup x==some .cell&&g.lv != 1))=true then g.N.findIdx? (·==x) else none
noncomputable def GP (g:G):List Expr->Option (List Nat)
 |[]=>some []
 |e::r=>nName e fun x _=>(lx g x).bind fun i=>(GP g r).bind fun l=>some (i::l)
noncomputable def cG (g:G)(e:Expr):Option cD:=(nName e fun x _=>(lx g x).bind fun i=>some (.one i)).or (mY e fun es _ _=>if 0<g.lv then (GP g es).bind fun l=>some (.tup l) else none)
section
variable {fa:Fa}{n:Nat}{g:G}{X:Cx}{R:Rc}(o:eG fa n g X)
include o
theorem vB {x:Str}{i:Nat}(h:lx g x=some i):X.N[i]?=some x/\L2.Loc X.env.scope x/\(X.fn x=true\/X.env.scope.names.lookup x=some .local):=by
 obtain ⟨c,h⟩:=oi h
 rw [Oc,L6] at c
 refine ⟨vG o h,?_,?_⟩
 ·unfold L2.Loc;rw [o.sc]
  rcases c with z|z
  ·exact .inl (eq_of_beq z)
  ·exact .inr (eq_of_beq z.1)
 ·rcases c with z|z
  ·right;rw [o.sc];exact eq_of_beq z
  ·exact .inl (o.fn (by simpa using z.2) x)
theorem ya:∀{es:List Expr}{l:List Nat},GP g es=some l->jy X l es
 |[],_,h=>by cases h;exact .nil
 | e :: r, _, h => by
   replace h:=cW h;obtain ⟨x,p,rfl,h⟩:=h
   obtain ⟨i,hi,h⟩:=ob h;obtain ⟨l,hl,h⟩:=ob h;cases h
   obtain ⟨a,b,c⟩:=vB o hi
   exact .cons a b c (ya hl)
theorem ky {t:Expr}{tt:cD}(h:cG g t=some tt):PG X t (gT fa X.K tt):=by
 replace h:=bN h;rcases h with h|h
 ·replace h:=cW h;obtain ⟨x,p,rfl,h⟩:=h
  replace h:=ob h;obtain ⟨i,hi,h⟩:=h;cases h
  obtain ⟨a,b,c⟩:=vB o hi
  exact uH (o.N ▸ o.nd) a b c
 ·replace h:=fJ h;obtain ⟨es,k,p,rfl,h⟩:=h
  obtain ⟨c,h⟩:=oi h;obtain ⟨l,hl,h⟩:=ob h;cases h
  exact Hx (o.calm c) (o.N ▸ o.nd) (ya o hl)
end
noncomputable def cB (nm:Str)(R:Rc)(g:G)(e:Expr):Option (List Expr×GA):=kU e fun x es _=>nC es fun a es=>if x=nm/\jc g x=true/\(match g.T.lookup x with|some .bl=>true|_=>false)=true/\0<g.lv then (cA (R.e g) (a::es)).bind fun gs=>some (a::es,gs) else none
theorem mj {g:G}{x:Str}(h:(match g.T.lookup x with|some .bl=>true|_=>false)=true):g.T.lookup x=some .bl:=by
 split at h
 ·assumption
 ·cases h
theorem ow {fa:Fa}{n:Nat}{R:Rc}{nm:Str}(rc:jh fa n R){g:G}{X:Cx}(o:eG fa n g X){e:Expr}{as:List Expr}{gs:GA}(h:cB nm R g e=some (as,gs)):∃p pos a es,as=a::es/\e=.Call (.Name nm p) (a::es) [] pos/\Gl X nm/\X.mg nm=none/\0<g.lv/\DA fa X (a::es) gs/\notStar a=true/\es.all notStar=true:=by
 replace h:=fj h;obtain ⟨x,q,es,p,rfl,h⟩:=h;replace h:=iC h;obtain ⟨a,es,rfl,h⟩:=h
 replace h:=oi h;obtain ⟨⟨rfl,c1,c2,c3⟩,h⟩:=h
 obtain ⟨gs,hgs,h⟩:=ob h;cases h
 obtain ⟨d,ns⟩:=gZ (rc.e o) hgs
 rw [MS,L6] at ns
 exact ⟨_,_,_,_,rfl,rfl,(cL o c1).1,o.T.bl (mj c2),c3,d,ns.1,ns.2⟩
noncomputable def E6:dS:=fun R g e=>(cB "len" R g e).bind fun q=>some (aV .len q.2)
theorem CV:SE E6:=fun {fa n R} rc {g X} o {a ga} h=>by
 obtain ⟨⟨as,gs⟩,hq,h⟩:=ob h;cases h
 obtain ⟨_,_,_,_,_,rfl,hg,hm,_,d,n1,n2⟩:=ow rc o hq
 exact vQ .len Jc hg hm PySem.boot_len d (by decide) (by decide) (bh n1) (b9 n2)
noncomputable def Fc:dS:=fun R g e=>(cB "all" R g e).bind fun q=>some (aV .all q.2)
theorem C0:SE Fc:=fun {fa n R} rc {g X} o {a ga} h=>by
 obtain ⟨⟨as,gs⟩,hq,h⟩:=ob h;cases h
 obtain ⟨_,_,_,_,_,rfl,hg,hm,lv,d,n1,n2⟩:=ow rc o hq
 exact vQ .all (Jd (o.calm lv)) hg hm (by decide +kernel) d (by decide) (by decide) (bh n1) (b9 n2)
noncomputable def E2:dS:=fun R g e=>(cB "sum" R g e).bind fun q=>some (aV .sum q.2)
theorem CQ:SE E2:=fun {fa n R} rc {g X} o {a ga} h=>by
 obtain ⟨⟨as,gs⟩,hq,h⟩:=ob h;cases h
 obtain ⟨_,_,_,_,_,rfl,hg,hm,lv,d,n1,n2⟩:=ow rc o hq
 exact vQ .sum (Jb (o.calm lv)) hg hm (by decide +kernel) d (by decide) (by decide) (bh n1) (b9 n2)
noncomputable def wy:dS:=fun R g e=>(cB "tuple" R g e).bind fun q=>some (aV .tuple q.2)
theorem wx:SE wy:=fun {fa n R} rc {g X} o {a ga} h=>by
 obtain ⟨⟨as,gs⟩,hq,h⟩:=ob h;cases h
 obtain ⟨_,_,_,_,_,rfl,hg,hm,_,d,n1,n2⟩:=ow rc o hq
 exact yC .tuple Eh hg hm (by decide +kernel) d (by decide) (by decide) (bh n1) (b9 n2)
noncomputable def Bt:dS:=fun R g e=>(cB "list" R g e).bind fun q=>some (aV (.list (g.cl e.pos)) q.2)
theorem zg:SE Bt:=fun {fa n R} rc {g X} o {a ga} h=>by
 obtain ⟨⟨as,gs⟩,hq,h⟩:=ob h;cases h
 obtain ⟨_,_,_,_,_,rfl,hg,hm,_,d,n1,n2⟩:=ow rc o hq
 exact yC (.list _) (Hf _) hg hm (by decide +kernel) d (by decide) (by decide) (bh n1) (b9 n2)
noncomputable def cR (R:Rc)(g:G)(nm:Str)(e:Expr):Option (Expr×GE):=kU e fun x es _=>n1 es fun a=>if x=nm/\jc g x=true/\(match g.T.lookup x with|some .bl=>true|_=>false)=true/\0<g.lv/\notStar a=true then (R.e g a).bind fun y=>some (a,y) else none
theorem vX {fa:Fa}{n:Nat}{R:Rc}{nm:Str}(rc:jh fa n R){g:G}{X:Cx}(o:eG fa n g X){e a:Expr}{ga:GE}(h:cR R g nm e=some (a,ga)):∃p pos,e=.Call (.Name nm p) [a] [] pos/\Gl X nm/\X.mg nm=none/\0<g.lv/\DE fa X a ga/\starEach [a] X.env=[(false,eval a X.env)]:=by
 replace h:=fj h;obtain ⟨x,q,es,p,rfl,h⟩:=h;replace h:=dz h;obtain ⟨a,rfl,h⟩:=h
 replace h:=oi h;obtain ⟨⟨rfl,c1,c2,c3,c4⟩,h⟩:=h
 obtain ⟨y,hy,h⟩:=ob h;cases h
 exact ⟨_,_,rfl,(cL o c1).1,o.T.bl (mj c2),c3,rc.e o hy,bh c4⟩
noncomputable def wA:dS:=fun R g e=>kU e fun x es p=>n1 es fun b=>if x="list"/\jc g x=true/\(match g.T.lookup x with|some .bl=>true|_=>false)=true then (cR R g "range" b).bind fun q=>some (kZ (g.cl p) q.2) else none
theorem wz:SE wA:=fun {fa n R} rc {g X} o {a ga} h=>by
 replace h:=fj h;obtain ⟨x,q,es,p,rfl,h⟩:=h;replace h:=dz h;obtain ⟨b,rfl,h⟩:=h
 replace h:=oi h;obtain ⟨⟨rfl,c1,c2⟩,h⟩:=h
 obtain ⟨⟨b,y⟩,hq,h⟩:=ob h;cases h
 obtain ⟨_,_,rfl,hg,hm,lv,d,hs⟩:=vX rc o hq
 exact Dt _ (o.calm lv) d (cL o c1).1 (o.T.bl (mj c2)) hg hm hs rfl
noncomputable def zm (x:Str):Option Ty:=if x="int" then some .int else if x="bool" then some .bool else if x="str" then some .str else if x="tuple" then some .tuple else if x="list" then some .list else none
theorem C1 {x:Str}{t:Ty}(h:zm x=some t):bootBuiltins x=some (.type (tyName t))/\(∀c,t≠.own c)/\x≠"__name__"/\(x==("__debug__":Str))=false:=by
 unfold zm at h
 split at h
 ·subst x;cases h;exact ⟨by decide +kernel,(fun _ z=>nomatch z),by decide,by decide⟩
 split at h
 ·subst x;cases h;exact ⟨by decide +kernel,(fun _ z=>nomatch z),by decide,by decide⟩
 split at h
 ·subst x;cases h;exact ⟨by decide +kernel,(fun _ z=>nomatch z),by decide,by decide⟩
 split at h
 ·subst x;cases h;exact ⟨by decide +kernel,(fun _ z=>nomatch z),by decide,by decide⟩
 split at h
 ·subst x;cases h;exact ⟨by decide +kernel,(fun _ z=>nomatch z),by decide,by decide⟩
 ·cases h
noncomputable def cI (R:Rc)(g:G)(e:Expr):Option (Str×GE):=kU e fun y es _=>n2 es fun a b=>nName b fun x _=>if y="isinstance"/\jc g y=true/\(match g.T.lookup y with|some .bl=>true|_=>false)=true/\jc g x=true/\notStar a=true then (R.e g a).bind fun z=>some (x,z) else none
theorem JC {fa:Fa}{n:Nat}{R:Rc}(rc:jh fa n R){g:G}{X:Cx}(o:eG fa n g X){e:Expr}{x:Str}{ga:GE}(h:cI R g e=some (x,ga)):∃p q a pos,e=.Call (.Name "isinstance" p) [a,.Name x q] [] pos/\Gl X "isinstance"/\X.mg "isinstance"=none/\Gl X x/\(x==("__debug__":Str))=false/\DE fa X a ga/\starEach [a,.Name x q] X.env=(false,eval a X.env)::starEach [.Name x q] X.env:=by
 replace h:=fj h;obtain ⟨y,q,es,p,rfl,h⟩:=h;replace h:=gW h;obtain ⟨a,b,rfl,h⟩:=h;replace h:=cW h;obtain ⟨x,q2,rfl,h⟩:=h
 replace h:=oi h;obtain ⟨⟨rfl,c1,c2,c3,c4⟩,h⟩:=h
 obtain ⟨z,hz,h⟩:=ob h;cases h
 exact ⟨_,_,_,_,rfl,(cL o c1).1,o.T.bl (mj c2),(cL o c3).1,(cL o c3).2,rc.e o hz,bh c4⟩
noncomputable def Bu:dS:=fun R g e=>(cI R g e).bind fun q=>if (match g.T.lookup q.1 with|some .bl=>true|_=>false)=true then (zm q.1).bind fun t=>some (cx t q.2) else none
theorem zh:SE Bu:=fun {fa n R} rc {g X} o {a ga} h=>by
 obtain ⟨⟨x,z⟩,hq,h⟩:=ob h
 obtain ⟨c,h⟩:=oi h
 obtain ⟨t,ht,h⟩:=ob h;cases h
 obtain ⟨_,_,_,_,rfl,hg,hm,hx,hd,d,hs⟩:=JC rc o hq
 obtain ⟨b1,b2,b3,b4⟩:=C1 ht
 exact HE t b2 d hg hm (by decide +kernel) hx (o.T.bl (mj c)) b1 b3 b4 hs
noncomputable def Bw:dS:=fun R g e=>kU e fun x es _=>nC es fun a es=>if 0<g.lv then (match vr g x with
 |some i=>(cA (R.e g) (a::es)).bind fun gs=>some (k9 i g.c gs)
 | none => if jc g x = true then (match g.T.lookup x with
   |some (.fn i _)=>(cA (R.e g) (a::es)).bind fun gs=>some (au i g.c gs)
   |_=>none) else none) else none
theorem zk:SE Bw:=fun {fa n R} rc {g X} o {a ga} h=>by
 replace h:=fj h;obtain ⟨x,q,es,p,rfl,h⟩:=h;replace h:=iC h;obtain ⟨a,es,rfl,h⟩:=h
 ·obtain ⟨lv,h⟩:=oi h
  split at h
  ·next e=>
   obtain ⟨gs,hgs,h⟩:=ob h;cases h
   obtain ⟨d,ns⟩:=gZ (rc.e o) hgs
   rw [MS,L6] at ns
   obtain ⟨a,b,c1,c2⟩:=Bo o e
   exact EC (o.C lv) ((o.hr lv).mono (NQ _)) a b d c1 c2 (bh ns.1) (b9 ns.2)
  ·obtain ⟨c,h⟩:=oi h
   split at h
   ·next e=>
    obtain ⟨gs,hgs,h⟩:=ob h;cases h
    obtain ⟨d,ns⟩:=gZ (rc.e o) hgs
    rw [MS,L6] at ns
    exact HG (o.C lv _) ((o.hr lv).mono (NQ _)) (cL o c).1 (o.T.fn e) d (cL o c).2 (bh ns.1) (b9 ns.2)
   ·cases h
noncomputable def Bj:dS:=fun R g e=>(kU e fun x es _=>nC es fun a es=>if 2<=g.lv/\jc g x=true then (match g.T.lookup x with
 |some (.fn i true)=>(cA (R.e g) (a::es)).bind fun gs=>some (dj i g.c gs)
 |_=>none) else none).or (Ao e fun c a b _=>(R.x g a).bind fun x=>(R.x g b).bind fun y=>(R.t g c).bind fun t=>some (vL t x y))
theorem yV:SX Bj:=fun {fa n R} rc {g X} o {a ga} h=>by
 replace h:=bN h;rcases h with h|h
 ·replace h:=fj h;obtain ⟨x,q,es,p,rfl,h⟩:=h;replace h:=iC h;obtain ⟨a,es,rfl,h⟩:=h
  replace h:=oi h;obtain ⟨⟨lv,c⟩,h⟩:=h
  split at h
  ·next e=>
   replace h:=ob h;obtain ⟨gs,hgs,h⟩:=h;cases h
   obtain ⟨d,ns⟩:=gZ (rc.e o) hgs
   rw [MS,L6] at ns
   exact x_call _ (o.C (by omega)) ((o.hr (by omega)).mono (NQ _)) (o.top lv).1 (cL o c).1 (o.T.fn e) d (cL o c).2 ns.1 ns.2
  ·cases h
 ·replace h:=uu h;obtain ⟨c,a,b,p,rfl,h⟩:=h
  obtain ⟨x,hx,h⟩:=ob h;obtain ⟨y,hy,h⟩:=ob h;obtain ⟨t,ht,h⟩:=ob h;cases h
  exact Ic (rc.t o ht) (rc.x o hx) (rc.x o hy)
theorem FD {n:Nat}{A:MZ}(h:bC (n+4) A):bC 2 A:=h.mono (by omega)
noncomputable def jP:Expr->Bool
 |.Call ..=>false
 |_=>true
theorem fb {a:Expr}{m:Str}{env:MN}{w:Sem LY}(h:jP a=true):attributeBase a m env w=w:=by
 cases a<;>first|rfl|cases h
noncomputable def JL:dS:=fun R g e=>Gy e fun l _=>nC l fun a l=>n2 l fun b c=>An a fun z=>J1 b fun b=>An c fun y=>(R.e g b).bind fun x=>some (Ca z y x)
theorem E9:SE JL:=fun {fa n R} rc {g X} o {a ga} h=>by
 replace h:=D7 h;obtain ⟨l,p,rfl,h⟩:=h;replace h:=iC h;obtain ⟨a,l,rfl,h⟩:=h;replace h:=gW h;obtain ⟨b,c,rfl,h⟩:=h
 replace h:=ur h;obtain ⟨z,_,_,rfl,h⟩:=h;replace h:=GD h;obtain ⟨b,_,rfl,h⟩:=h;replace h:=ur h;obtain ⟨y,_,_,rfl,h⟩:=h
 obtain ⟨x,hx,h⟩:=ob h;cases h;exact Kx (rc.e o hx)
end LD
namespace LD
open PySem PySem.Spec PyProof.Rows L2
noncomputable def Bm:tq:=fun R g _ e=>(cR R g "range" e).bind fun q=>some (dB q.2)
theorem y8:SW Bm:=fun {fa n R} rc {g X} o {t a ga} h=>by
 obtain ⟨⟨b,y⟩,hq,h⟩:=ob h;cases h
 obtain ⟨_,_,rfl,hg,hm,_,d,hs⟩:=vX rc o hq
 exact Ex d hg hm hs
noncomputable def Bn:tq:=fun R g t e=>mY t fun _ _ _=>(cR R g "enumerate" e).bind fun q=>some (lZ q.2)
theorem y9:SW Bn:=fun {fa n R} rc {g X} o {t a ga} h=>by
 replace h:=fJ h;obtain ⟨_,_,_,rfl,h⟩:=h
 obtain ⟨⟨b,y⟩,hq,h⟩:=ob h;cases h
 obtain ⟨_,_,rfl,hg,hm,_,d,hs⟩:=vX rc o hq
 exact Ey d hg hm hs
noncomputable def cN (R:Rc)(g:G)(nm:Str)(e:Expr):Option (List Expr):=kU e fun x es _=>if x=nm/\jc g x=true/\(match g.T.lookup x with|some .bl=>true|_=>false)=true/\0<g.lv/\es.all notStar=true then some es else none
theorem Cg {fa:Fa}{n:Nat}{R:Rc}{nm:Str}{g:G}{X:Cx}(o:eG fa n g X){e:Expr}{es:List Expr}(h:cN R g nm e=some es):∃p pos,e=.Call (.Name nm p) es [] pos/\Gl X nm/\X.mg nm=none/\es.all notStar=true:=by
 replace h:=fj h;obtain ⟨x,q,es,p,rfl,h⟩:=h
 replace h:=oi h;obtain ⟨⟨rfl,c1,c2,c3,c4⟩,h⟩:=h
 cases h
 exact ⟨_,_,rfl,(cL o c1).1,o.T.bl (mj c2),c4⟩
theorem j4 {env:MN}:∀{es:List Expr},es.all notStar=true->starEach es env=es.map fun a=>(false,eval a env)
 |[],_=>rfl
 | a :: es, h => by
   rw [MS,L6] at h
   rw [bh h.1,j4 h.2];rfl
noncomputable def Bl:tq:=fun R g t e=>mY t fun _ _ _=>(cN R g "zip" e).bind fun es=>n2 es fun a b=>(R.e g a).bind fun x=>(R.e g b).bind fun y=>some (lY x y)
theorem y7:SW Bl:=fun {fa n R} rc {g X} o {t a ga} h=>by
 replace h:=fJ h;obtain ⟨_,_,_,rfl,h⟩:=h
 obtain ⟨es,hq,k⟩:=ob h;clear h
 obtain ⟨_,_,rfl,hg,hm,ns⟩:=Cg o hq
 replace k:=gW k;obtain ⟨a,b,rfl,k⟩:=k
 obtain ⟨x,hx,k⟩:=ob k;obtain ⟨y,hy,k⟩:=ob k;cases k
 exact Eu (rc.e o hx) (rc.e o hy) hg hm (j4 ns) (j4 (NZ.mp (MS ▸ ns)).2)
noncomputable def Bk:tq:=fun R g t e=>mY t fun _ _ _=>(cN R g "zip" e).bind fun es=>nC es fun a es=>n2 es fun b c=>(R.e g a).bind fun x=>(R.e g b).bind fun y=>(R.e g c).bind fun z=>some (lX x y z)
theorem y6:SW Bk:=fun {fa n R} rc {g X} o {t a ga} h=>by
 replace h:=fJ h;obtain ⟨_,_,_,rfl,h⟩:=h
 obtain ⟨es,hq,k⟩:=ob h;clear h
 obtain ⟨_,_,rfl,hg,hm,ns⟩:=Cg o hq
 replace k:=iC k;obtain ⟨a,es,rfl,k⟩:=k
 replace k:=gW k;obtain ⟨b,c,rfl,k⟩:=k
 obtain ⟨x,hx,k⟩:=ob k;obtain ⟨y,hy,k⟩:=ob k;obtain ⟨z,hz,k⟩:=ob k;cases k
 have n2:=(NZ.mp (MS ▸ ns)).2
 have n3:=(NZ.mp (MS ▸ n2)).2
 exact Et (rc.e o hx) (rc.e o hy) (rc.e o hz) hg hm (j4 ns) (j4 n2) (j4 n3)
noncomputable def EY:tq:=fun R g _ e=>(R.e g e).bind fun x=>some (if g.tx e.pos=true then B8 x else di x)
theorem CK:SW EY:=fun {fa n R} rc {g X} o {t a ga} h=>by
 obtain ⟨x,hx,h⟩:=ob h;cases h
 split
 ·exact Ew (rc.e o hx)
 ·exact Hw (rc.e o hx)
noncomputable def kT:Expr->Bool
 |.Set ..=>false
 |_=>true
theorem yx {a:Expr}{env:MN}(h:kT a=true)(x:LY):foldedSetIterable a env x=pure x:=by
 cases a<;>first|rfl|cases h
noncomputable def Ah:Expr->List Str
 |.Name x _=>[x]
 |.Tuple es _ _=>es.filterMap fun|.Name x _=>some x|_=>none
 |_=>[]
noncomputable def sU (g:G)(own:List Str):List Str:=g.N.map fun x=>if own.contains x then x++("%":Str) else x
noncomputable def zW (scope sc:Scope):Scope:={scope with names:=scope.names.map fun (n,k)=>if (k==.free&&sc.kind==.function&&sc.names.lookup n==some .cell) then (n,.cell) else (n,k)}
noncomputable def G.inC (g:G)(own:List Str)(scope:Scope):G:={g with N:=own++sU g own,sc:=zW scope g.sc,lv:=1}
noncomputable def xP (g:G)(own:List Str)(scope:Scope):Prop:=0<g.lv/\scope.kind=.function/\pe (sU g own) g.N g.sc scope=true/\(own++sU g own).Nodup
noncomputable instance (g:G) (own:List Str) (scope:Scope):Decidable (xP g own scope):=by unfold xP;infer_instance
theorem Cf {fa:Fa}{n:Nat}{g:G}{X:Cx}(o:eG fa n g X){own:List Str}{scope:Scope}(c:xP g own scope):ie X own (sU g own) scope/\∀cl C fp s H,eG fa n (g.inC own scope) (gx X own (sU g own) scope cl C fp s H):=by
 obtain ⟨c1,c2,c3,c4⟩:=c
 refine ⟨yH c2 o.sc o.N c3,fun cl C fp s H=>⟨rfl,c4,?_,o.T,o.tw,o.xf,o.ms,(fun z=>absurd rfl z),fun _=>o.calm c1,fun _=>o.C c1,fun _=>o.hr c1,(fun z=>absurd (show 2<=1 from z) (by decide)),(fun z=>nomatch z)⟩⟩
 show relabel scope X.env=zW scope g.sc
 unfold relabel zW Env.kindOf
 rw [o.sc]
structure HZ (fa:Fa) (X:Cx) (e:Expr) (k:Nat) (t:cD) (gw:GW) (gb:GB):Prop where
 ex:∃elt tg iter ifs rest scope pos own bn W body,e=.ListComp elt (⟨tg,iter,ifs,0⟩::rest) scope pos/\k=own.length/\ie X own bn scope/\DI fa X tg iter gw/\Block fa X own bn scope tg t W body gb/\oA X elt tg iter ifs rest scope pos body/\(∀i∈W,i∉slots t)/\(∀i∈slots t++W,i<own.length)/\∀x,foldedSetIterable iter X.env x=pure x
noncomputable def cC (R:Rc)(g:G)(e:Expr):Option (Nat×cD×GW×GB):=Gx e fun elt gens scope _=>(n1 gens fun c=>nG c fun tg iter ifs=>let own:=Ah tg
 if xP g own scope/\kT iter=true then (R.w g tg iter).bind fun w=>(cG (g.inC own scope) tg).bind fun t=>(R.e (g.inC own scope) elt).bind fun x=>if (slots t).all (· < own.length)=true then (n0 ifs (some (own.length,t,w,bH x))).or (n1 ifs fun c=>(R.t (g.inC own scope) c).bind fun q=>some (own.length,t,w,Kb q (bH x))) else none else none).or
 (n2 gens fun c d=>nG c fun tg iter ifs=>nG d fun t2 i2 ifs2=>let own:=Ah tg++Ah t2
  n0 ifs (n0 ifs2 (if xP g own scope/\kT iter=true/\kT i2=true then (R.w g tg iter).bind fun w=>(cG (g.inC own scope) tg).bind fun t=>(R.w (g.inC own scope) t2 i2).bind fun w2=>(cG (g.inC own scope) t2).bind fun u=>(R.e (g.inC own scope) elt).bind fun x=>if (slots t++slots u).all (· < own.length)=true/\(slots u).all (fun i=>!(slots t).contains i)=true then some (own.length,t,w,sD u w2 (bH x)) else none else none)))
theorem Ci {fa:Fa}{n:Nat}{R:Rc}(rc:jh fa n R){g:G}{X:Cx}(o:eG fa n g X){e:Expr}{k:Nat}{t:cD}{gw:GW}{gb:GB}(h:cC R g e=some (k,t,gw,gb)):HZ fa X e k t gw gb:=by
 replace h:=xU h;obtain ⟨elt,gens,scope,p,rfl,h⟩:=h
 replace h:=bN h;rcases h with h|h
 ·replace h:=dz h;obtain ⟨c,rfl,h⟩:=h;replace h:=vn h;obtain ⟨tg,iter,ifs,rfl,h⟩:=h
  replace h:=oi h;obtain ⟨⟨c,cs⟩,h⟩:=h
  replace h:=ob h;obtain ⟨w,hw,h⟩:=h;replace h:=ob h;obtain ⟨t,ht,h⟩:=h;replace h:=ob h;obtain ⟨x,hx,h⟩:=h;replace h:=oi h;obtain ⟨c2,h⟩:=h
  obtain ⟨S,O⟩:=Cf o c
  replace h:=bN h;rcases h with h|h
  ·replace h:=gi h;obtain ⟨rfl,h⟩:=h;cases h
   exact ⟨_,_,_,_,_,_,_,_,_,[],_,rfl,rfl,S,rc.w o hw,⟨fun cl C fp s H=>ky (O cl C fp s H) ht,fun cl C fp s H a=>sL (rc.e (O cl C fp s H) hx)⟩,(fun it a env=>zq _ _ _ [] _ _ (.ref it) (.ref a) env),(fun i h=>nomatch h),(by simpa using mL c2),yx cs⟩
  ·replace h:=dz h;obtain ⟨d,rfl,h⟩:=h;replace h:=ob h;obtain ⟨q,hq,h⟩:=h;cases h
   exact ⟨_,_,_,_,_,_,_,_,_,[],_,rfl,rfl,S,rc.w o hw,⟨fun cl C fp s H=>ky (O cl C fp s H) ht,fun cl C fp s H a=>Jj (rc.t (O cl C fp s H) hq) (sL (rc.e (O cl C fp s H) hx))⟩,(fun it a env=>turn_if _ _ _ _ _ _ (.ref it) (.ref a) env),(fun i h=>nomatch h),(by simpa using mL c2),yx cs⟩
 ·replace h:=gW h;obtain ⟨c,d,rfl,h⟩:=h;replace h:=vn h;obtain ⟨tg,iter,ifs,rfl,h⟩:=h;replace h:=vn h;obtain ⟨t2,i2,ifs2,rfl,h⟩:=h;replace h:=gi h;obtain ⟨rfl,h⟩:=h;replace h:=gi h;obtain ⟨rfl,h⟩:=h
  obtain ⟨⟨c,cs,cs2⟩,h⟩:=oi h
  obtain ⟨w,hw,h⟩:=ob h;obtain ⟨t,ht,h⟩:=ob h;obtain ⟨w2,hw2,h⟩:=ob h;obtain ⟨u,hu,h⟩:=ob h;obtain ⟨x,hx,h⟩:=ob h;obtain ⟨⟨c2,c3⟩,h⟩:=oi h;cases h
  obtain ⟨S,O⟩:=Cf o c
  exact ⟨_,_,_,_,_,_,_,_,_,slots u,_,rfl,rfl,S,rc.w o hw,⟨fun cl C fp s H=>ky (O cl C fp s H) ht,fun cl C fp s H a=>Hy (X:=gx X _ _ _ cl C fp s H) rfl (o.calm c.1) (rc.w (O cl C fp s H) hw2) (ky (O cl C fp s H) hu) (rc.e (O cl C fp s H) hx) (yx cs2)⟩,(fun it a env=>zo _ _ _ _ _ _ _ (.ref it) (.ref a) env),xj c3,mL c2,yx cs⟩
noncomputable def Bv:dS:=fun R g e=>if 0<g.lv then (cC R g e).bind fun q=>some (bI (g.cl e.pos) q.1 q.2.1 q.2.2.1 q.2.2.2) else none
theorem zj:SE Bv:=fun {fa n R} rc {g X} o {a ga} h=>by
 obtain ⟨lv,h⟩:=oi h
 obtain ⟨⟨k,t,w,b⟩,hq,h⟩:=ob h;cases h
 obtain ⟨elt,tg,iter,ifs,rest,scope,pos,own,bn,W,body,rfl,rfl,S,hi,B,T,h1,h2,h3⟩:=(Ci rc o hq).ex
 exact HF _ S (o.calm lv) hi B T h1 h2 h3
noncomputable def uN (f:Stmt->Option GS):List Stmt->Option GS
 |[]=>some aj
 |a::r=>(f a).bind fun x=>(uN f r).bind fun y=>some (af x y)
theorem lF {fa:Fa}{X:Cx}{f:Stmt->Option GS}(hf:∀{a:Stmt}{ga:GS},f a=some ga->DS fa X a ga):∀{ss:List Stmt}{gs:GS},uN f ss=some gs->mG fa X ss gs
 |[],_,h=>by cases h;exact Em
 | a :: r, _, h => by
   obtain ⟨x,hx,h⟩:=ob h;obtain ⟨y,hy,h⟩:=ob h;cases h
   exact AX (hf hx) (lF hf hy)
noncomputable def lP:Expr->Bool
 |.ListComp ..=>false
 |.SetComp ..=>false
 |.DictComp ..=>false
 |_=>true
theorem uq {a:Expr}{t:Option Expr}{l:Nat}{env:MN}(h:lP a=true):swapsWith a t l env=pure false:=by
 cases a<;>first|rfl|cases h
noncomputable def HN (g:G)(tg a:Expr):Bool:=match a with
 |.ListComp ..=>(match tg with|.Name y _=>g.sc.names.lookup y==some .cell|_=>false)
 |.Tuple ..=>(match tg with|.Name ..=>true|_=>false)
 |.SetComp ..=>false
 |.DictComp ..=>false
 |_=>true
theorem HM {fa:Fa}{n:Nat}{g:G}{X:Cx}(o:eG fa n g X){tg a:Expr}{t:cD}{l:Nat}(c:HN g tg a=true)(ht:cG g tg=some t):swapsWithSole [tg] a l X.env=pure false/\swappedStores [tg] a X.env=pure none/\(assignEach [tg] X.env).map (·.2)=[assign tg X.env]:=by
 refine ⟨?_,?_,?_⟩
 ·cases a<;>first|rfl|cases c|skip
  cases tg<;>first|cases c|skip
  next y p=>
  have e:=eq_of_beq c
  have hk:(X.env.kindOf y==some .local)=false:=by unfold Env.kindOf;rw [o.sc,e];rfl
  show (pure (X.env.blockKind==.function&&X.env.kindOf y==some .local&&_&&_):Sem Bool)=pure false
  rw [hk,Bool.and_false,Bool.false_and,Bool.false_and]
 ·replace ht:=bN ht;rcases ht with h|h
  ·replace h:=cW h;obtain ⟨_,_,rfl,_⟩:=h;cases a<;>first|rfl|cases c
  ·replace h:=fJ h;obtain ⟨_,_,_,rfl,_⟩:=h;cases a<;>first|rfl|cases c
 ·replace ht:=bN ht;rcases ht with h|h
  ·replace h:=cW h;obtain ⟨_,_,rfl,_⟩:=h;rfl
  ·replace h:=fJ h;obtain ⟨_,_,_,rfl,_⟩:=h;rfl
noncomputable def ES:mE:=fun R g st=>oM st fun ts a _=>n1 ts fun tg=>if HN g tg a=true then (cG g tg).bind fun t=>((R.x g a).bind fun x=>some (gU t x)).or ((R.e g a).bind fun x=>some (aH t x)) else none
theorem CH:SS ES:=fun {fa n R} rc {g X} o {a ga} h=>by
 replace h:=jJ h;obtain ⟨ts,a,p,rfl,h⟩:=h;replace h:=dz h;obtain ⟨tg,rfl,h⟩:=h
 obtain ⟨c,h⟩:=oi h;obtain ⟨t,ht,h⟩:=ob h
 obtain ⟨a1,a2,a3⟩:=HM (l:=p.line) o c ht
 replace h:=bN h;rcases h with h|h
 ·obtain ⟨x,e,h⟩:=ob h;cases h;exact Ft (rc.x o e) (ky o ht) a1 a2 a3
 ·obtain ⟨x,hx,h⟩:=ob h;cases h;exact Hu (rc.e o hx) (ky o ht) a1 a2 a3
noncomputable def Bh:mE:=fun R g st=>oM st fun ts d _=>n1 ts fun t=>nName t fun y py=>Gx d fun elt gens scope p=>if 2<=g.lv/\g.sc.names.lookup y=some .local/\(py.line==p.line)=true/\(scope.names.any fun (n,k)=>n==y&&(k==.local||k==.cell))=false then (cC R g (.ListComp elt gens scope p)).bind fun q=>(g.N.findIdx? (·==y)).bind fun i=>some (aH (.one i) (bI (g.cl p) q.1 q.2.1 q.2.2.1 q.2.2.2)) else none
theorem yT:SS Bh:=fun {fa n R} rc {g X} o {a ga} h=>by
 replace h:=jJ h;obtain ⟨ts,d,_,rfl,h⟩:=h;replace h:=dz h;obtain ⟨t,rfl,h⟩:=h;replace h:=cW h;obtain ⟨y,py,rfl,h⟩:=h;replace h:=xU h;obtain ⟨_,_,sc0,p,rfl,h⟩:=h
 ·next=>
  obtain ⟨⟨lv,c1,c2,c3⟩,h⟩:=oi h
  obtain ⟨⟨k,t,w,b⟩,hq,h⟩:=ob h;obtain ⟨i,hi,h⟩:=ob h;cases h
  obtain ⟨elt,tg,iter,ifs,rest,scope,pos,own,bn,W,body,e0,rfl,S,hi',B,T,h1,h2,h3⟩:=(Ci rc o hq).ex
  cases e0
  have hl:X.env.scope.names.lookup y=some .local:=by rw [o.sc];exact c1
  refine vP _ S (o.calm (by omega)) hi' B T h1 h2 h3 (o.N ▸ o.nd) (vG o hi) hl ?_
  have hk:=(o.top lv).2.2.2
  have hb:(X.env.blockKind==.function)=true:=by unfold Env.blockKind;rw [hk];rfl
  have hkd:(X.env.kindOf y==some .local)=true:=by unfold Env.kindOf;rw [hl];rfl
  show (pure (X.env.blockKind==.function&&X.env.kindOf y==some .local&&(py.line==p.line)&&!(sc0.names.any fun (n,k)=>n==y&&(k==.local||k==.cell))):Sem Bool)=pure true
  rw [hb,hkd,c2,c3];rfl
noncomputable def EO:mE:=fun R g st=>oM st fun ts d _=>n1 ts fun t=>sd t fun a b _=>if kS b=true then (R.e g a).bind fun x=>(R.e g b).bind fun y=>(R.e g d).bind fun z=>some (cE x y z) else none
theorem CF:SS EO:=fun {fa n R} rc {g X} o {a ga} h=>by
 replace h:=jJ h;obtain ⟨ts,d,_,rfl,h⟩:=h;replace h:=dz h;obtain ⟨t,rfl,h⟩:=h;replace h:=lQ h;obtain ⟨a,b,p2,rfl,h⟩:=h
 ·next=>
  obtain ⟨c,h⟩:=oi h
  obtain ⟨x,hx,h⟩:=ob h;obtain ⟨y,hy,h⟩:=ob h;obtain ⟨z,hz,h⟩:=ob h;cases h
  refine Hr (rc.e o hx) (rc.e o hy) (rc.e o hz) (fun v=>?_) ?_ ?_ rfl
  ·cases b<;>first|rfl|cases c
  ·cases d<;>rfl
  ·cases d<;>rfl
noncomputable def ET:mE:=fun R g st=>zR st fun e _=>J2 e fun a m d q=>if m="append"/\jP a=true/\q=true/\notStar d=true then (R.e g a).bind fun x=>(R.e g d).bind fun y=>some (dU x y) else none
theorem CI:SS ET:=fun {fa n R} rc {g X} o {a ga} h=>by
 replace h:=ua h;obtain ⟨e,_,rfl,h⟩:=h;replace h:=GF h;obtain ⟨a,m,q,d,p,rfl,h⟩:=h
 replace h:=oi h;obtain ⟨⟨rfl,c1,c2,c3⟩,h⟩:=h
 obtain ⟨x,hx,h⟩:=ob h;obtain ⟨y,hy,h⟩:=ob h;cases h
 exact Hv (rc.e o hx) (rc.e o hy) (fb c1) c2 (bh c3) rfl
noncomputable def EN:mE:=fun R g st=>(zR st fun a _=>if lP a=true then ((R.x g a).bind fun x=>some (jC x)).or ((R.e g a).bind fun x=>some (sEx x)) else none).or
 ((JS st fun q _ => match q with
   |none=>some BD
   |some a=>((R.x g a).bind fun x=>some (vc x)).or ((R.e g a).bind fun x=>some (aN x))).or
 ((JT st fun _=>some BE).or
 ((JU st fun c st sf _=>(R.t g c).bind fun t=>(uN (R.s g) st).bind fun x=>(uN (R.s g) sf).bind fun y=>some (aS t x y)).or
 (JV st fun tg a body el _=>n0 el (if g.lv=2/\kT a=true then (R.w g tg a).bind fun w=>(cG g tg).bind fun t=>(uN (R.s g) body).bind fun x=>some (eJ t w x) else none)))))
theorem CD:SS EN:=fun {fa n R} rc {g X} o {a ga} h=>by
 replace h:=bN h;rcases h with h|h
 ·replace h:=ua h;obtain ⟨a,p,rfl,h⟩:=h
  obtain ⟨c,h⟩:=oi h
  rcases bN h with h|h
  ·obtain ⟨x,e,h⟩:=ob h;cases h;exact Ir (rc.x o e) (uq c)
  ·obtain ⟨x,hx,h⟩:=ob h;cases h;exact Ji (rc.e o hx) (uq c)
 replace h:=bN h;rcases h with h|h
 ·replace h:=Fw h;obtain ⟨q,p,rfl,h⟩:=h
  cases q with
  |none=>cases h;exact Eo
  | some a =>
    rcases bN h with h|h
    ·obtain ⟨x,e,h⟩:=ob h;cases h;exact Fp (rc.x o e)
    ·obtain ⟨x,hx,h⟩:=ob h;cases h;exact Hq (rc.e o hx)
 replace h:=bN h;rcases h with h|h
 ·replace h:=Fy h;obtain ⟨p,rfl,h⟩:=h;cases h;exact Ep
 replace h:=bN h;rcases h with h|h
 ·replace h:=FA h;obtain ⟨c,st,sf,p,rfl,h⟩:=h
  obtain ⟨t,ht,h⟩:=ob h;obtain ⟨x,hx,h⟩:=ob h;obtain ⟨y,hy,h⟩:=ob h;cases h
  exact Hs (rc.t o ht) (lF (rc.s o) hx) (lF (rc.s o) hy)
 ·replace h:=FC h;obtain ⟨tg,a,body,el,p,rfl,h⟩:=h;replace h:=gi h;obtain ⟨rfl,h⟩:=h
  obtain ⟨⟨lv,c⟩,h⟩:=oi h
  obtain ⟨w,hw,h⟩:=ob h;obtain ⟨t,ht,h⟩:=ob h;obtain ⟨x,hx,h⟩:=ob h;cases h
  exact Ht (o.po lv) (o.calm (by omega)) (rc.w o hw) (ky o ht) (lF (rc.s o) hx) (yx c)
noncomputable def wg:mE:=fun R g st=>Fx st fun e c _=>if c.isNone=true then e.bind fun e=>kU e fun x es _=>nC es fun a es=>if 2<=g.lv/\jc g x=true then (match g.T.lookup x with
 |some (.xc k)=>(cA (R.e g) (a::es)).bind fun gs=>some (d7 k gs)
 |some (.xi k)=>if notStar a=true/\es.isEmpty=true then (R.e g a).bind fun y=>some (jI k y) else none
 |_=>none) else none else none
theorem we:SS wg:=fun {fa n R} rc {g X} o {a ga} h=>by
 replace h:=Dr h;obtain ⟨e,c,_,rfl,h⟩:=h;replace h:=oi h;obtain ⟨c,h⟩:=h;rw [N2.mp c];replace h:=ob h;obtain ⟨e,rfl,h⟩:=h;replace h:=fj h;obtain ⟨x,q,es,p,rfl,h⟩:=h;replace h:=iC h;obtain ⟨a,es,rfl,h⟩:=h
 ·obtain ⟨⟨lv,c⟩,k⟩:=oi h;clear h
  split at k
  ·next e=>
   obtain ⟨gs,hgs,k⟩:=ob k;cases k
   obtain ⟨d,ns⟩:=gZ (rc.e o) hgs
   rw [MS,L6] at ns
   obtain ⟨C,h1,h2,h3,_⟩:=o.T.xc e
   exact Dq _ ⟨C,h1,h2,h3⟩ (o.top lv).1 (cL o c).1 (o.calm (by omega)) d (cL o c).2 ns.1 ns.2
  ·next e=>
   obtain ⟨⟨c1,c2⟩,k⟩:=oi k
   obtain ⟨y,hy,k⟩:=ob k;cases k
   rw [List.isEmpty_iff.mp c2]
   exact zQ _ (o.T.xi e).1 (FD (o.hr (by omega))) (o.top lv).1 (cL o c).1 (o.calm (by omega)) (rc.e o hy) (cL o c).2 c1
  ·cases k
end LD
namespace LD
open PySem PySem.Spec PyProof.Rows L2
theorem He {env:MN}{pos:Pos}{es:List Expr}(h:es.all notStar=true)(hl:es.length<30):methodCallForm es.length (backTo pos (starEach es env)) (backToKw pos (keywordEach [] env))=true:=by
 rw [j4 h]
 have:backToKw pos (keywordEach [] env)=[]:=rfl
 rw [this]
 unfold methodCallForm backTo
 simp [hl]
noncomputable def E8:dS:=fun R g e=>lT e fun a f _=>if jP a=true then (R.e g a).bind fun x=>some (bW f x) else none
theorem CY:SE E8:=fun {fa n R} rc {g X} o {a ga} h=>by
 obtain ⟨a,f,p,rfl,h⟩:=i9 h
 obtain ⟨c1,h⟩:=oi h;obtain ⟨x,hx,h⟩:=ob h;cases h
 exact Jw f o.T.ob o.T.of (rc.e o hx) (fb c1)
noncomputable def Br:dS:=fun R g e=>lS e fun h es ks p=>lT h fun a m ap=>n0 ks (if jP a=true/\(ap.endLine==p.line)=true/\0<g.lv/\es.length<30 then (g.ms.find? (·.1==m)).bind fun q=>(cA (R.e g) es).bind fun gs=>(R.e g a).bind fun x=>some (cw q.2.1 q.2.2 g.c x gs) else none)
theorem ze:SE Br:=fun {fa n R} rc {g X} o {a ga} h=>by
 replace h:=i8 h;obtain ⟨hd,es,ks,p,rfl,h⟩:=h
 replace h:=i9 h;obtain ⟨a,m,ap,rfl,h⟩:=h
 replace h:=gi h;obtain ⟨rfl,h⟩:=h
 replace h:=oi h;obtain ⟨⟨c1,c2,c3,c4⟩,h⟩:=h
 replace h:=ob h;obtain ⟨q,hq,h⟩:=h
 obtain ⟨gs,hgs,h⟩:=ob h;obtain ⟨x,hx,h⟩:=ob h;cases h
 obtain ⟨C,hC,cl,mt,nm⟩:=o.ms q (N3 hq)
 have e:=List.find?_some hq
 have e:q.1=m:=eq_of_beq e
 rw [e] at mt nm
 have hr:=(o.hr c3).mono (NQ _)
 cases es with
 |nil=>cases hgs;exact EB (o.C c3 _) hr o.T.of hC cl mt nm (rc.e o hx) (fb c1) c2
 | cons b es =>
   obtain ⟨d,ns⟩:=gZ (rc.e o) hgs
   have fw:=He (env:=X.env) (pos:=p) ns c4
   rw [MS,L6] at ns
   exact HB (o.C c3 _) hr o.T.of hC cl mt nm (rc.e o hx) d (fb c1) fw c2 (bh ns.1) (b9 ns.2)
noncomputable def Bs:dS:=fun R g e=>kU e fun x es _=>nC es fun a es=>if 0<g.lv/\jc g x=true then (g.T.lookup x).bind fun
 |.cls c f=>(cA (R.e g) (a::es)).bind fun gs=>some (km c f g.c gs)
 |_=>none else none
theorem zf:SE Bs:=fun {fa n R} rc {g X} o {a ga} h=>by
 replace h:=fj h;obtain ⟨x,q,es,p,rfl,h⟩:=h
 replace h:=iC h;obtain ⟨a,es,rfl,h⟩:=h
 obtain ⟨⟨lv,c⟩,h⟩:=oi h;obtain ⟨t,e,h⟩:=ob h
 cases t with
 | cls k f =>
   obtain ⟨gs,hgs,h⟩:=ob h;cases h
   obtain ⟨d,ns⟩:=gZ (rc.e o) hgs
   rw [MS,L6] at ns
   obtain ⟨C,h1,h2,h3⟩:=o.T.cls e
   exact HC (o.C lv _) (o.hr lv) o.T.of h2 h3 (cL o c).1 h1 d (cL o c).2 (bh ns.1) (b9 ns.2)
 |_=>cases h
noncomputable def ER:mE:=fun R g st=>oM st fun ts v _=>n1 ts fun t=>lT t fun a f _=>if lP v=true then (R.e g a).bind fun x=>(R.e g v).bind fun y=>some (gR f x y) else none
theorem wQ {v a:Expr}{f:Str}{p:Pos}{l:Nat}{env:MN}(h:lP v=true):swapsWith v (some (.Attribute a f p)) l env=pure false:=by
 cases v<;>first|rfl|cases h
theorem CG:SS ER:=fun {fa n R} rc {g X} o {a ga} h=>by
 replace h:=jJ h;obtain ⟨ts,v,p,rfl,h⟩:=h
 replace h:=dz h;obtain ⟨t,rfl,h⟩:=h
 replace h:=i9 h;obtain ⟨a,f,p2,rfl,h⟩:=h
 obtain ⟨c,h⟩:=oi h;obtain ⟨x,hx,h⟩:=ob h;obtain ⟨y,hy,h⟩:=ob h;cases h
 exact Iq f o.T.ob o.T.of (rc.e o hx) (rc.e o hy) (wQ c)
noncomputable def E4:dS:=fun R g e=>lS e fun h es ks p=>lT h fun a m ap=>n0 ks (n0 es (if jP a=true/\(ap.endLine==p.line)=true then
 if m="pop" then (R.e g a).bind fun x=>some (oX x) else if m="reverse" then (R.e g a).bind fun x=>some (B9 x) else none else none))
theorem CT:SE E4:=fun {fa n R} rc {g X} o {a ga} h=>by
 replace h:=i8 h;obtain ⟨hd,es,ks,p,rfl,h⟩:=h
 replace h:=i9 h;obtain ⟨a,m,ap,rfl,h⟩:=h
 replace h:=gi h;obtain ⟨rfl,h⟩:=h
 replace h:=gi h;obtain ⟨rfl,h⟩:=h
 replace h:=oi h;obtain ⟨⟨c1,c2⟩,h⟩:=h
 split at h
 ·next e=>subst e;obtain ⟨x,hx,h⟩:=ob h;cases h;exact Jo (rc.e o hx) (fb c1) c2
 ·split at h
  ·next e=>subst e;obtain ⟨x,hx,h⟩:=ob h;cases h;exact HA (rc.e o hx) (fb c1) c2
  ·cases h
noncomputable def wF:dS:=fun R g e=>kU e fun x es _=>n0 es (if 0<g.lv/\jc g x=true then (g.T.lookup x).bind fun
 |.fn i _=>some (au i g.c ah)
 |_=>none else none)
theorem wD:SE wF:=fun {fa n R} rc {g X} o {a ga} h=>by
 replace h:=fj h;obtain ⟨x,q,es,p,rfl,h⟩:=h
 replace h:=gi h;obtain ⟨rfl,h⟩:=h
 obtain ⟨⟨lv,c⟩,h⟩:=oi h;obtain ⟨t,e,h⟩:=ob h
 cases t with
 |fn k f=>cases h;exact ED (o.C lv _) ((o.hr lv).mono (NQ _)) (cL o c).1 (o.T.fn e) (cL o c).2
 |_=>cases h
end LD
namespace LD
open PySem PySem.Spec PyProof.Rows L2
noncomputable def Bi:mE:=fun R g st=>oM st fun ts e _=>n1 ts fun t=>mY t fun ts _ _=>n2 ts fun s nm=>sd s fun a b _=>nName nm fun x _=>lS e fun _ _ _ _=>if kS b=true/\0<g.lv then (lx g x).bind fun i=>(R.e g a).bind fun u=>(R.e g b).bind fun v=>(R.e g e).bind fun w=>some (j8 u v i w) else none
theorem yU:SS Bi:=fun {fa n R} rc {g X} o {a ga} h=>by
 replace h:=jJ h;obtain ⟨ts,e,p,rfl,h⟩:=h;replace h:=dz h;obtain ⟨t,rfl,h⟩:=h;replace h:=fJ h;obtain ⟨ts,kt,pt,rfl,h⟩:=h;replace h:=gW h;obtain ⟨s,nm,rfl,h⟩:=h
 replace h:=lQ h;obtain ⟨a,b,p2,rfl,h⟩:=h;replace h:=cW h;obtain ⟨x,px,rfl,h⟩:=h;replace h:=i8 h;obtain ⟨_,_,_,_,rfl,h⟩:=h
 replace h:=oi h;obtain ⟨⟨c,lv⟩,h⟩:=h
 obtain ⟨i,hi,h⟩:=ob h;obtain ⟨u,hu,h⟩:=ob h;obtain ⟨v,hv,h⟩:=ob h;obtain ⟨w,hw,h⟩:=ob h;cases h
 obtain ⟨a1,a2,a3⟩:=vB o hi
 refine Fu (o.calm lv) (rc.e o hu) (rc.e o hv) (rc.e o hw) (uH (o.N ▸ o.nd) a1 a2 a3) (fun v=>?_) rfl rfl
 cases b<;>first|rfl|cases c
end LD
namespace LD
open PySem PySem.Spec PyProof.Rows L2
structure Ent where
 i:Nat
 x:Str
 st:Stmt
 ps:Nat
 N:List Str
 f:Addr
 pm:Str×Tok
 b:Call->GS
 r:Bool:=false
 q:Option Str:=none
noncomputable def Ent.qn (e:Ent):Str:=e.q.getD e.x
structure kD where
 T:List (Str×En)
 tw:List (Str×Str×Nat×Nat)
 xf:List Str
 dl:List (Str×List (Str×Nat))
 il:List (Str×Nat)
 cel:List (Nat×Nat×Nat)
 txt:List (Nat×Nat×Nat)
 ms:List (Str×Nat×Nat)
 rs:Rs
 tb:List Ent
noncomputable def kD.g (t:kD)(e:Ent)(c:Call):G:=⟨t.T,t.tw,t.xf,t.cel,t.txt,t.ms,c,e.N,aK e.st,2⟩
noncomputable def kD.Pg (t:kD)(i:Nat):Option Df:=(t.tb.find? (·.i==i)).map fun e=>⟨e.ps,e.N.length,e.b⟩
noncomputable def kD.rd (t:kD)(c:Call)(e:Ent):Option GS:=uN ((It t.rs 60).s (t.g e c)) (cp e.st)
noncomputable def AU (e:Ent):Bool:=decide ((aK e.st).kind=.function)&&!(aK e.st).isCoroutine&&!(aK e.st).isGenerator&&decide e.N.Nodup&&((e.N.take e.ps).length==e.ps)&&((e.N.take e.ps).all fun x=>(aK e.st).names.lookup x==some .local||(aK e.st).names.lookup x==some .cell)&&((aK e.st).names.all (·.2 != .free))
theorem om {e:Ent}(h:AU e=true):fU e.N (e.N.take e.ps) (aK e.st)/\(e.N.take e.ps).length=e.ps:=by
 unfold AU at h
 simp only [L6,decide_eq_true_eq,NW,Mp,Oc,beq_iff_eq,bne_iff_ne] at h
 obtain ⟨⟨⟨⟨⟨⟨h1,h2⟩,h3⟩,h4⟩,h5⟩,h6⟩,h7⟩:=h
 exact ⟨⟨h1,h2,h3,h4,by rw [h5],h6,h7⟩,h5⟩
noncomputable def Lm (e:Ent):Option Obj:=some ⟨.type "function",none,.func (PySem.W.fnOf e.x e.qn (eZ e.st) (cp e.st) (aK e.st) .none .none .none (.str e.pm.1 e.pm.2) none (.ref (e.f-1)) .none),#[]⟩
theorem nZ {α β:Type}{f g:α->β}{l:List α}(h:l.map f=l.map g){a:α}(m:a∈l):f a=g a:=List.map_inj_left.mp h a m
noncomputable def AV (e:Ent)(us:List LY)(kV doc pm:LY)(an:Option Addr)(cdv ct:LY):Sem (List (Str×LY)):=bindArgs (PySem.W.fnOf e.x e.qn (eZ e.st) (cp e.st) (aK e.st) .none kV doc pm an cdv ct) ⟨us,[]⟩
noncomputable def nv (tb:List Ent)(k:Nat)(us:List LY):Prop:=∀(kV doc pm:LY) (an:Option Addr) (cdv ct:LY),(tb.filter (·.ps==k)).map (fun e=>AV e us kV doc pm an cdv ct)=(tb.filter (·.ps==k)).map fun e=>pure ((e.N.take e.ps).zip us)
structure wa (t:kD):Prop where
 rs:Bc t.rs
 rd:∀c,t.tb.map (t.rd c)=t.tb.map fun e=>some (e.b c)
 sc:t.tb.all AU=true
 ar:t.tb.all (fun e=>e.ps==0||e.ps==1||e.ps==2||e.ps==3||e.ps==4||e.ps==6)=true
 a0:nv t.tb 0 []
 a1:∀a,nv t.tb 1 [a]
 a2:∀a b,nv t.tb 2 [a,b]
 a3:∀a b c,nv t.tb 3 [a,b,c]
 a4:∀a b c d,nv t.tb 4 [a,b,c,d]
 a6:∀a b c d e f,nv t.tb 6 [a,b,c,d,e,f]
structure Co (K:LX) (tb:List Ent):Prop where
 ns:(tb.filter (·.q.isNone)).map (fun e=>PySem.W.nsIn K mainGlobals e.x)=(tb.filter (·.q.isNone)).map fun e=>some (some (.ref e.f))
 lk:tb.map (fun e=>K.lookup e.f)=tb.map Lm
 ck:tb.all (fun e=>PySem.W.codeIn K (.ref (e.f-1)) e.qn&&PySem.W.keepIn K (.ref e.f))=true
theorem wK {K:LX}{tb:List Ent}(k:Co K tb){e:Ent}(m:e∈tb):∃fd,oE K e.x e.qn e.st e.f fd:=by
 have c:=Mp.mp k.ck e m
 rw [L6] at c
 exact ⟨_,yw (nZ k.lk m) c.1 c.2⟩
theorem C5 {K:LX}{h:Heap}{mg:Str->Option LY}{tb:List Ent}(k:Co K tb)(X:K.In h)(G:h.Ns mainGlobals mg){e:Ent}(m:e∈tb)(hq:e.q.isNone=true):mg e.x=some (.ref e.f)/\∃fd,oE K e.x e.qn e.st e.f fd:=
 ⟨Nt X G (nZ k.ns (List.mem_filter.mpr ⟨m,hq⟩)),wK k m⟩
theorem us6 {α:Type}{p:List α->Prop}(h:∀a b c d e f,p [a,b,c,d,e,f]):∀(us:List α) (hl:us.length=6),p us
 |[a,b,c,d,e,f],_=>h a b c d e f
theorem zu {t:kD}(T:wa t){e:Ent}(m:e∈t.tb)(kV doc pm:LY)(an:Option Addr)(cdv ct:LY):∀us:List LY,us.length=(e.N.take e.ps).length->AV e us kV doc pm an cdv ct=pure ((e.N.take e.ps).zip us):=by
 have hl:=(om (Mp.mp T.sc e m)).2
 have a:=Mp.mp T.ar e m
 have f:∀{k:Nat}{us:List LY},e.ps=k->nv t.tb k us->AV e us kV doc pm an cdv ct=pure ((e.N.take e.ps).zip us):=fun {k us} hk ao=>nZ (ao kV doc pm an cdv ct) (List.mem_filter.mpr ⟨m,by rw [hk];exact beq_self_eq_true k⟩)
 rw [hl]
 simp only [Oc,beq_iff_eq] at a
 rcases a with ((((a|a)|a)|a)|a)|a
 ·rw [a];exact fun us h=>by rw [Od.mp h];exact a ▸ f a T.a0
 ·rw [a];exact us1 (p:=fun us=>_=_) fun x=>a ▸ f a (T.a1 x)
 ·rw [a];exact JK (p:=fun us=>_=_) fun x y=>a ▸ f a (T.a2 x y)
 ·rw [a];exact us3 (p:=fun us=>_=_) fun x y z=>a ▸ f a (T.a3 x y z)
 ·rw [a];exact us4 (p:=fun us=>_=_) fun x y z u=>a ▸ f a (T.a4 x y z u)
 ·rw [a];exact us6 (p:=fun us=>_=_) fun x y z u v w=>a ▸ f a (T.a6 x y z u v w)
section
variable {fa:Fa}{P:Ms}{w:Mv}{K:LX}{mg:Str->Option LY}{base:Heap}{t:kD}
theorem q9 (T:wa t)(TO:Cq fa P w K mg base t.T)(tw:∀q∈t.tw,Cp fa K mg q.1 q.2.1 q.2.2.1 q.2.2.2)(xf:∀f∈t.xf,Cn fa K f)(ms:∀q∈t.ms,oC fa K q.1 q.2.1 q.2.2){e:Ent}(m:e∈t.tb){ad:Addr}(call:Call)(n:Nat)(cdv:LY)(A:MZ)(outer:List MN)(s:L4)(H:Hp)(E:XK)
 (C:∀f,eA fa P w K mg base n f (call f)) (hr:bC (2*n+5) (A.deeper (envOfC e.qn (aK e.st) s.heap.objs.size ad cdv))):mG fa (dY (fu P w) P w K mg base e.N e.qn (aK e.st) ad cdv A outer s H E) (cp e.st) (e.b call):=by
 have S:=(om (Mp.mp T.sc e m)).1
 exact lF ((Cz (n:=n) (fa:=fa) T.rs 60).s (g:=t.g e call) (X:=dY (fu P w) P w K mg base e.N e.qn (aK e.st) ad cdv A outer s H E) ⟨rfl,S.nd,rfl,TO,tw,xf,ms,fun _ _=>rfl,fun _=>rfl,fun _=>C,fun _=>hr,fun _=>⟨rfl,rfl,rfl,S.kind⟩,fun _=>PassesOwn.leaving⟩) (nZ (T.rd call) m)
theorem zt (T:wa t)(k:Co K t.tb){h:Heap}(X:K.In h)(G:h.Ns mainGlobals mg)(TO:Cq fa P w K mg base t.T)(tw:∀q∈t.tw,Cp fa K mg q.1 q.2.1 q.2.2.1 q.2.2.2)(xf:∀f∈t.xf,Cn fa K f)(ms:∀q∈t.ms,oC fa K q.1 q.2.1 q.2.2)(hf:t.tb.all (fun e=>fa e.i==some e.f)=true) :
 ∀f d,t.Pg f=some d->wd fa P w K mg base f d:=by
 intro f d e
 unfold kD.Pg at e
 obtain ⟨en,he,rfl⟩:=MF.mp e
 have m:=N3 he
 have ei:en.i=f:=by have:=List.find?_some he;simpa using this
 obtain ⟨fd,F⟩:=wK k m
 obtain ⟨S,hl⟩:=om (Mp.mp T.sc en m)
 have fe:fa f=some en.f:=by rw [<- ei];exact eq_of_beq (Mp.mp hf en m)
 exact ⟨en.f,fd,en.N.take en.ps,en.N,en.st,en.x,en.qn,fe,F,F.binds (fun a b c d e f=>zu T m a b c d e f),S,hl.symm,rfl,fun call n cdv A outer s H E C hr=>q9 T TO tw xf ms m call n cdv A outer s H E C hr⟩
noncomputable def Hh (K:LX)(fa:Fa)(t:kD)(p:Str×En):Bool:=match p.2 with
 |.fn i _=>(match PySem.W.nsIn K mainGlobals p.1 with|some (some (.ref a))=>fa i==some a|_=>false)
 |.int i=>(match PySem.W.nsIn K mainGlobals p.1 with|some (some (.int j _))=>i==j|_=>false)
 |.str i=>(match PySem.W.nsIn K mainGlobals p.1 with|some (some (.str j _))=>i==j|_=>false)
 |.xc k=>(match PySem.W.nsIn K mainGlobals p.1 with|some (some (.ref a))=>fa (eE k)==some a&&PySem.W.excIn K a lG "ValueError.__new__"&&PySem.W.keepIn K (.ref a)|_=>false)
 |.xi k=>(match PySem.W.nsIn K mainGlobals p.1 with|some (some (.ref a))=>fa (eE k)==some a&&t.il.contains (p.1,k)|_=>false)
 |.xk k=>(match PySem.W.nsIn K mainGlobals p.1 with|some (some (.ref a))=>fa (eE k)==some a|_=>false)
 |.de=>(match PySem.W.nsIn K mainGlobals p.1 with|some (some (.ref a))=>fa 999==some a|_=>false)
 |.bl=>(match PySem.W.nsIn K mainGlobals p.1 with|some none=>true|_=>false)
 |.dct fs=>t.dl.contains (p.1,fs)
 |.cls c f=>(match PySem.W.nsIn K mainGlobals p.1 with|some (some (.ref a))=>fa (i7 c)==some a&&PySem.W.makesIn K a&&PySem.W.keepIn K (.ref a)&&(match fa f with|some ad=>PySem.W.findIn K (.ref a) "__init__"==some (some (.ref ad))&&PySem.W.isFn K (.ref ad)|none=>true)|_=>false)
theorem C4 {h:Heap}(X:K.In h)(G:h.Ns mainGlobals mg)(hT:t.T.all (Hh K fa t)=true)(hx:HP fa K)(hob:yS fa K)(hof:∀o,5000<=o->fa o=none)(hd:AllP (fun q=>∃ad kvs,mg q.1=some (.ref ad)/\fg K w.params ad kvs/\dI fa kvs q.2) t.dl)(hi:AllP (fun q=>jX fa P w K mg base q.2 q.1) t.il):Cq fa P w K mg base t.T:=by
 have key:∀{x:Str}{e:En},t.T.lookup x=some e->Hh K fa t (x,e)=true:=fun {x e} l=>Mp.mp hT _ (mem_of_lookup l)
 refine ⟨fun {x i r} l ad ha=>?_,fun {x i} l=>?_,fun {x i} l=>?_,fun {x fs} l=>?_,fun {x k} l=>?_,fun {x k} l=>?_,fun {x k} l=>?_,fun {x} l=>?_,fun {x} l=>?_,hx,hob,hof,fun {x c f} l=>?_⟩
 all_goals have b:=key l;unfold Hh at b;dsimp only at b
 ·split at b
  ·next e=>have b:=eq_of_beq b;rw [ha] at b;cases b;exact Nt X G e
  ·cases b
 ·split at b
  ·next e=>have b:=eq_of_beq b;subst b;exact ⟨_,Nt X G e⟩
  ·cases b
 ·split at b
  ·next e=>have b:=eq_of_beq b;subst b;exact ⟨_,Nt X G e⟩
  ·cases b
 ·exact hd.mem (x,fs) (List.contains_iff_mem.mp b)
 ·split at b
  ·next e=>simp only [L6] at b;exact ⟨_,Nt X G e,eq_of_beq b.1.1,b.1.2,b.2⟩
  ·cases b
 ·split at b
  ·next e=>rw [L6] at b;exact ⟨hi.mem (x,k) (List.contains_iff_mem.mp b.2),_,Nt X G e,eq_of_beq b.1⟩
  ·cases b
 ·split at b
  ·next e=>exact ⟨_,Nt X G e,eq_of_beq b⟩
  ·cases b
 ·split at b
  ·next e=>exact ⟨_,Nt X G e,eq_of_beq b⟩
  ·cases b
 ·split at b
  ·next e=>exact PySem.W.mg_none_of X G e
  ·cases b
 ·split at b
  ·next a e=>
   simp only [L6] at b
   refine ⟨a,Nt X G e,eq_of_beq b.1.1.1,fun ad had=>?_⟩
   have b2:=b.2
   rw [had] at b2
   simp only [L6] at b2
   exact ⟨b.1.1.2,eq_of_beq b2.1,b2.2,b.1.2⟩
  ·cases b
end
noncomputable def vV (K:LX)(C:Addr):Bool:=PySem.W.plainGet K C Str.empty&&PySem.W.hasDictIn K C&&PySem.W.plainOver K C&&PySem.W.findIn K (.ref C) "__setattr__"==some (some (.builtin "object.__setattr__"))
theorem yI {K:LX}{C:Addr}(h:vV K C=true):iz K C:=by
 unfold vV at h
 simp only [L6] at h
 exact ⟨h.1.1.1,h.1.1.2,h.1.2,eq_of_beq h.2⟩
noncomputable def Gr (K:LX)(fa:Fa):Bool:=match fa (i7 40) with
 |some C=>vV K C&&(cm 40).all fun f=>PySem.W.findIn K (.ref C) f==some none
 |none=>true
theorem Gq {K:LX}{fa:Fa}(h:Gr K fa=true):yS fa K:=fun c C e ne=>by
 have hc:c=40:=by
  unfold cm at ne
  split at ne
  ·rfl
  ·exact absurd rfl ne
 subst hc
 unfold Gr at h
 rw [e] at h
 simp only [L6,Mp] at h
 exact ⟨yI h.1,fun f m=>eq_of_beq (h.2 f m)⟩
noncomputable def GL (K:LX)(fa:Fa)(q:Str×Nat×Nat):Bool:=match fa (i7 q.2.1) with
 | some C => vV K C && (match fa q.2.2 with
   |some ad=>PySem.W.findIn K (.ref C) q.1==some (some (.ref ad))&&PySem.W.isFn K (.ref ad)&&PySem.W.keepIn K (.ref ad)
   |none=>true)&&!(cm q.2.1).contains q.1
 |none=>false
theorem GK {K:LX}{fa:Fa}{l:List (Str×Nat×Nat)}(h:l.all (GL K fa)=true):∀q∈l,oC fa K q.1 q.2.1 q.2.2:=fun q m=>by
 have h:=Mp.mp h q m
 unfold GL at h
 cases e:fa (i7 q.2.1) with
 |none=>rw [e] at h;cases h
 | some C =>
   rw [e] at h
   simp only [L6,NW] at h
   refine ⟨C,e,yI h.1.1,fun ad ea=>?_,fun z=>?_⟩
   ·have b:=h.1.2
    rw [ea] at b
    simp only [L6] at b
    exact ⟨eq_of_beq b.1.1,b.1.2,b.2⟩
   ·have:=List.contains_iff_mem.mpr z
    rw [h.2] at this;cases this
theorem AO {l cl:List (Nat×Addr)}{D:Addr}(h:cl.all (fun q=>decide (q.1<4000))=true):∀o,5000<=o->uF l cl D o=none:=fun o ho=>by
 unfold uF
 rw [if_neg (by omega),if_neg (by omega)]
 cases e:cl.lookup (o-1000) with
 |none=>rfl
 | some C =>
   have:=of_decide_eq_true (Mp.mp h _ (lookup_mem e))
   have:o-1000<4000:=this
   omega
end LD
namespace LD
open PySem
abbrev gI (n:Int):GE:=gC (.int n)
abbrev gS (x:Str):GE:=gC (.str x)
abbrev gN:GE:=gC .non
abbrev Ha:GE:=gC (.bl true)
abbrev Hd:GE:=gC (.bl false)
abbrev rF:GS:=af (aN Hd) aj
end LD
namespace LD
open PySem
noncomputable def cf:List (Str×Nat):=[("turn",7),("join",8),("move",9),("put",10)]
noncomputable def cj:List (Str×Nat):=[("turn",20),("join",21),("move",22),("put",23)]
noncomputable def eP (c:Call):GS:=af (aS (hX (aE (cx .bool (aa 0))) (bP (aE (cx .int (aa 0))))) rF aj) (af (aN (sE .le .le (aa 1) (aa 0) (aa 2))) aj)
noncomputable def jv (c:Call):GS:=af (aN (au 0 c (ae (aa 1) (ae (gI 0) (ae (aw false .sub (aa 0) (gI 1)) ah))))) aj
noncomputable def iM (c:Call):GS:=af (aN (au 0 c (ae (aa 1) (ae (gI 0) (ae (aw false .sub (aa 0) (gI 1)) ah))))) aj
noncomputable def jw (c:Call):GS:=af (aN (au 0 c (ae (aa 0) (ae (gI 1) (ae (gI 3) ah))))) aj
noncomputable def fy (c:Call):GS:=af (aN (dM (cx .tuple (aa 1)) (aU .eq (aV .len (ae (aa 1) ah)) (aa 0)))) aj
noncomputable def iL (c:Call):GS:=af (aN (dM (au 4 c (ae (aa 0) (ae (aa 1) ah))) (aV .all (ae (bI false 1 (.one 0) (di (aa 1)) (bH (au 1 c (ae (aa 1) (ae (aa 0) ah))))) ah)))) aj
noncomputable def dH (c:Call):GS:=af (aN (dM (au 4 c (ae (aa 0) (ae (aa 1) ah))) (aV .all (ae (bI false 1 (.one 0) (di (aa 1)) (bH (au 5 c (ae (aa 1) (ae (aa 0) ah))))) ah)))) aj
noncomputable def fP (c:Call):GS:=af (aS (aE (aU .ne (aV .len (ae (aa 2) ah)) (gI 3))) rF aj) (af (aH (.tup [3,4,5]) (aa 2)) (af (aN (dM (au 2 c (ae (aa 1) (ae (aa 3) ah))) (dM (au 5 c (ae (aa 0) (ae (aa 4) ah))) (au 3 c (ae (aa 5) ah))))) aj))
noncomputable def fR (c:Call):GS:=af (aS (aE (aU .ne (aV .len (ae (aa 2) ah)) (gI 4))) rF aj) (af (aH (.tup [3,4,5,6]) (aa 2)) (af (aS (hX (bP (aE (au 2 c (ae (aa 1) (ae (aa 3) ah))))) (bP (aE (au 2 c (ae (aa 1) (ae (aa 4) ah)))))) rF aj) (af (aN (dM (au 6 c (ae (aa 0) (ae (aa 5) ah))) (au 3 c (ae (aa 6) ah)))) aj)))
noncomputable def fQ (c:Call):GS:=af (aS (aE (aU .ne (aV .len (ae (aa 2) ah)) (gI 3))) rF aj) (af (aH (.tup [3,4,5]) (aa 2)) (af (aN (dM (au 2 c (ae (aa 1) (ae (aa 3) ah))) (dM (au 2 c (ae (aa 1) (ae (aa 4) ah))) (au 3 c (ae (aa 5) ah))))) aj))
noncomputable def gP (c:Call):GS:=af (aS (aE (aU .ne (aV .len (ae (aa 2) ah)) (gI 3))) rF aj) (af (aH (.tup [3,4,5]) (aa 2)) (af (aN (dM (au 2 c (ae (aa 1) (ae (aa 3) ah))) (dM (au 1 c (ae (aa 0) (ae (aa 4) ah))) (au 3 c (ae (aa 5) ah))))) aj))
noncomputable def fS (c:Call):GS:=af (aS (hX (bP (aE (cx .tuple (aa 2)))) (bP (aE (aa 2)))) rF aj) (af (aH (.one 3) (ay (aa 2) (gI 0))) (af (aS (hX (bP (aE (cx .str (aa 3)))) (aE (iG cf (aa 3)))) rF aj) (af (aH (.one 4) (kn cf (aa 3))) (af (aN (k9 4 c (ae (aa 0) (ae (aa 1) (ae (dg false true false (aa 2) (gI 1) gN) ah))))) aj))))
noncomputable def eO (c:Call):GS:=af (aS (bP (aE (au 4 c (ae (gI 3) (ae (aa 0) ah))))) rF aj) (af (aH (.tup [1,2,3]) (aa 0)) (af (aS (hX (bP (aE (au 0 c (ae (aa 1) (ae (gI 2) (ae (gI 4) ah)))))) (bP (aE (au 0 c (ae (aa 2) (ae (gI 1) (ae (gI 2) ah))))))) rF aj) (af (aS (hX (bP (aE (cx .tuple (aa 3)))) (bP (aE (sE .le .le (gI 1) (aV .len (ae (aa 3) ah)) (gI 6))))) rF aj) (af (aN (aV .all (ae (bI false 1 (.one 0) (di (aa 3)) (bH (au 11 c (ae (aa 2) (ae (aa 3) (ae (aa 0) ah)))))) ah))) aj))))
noncomputable def gO (c:Call):GS:=af (aS (bP (aE (au 12 c (ae (aa 0) ah)))) (af (d7 3 (ae (gS "this is no machine") ah)) aj) aj) aj
noncomputable def dm (c:Call):GS:=af (jC (dj 13 c (ae (aa 0) ah))) (af (aH (.tup [1,2,3]) (aa 0)) (af (aH (.one 4) (bA false (ae (cv ah) ah))) (af (eJ (.one 5) (dB (aa 2)) (af (aH (.one 4) (bI false 2 (.one 0) (di (aa 4)) (sD (.one 1) (dB (aa 3)) (bH (aw false .add (aa 0) (cv (ae (aa 1) ah))))))) aj)) (af (aN (aa 4)) aj))))
noncomputable def fF (c:Call):GS:=af (aN (au 0 c (ae (aa 1) (ae (gI 0) (ae (aw false .sub (aV .len (ae (ay (aa 0) (gI 2)) ah)) (gI 1)) ah))))) aj
noncomputable def gM (c:Call):GS:=af (aS (bP (aE (cx .list (aa 1)))) (af (jI 0 (gI 0)) aj) aj) (af (eJ (.tup [2,3]) (lZ (aa 1)) (af (aS (bP (aE (au 16 c (ae (aa 0) (ae (aa 3) ah))))) (af (jI 0 (aa 2)) aj) aj) aj)) aj)
noncomputable def kz (c:Call):GS:=af (jC (dj 13 c (ae (aa 0) ah))) (af (jC (dj 17 c (ae (aa 0) (ae (aa 1) ah)))) (af (aS (aE (aU .gt (aV .len (ae (aa 1) ah)) (gI 40))) (af (d7 4 (ae (Ca "a row has at most " " deeds" (gI 40)) ah)) aj) aj) aj))
noncomputable def m8 (c:Call):GS:=af (aH (.tup [2,3,4,5]) (aa 0)) (af (aN (ay (aa 4) (ay (aa 1) (aa 3)))) aj)
noncomputable def nh (c:Call):GS:=af (aH (.tup [2,3,4,5,6]) (aa 0)) (af (aN (ay (ay (aa 5) (ay (aa 1) (aa 3))) (ay (aa 1) (aa 4)))) aj)
noncomputable def pq (c:Call):GS:=af (aH (.tup [2,3,4,5]) (aa 0)) (af (aN (ay (aa 1) (aa 4))) aj)
noncomputable def m9 (c:Call):GS:=af (aH (.tup [2,3,4,5]) (aa 0)) (af (aN (aa 4)) aj)
noncomputable def sZ (c:Call):GS:=af (aH (.one 2) (kn cj (ay (aa 0) (gI 0)))) (af (aH (.one 3) (ay (aa 0) (gI 1))) (af (aN (aw false .add (aw false .add (dg false false true (aa 1) gN (aa 3)) (cv (ae (k9 2 c (ae (aa 0) (ae (aa 1) ah))) ah))) (dg false true false (aa 1) (aw false .add (aa 3) (gI 1)) gN))) aj))
noncomputable def gQ (c:Call):GS:=af (aH (.one 3) (bA true (ae (aa 2) ah))) (af (eJ (.one 4) (di (aa 1)) (af (dU (aa 3) (au 24 c (ae (ay (ay (aa 0) (gI 2)) (aa 4)) (ae (ay (aa 3) (gp (gI 1))) ah)))) aj)) (af (aN (aa 3)) aj))
noncomputable def g7 (c:Call):GS:=af (jC (dj 18 c (ae (aa 0) (ae (aa 1) ah)))) (af (aN (au 46 c (ae (aa 0) (ae (aa 1) ah)))) aj)
noncomputable def fz (c:Call):GS:=af (aS (aE (aU .ge (aa 0) (aw false .pow (gI 10) (gI 18)))) (af (aN (aa 0)) aj) aj) (af (aH (.one 2) (bA false (ae (gI 2147483629) (ae (gI 2147483587) (ae (gI 2147483579) (ae (gI 2147483563) (ae (gI 2147483549) (ae (gI 2147483543) (ae (gI 2147483497) (ae (gI 2147483489) ah)))))))))) (af (aH (.one 2) (aw false .add (aa 2) (bA false (ae (gI 2147483477) (ae (gI 2147483423) (ae (gI 2147483399) (ae (gI 2147483353) (ae (gI 2147483323) ah)))))))) (af (aH (.one 3) (aw false .mod (aw false .pow (aw false .add (aw false .add (aw false .mul (aw false .mod (aa 0) (gI 1000000007)) (aw false .add (aw false .mul (gI 2) (aa 1)) (gI 69069))) (aw false .mul (aa 1) (gI 40503))) (gI 977)) (gI 3)) (ay (aa 2) (aw false .mod (aa 1) (gI 13))))) (af (aH (.one 4) (aw false .mod (aw false .pow (aw false .add (aw false .add (aw false .mul (aa 3) (aw false .add (aa 1) (gI 3))) (aw false .mod (aa 0) (gI 65537))) (gI 5)) (gI 5)) (ay (aa 2) (aw false .mod (aw false .add (aa 1) (gI 5)) (gI 13))))) (af (aH (.one 5) (aw false .mod (aw false .pow (aw false .add (aw false .add (aa 4) (aw false .mod (aa 3) (gI 1009))) (aa 1)) (gI 3)) (ay (aa 2) (aw false .mod (aw false .add (aa 1) (gI 7)) (gI 13))))) (af (aN (aw false .add (aw false .mul (aw false .add (aw false .mul (aa 3) (gI 2147483647)) (aa 4)) (gI 2147483647)) (aa 5))) aj))))))
noncomputable def jE (c:Call):GS:=af (aH (.one 1) (aV (.list true) (ae (dg false false true (aa 0) gN (gI 12)) ah))) (af (eJ (.tup [2,3]) (lZ (dg false true true (aa 0) (gI 12) (gI 63))) (af (cE (aa 1) (aw false .mod (aa 2) (gI 12)) (aw false .add (ay (aa 1) (aw false .mod (aa 2) (gI 12))) (aa 3))) aj)) (af (aN (bA true (ae (aa 1) (ae (gI 0) (ae (gI 0) ah))))) aj))
noncomputable def jF (c:Call):GS:=af (cE (aa 0) (gI 2) (gI 0)) (af (aN (aa 0)) aj)
noncomputable def mD (c:Call):GS:=af (aS (aE (aU .lt (ay (aa 0) (gI 2)) (aa 1))) (af (aH (.one 2) (ay (aa 0) (gI 1))) (af (aH (.one 3) (gI 0)) (af (aS (aE (aU .lt (aa 2) (aV .len (ae (ay (aa 0) (gI 0)) ah)))) (af (aH (.one 3) (ay (ay (aa 0) (gI 0)) (aa 2))) aj) (af (aS (aE (aU .gt (aV .len (ae (ay (aa 0) (gI 0)) ah)) (gI 0))) (af (aH (.one 3) (aw false .mod (ay (ay (aa 0) (gI 0)) (aw false .mod (aw false .add (aw false .mul (aa 2) (gI 5)) (gI 3)) (aV .len (ae (ay (aa 0) (gI 0)) ah)))) (aw false .add (aw false .pow (gI 10) (gI 17)) (aa 2)))) aj) aj) aj)) (af (cE (aa 0) (gI 1) (aw false .add (aa 2) (gI 1))) (af (cE (aa 0) (gI 2) (au 28 c (ae (aa 3) (ae (aa 2) ah)))) aj))))) aj) (af (aH (.one 4) (aw false .mod (ay (aa 0) (gI 2)) (aa 1))) (af (cE (aa 0) (gI 2) (aw false .fdiv (ay (aa 0) (gI 2)) (aa 1))) (af (aN (aa 4)) aj)))
noncomputable def iN (c:Call):GS:=af (aH (.one 2) (au 31 c (ae (aa 0) (ae (gI 6) ah)))) (af (aH (.one 3) (au 31 c (ae (aa 0) (ae (aa 1) ah)))) (af (aH (.one 4) (au 31 c (ae (aa 0) (ae (aa 1) ah)))) (af (aS (aE (aU .lt (aa 2) (gI 2))) (af (aN (aV .tuple (ae (bI false 1 (.one 0) (dB (aa 1)) (bH (au 31 c (ae (aa 1) (ae (aa 2) ah))))) ah))) aj) aj) (af (aS (aE (aU .eq (aa 2) (gI 2))) (af (aN (aV .tuple (ae (bI false 1 (.one 0) (dB (aa 1)) (bH (aw false .mod (aw false .add (aw false .add (aa 0) (gI 1)) (aa 4)) (aa 2)))) ah))) aj) aj) (af (aS (aE (aU .eq (aa 2) (gI 3))) (af (aN (aV .tuple (ae (bI false 1 (.one 0) (dB (aa 1)) (bH (jd (aE (aU .eq (aa 0) (aa 4))) (aa 5) (aa 0)))) ah))) aj) aj) (af (aS (aE (aU .eq (aa 2) (gI 4))) (af (aN (aw false .mul (cv (ae (aa 3) ah)) (aa 1))) aj) aj) (af (aH (.one 5) (kZ true (aa 1))) (af (cE (aa 5) (aa 3) (aa 4)) (af (cE (aa 5) (aa 4) (aa 3)) (af (aN (aV .tuple (ae (aa 5) ah))) aj))))))))))
noncomputable def g8 (c:Call):GS:=af (aH (.one 3) (au 31 c (ae (aa 0) (ae (gI 8) ah)))) (af (aH (.one 4) (aw false .add (gI 1) (au 31 c (ae (aa 0) (ae (gI 3) ah))))) (af (aH (.one 5) (au 31 c (ae (aa 0) (ae (aa 2) ah)))) (af (aH (.one 6) (au 31 c (ae (aa 0) (ae (aa 2) ah)))) (af (aS (aE (aU .lt (aa 3) (gI 3))) (af (aN (cv (ae (gS "turn") (ae (aa 5) (ae (au 32 c (ae (aa 0) (ae (aa 1) ah))) (ae (aa 4) ah)))))) aj) aj) (af (aS (aE (aU .lt (aa 3) (gI 5))) (af (aN (cv (ae (gS "move") (ae (aa 5) (ae (jd (aE (aU .eq (aa 3) (gI 3))) (aw false .mod (aw false .add (aa 5) (gI 1)) (aa 2)) (aa 6)) (ae (aa 4) ah)))))) aj) aj) (af (aS (aE (aU .eq (aa 3) (gI 5))) (af (aN (cv (ae (gS "put") (ae (aa 5) (ae (au 31 c (ae (aa 0) (ae (aa 1) ah))) (ae (aa 4) ah)))))) aj) aj) (af (aN (cv (ae (gS "join") (ae (aa 5) (ae (aa 6) (ae (aV .tuple (ae (bI false 1 (.one 0) (dB (aa 1)) (bH (au 32 c (ae (aa 1) (ae (aa 2) ah))))) ah)) (ae (aa 4) ah))))))) aj)))))))
noncomputable def fc (c:Call):GS:=af (aH (.one 1) (aw false .add (gI 2) (au 31 c (ae (aa 0) (ae (aw false .sub (aa 1) (gI 1)) ah))))) (af (aH (.one 2) (aw false .add (gI 1) (au 31 c (ae (aa 0) (ae (aa 2) ah))))) (af (aH (.one 4) (bA true ah)) (af (eJ (.one 5) (dB (aw false .add (gI 1) (au 31 c (ae (aa 0) (ae (aa 3) ah))))) (af (aH (.one 6) (au 31 c (ae (aa 0) (ae (gI 5) ah)))) (af (aH (.one 7) (au 33 c (ae (aa 0) (ae (aa 1) (ae (aa 2) ah))))) (af (aS (iX (aE (aU .eq (aa 6) (gI 0))) (aE (aU .ne (aa 4) (bA false ah)))) (af (aH (.one 7) (aw false .add (dg false false true (ay (aa 4) (au 31 c (ae (aa 0) (ae (aV .len (ae (aa 4) ah)) ah)))) gN (gp (gI 1))) (cv (ae (ay (aa 7) (gp (gI 1))) ah)))) aj) aj) (af (dU (aa 4) (aa 7)) aj))))) (af (aN (cv (ae (aa 1) (ae (aa 2) (ae (aV .tuple (ae (aa 4) ah)) ah))))) aj))))
noncomputable def gz (c:Call):GS:=af (aH (.one 3) (au 31 c (ae (aa 0) (ae (gI 4) ah)))) (af (aH (.one 4) (jd (aE (aU .eq (aa 3) (gI 0))) (aa 2) (au 31 c (ae (aa 0) (ae (aw false .add (aa 2) (gI 1)) ah))))) (af (aH (.one 5) (bI false 1 (.one 0) (dB (aa 4)) (bH (au 31 c (ae (aa 1) (ae (aV .len (ae (ay (aa 2) (gI 2)) ah)) ah)))))) (af (aS (aE (aU .eq (aa 3) (gI 1))) (af (aH (.one 5) (dg false false true (aw false .mul (dg false false true (aa 5) gN (gI 2)) (aa 4)) gN (aa 4))) aj) aj) (af (aN (aa 5)) aj))))
noncomputable def bM (c:Call):GS:=af (aS (aE (aU .isN (aa 1) gN)) (af (aN (aU .isN (aa 0) gN)) aj) aj) (af (aS (hX (aE (cx .bool (aa 1))) (aE (cx .bool (aa 0)))) (af (aN (dM (cx .bool (aa 1)) (dM (cx .bool (aa 0)) (aU .eq (aa 0) (aa 1))))) aj) aj) (af (aS (aE (cx .int (aa 1))) (af (aN (dM (cx .int (aa 0)) (aU .eq (aa 0) (aa 1)))) aj) aj) (af (aS (aE (cx .str (aa 1))) (af (aN (dM (cx .str (aa 0)) (aU .eq (aa 0) (aa 1)))) aj) aj) (af (aS (hX (aE (aU .ne (cx .tuple (aa 1)) (cx .tuple (aa 0)))) (aE (aU .ne (cx .list (aa 1)) (cx .list (aa 0))))) rF aj) (af (aS (aE (aU .ne (aV .len (ae (aa 0) ah)) (aV .len (ae (aa 1) ah)))) rF aj) (af (aN (aU .notin Hd (bI false 2 (.tup [0,1]) (lY (aa 0) (aa 1)) (bH (au 40 c (ae (aa 0) (ae (aa 1) ah))))))) aj))))))
noncomputable def td (c:Call):GS:=af (aH (.one 2) (aV (.list true) (ae (aa 1) ah))) (af (aH (.one 3) (ay (aa 1) (ay (aa 0) (gI 1)))) (af (aS (aE (aU .eq (ay (aa 0) (gI 0)) (gS "turn"))) (af (cE (aa 2) (ay (aa 0) (gI 1)) (ay (ay (aa 0) (gI 2)) (aa 3))) aj) aj) (af (aS (aE (aU .eq (ay (aa 0) (gI 0)) (gS "join"))) (af (cE (aa 2) (ay (aa 0) (gI 1)) (ay (ay (ay (aa 0) (gI 3)) (aa 3)) (ay (aa 1) (ay (aa 0) (gI 2))))) aj) aj) (af (aS (aE (aU .eq (ay (aa 0) (gI 0)) (gS "move"))) (af (cE (aa 2) (ay (aa 0) (gI 1)) (ay (aa 1) (ay (aa 0) (gI 2)))) aj) aj) (af (aS (aE (aU .eq (ay (aa 0) (gI 0)) (gS "put"))) (af (cE (aa 2) (ay (aa 0) (gI 1)) (ay (aa 0) (gI 2))) aj) aj) (af (aN (aV .tuple (ae (aa 2) ah))) aj))))))
noncomputable def qC (c:Call):GS:=af (aS (aE (aU .eq (ay (aa 0) (gI 1)) (gI 1))) (af (aN (bI false 1 (.one 0) (dB (ay (aa 0) (gI 0))) (bH (cv (ae (aa 0) ah))))) aj) aj) (af (aN (bI false 1 (.one 0) (dB (aw false .mul (ay (aa 0) (gI 0)) (ay (aa 0) (gI 0)))) (bH (cv (ae (aw false .fdiv (aa 0) (ay (aa 1) (gI 0))) (ae (aw false .mod (aa 0) (ay (aa 1) (gI 0))) ah)))))) aj)
noncomputable def tL (c:Call):GS:=af (aH (.one 2) (bA true ah)) (af (eJ (.one 3) (di (au 42 c (ae (aa 0) ah))) (af (eJ (.one 4) (di (aa 1)) (af (aH (.one 3) (au 41 c (ae (ay (ay (aa 0) (gI 2)) (aa 4)) (ae (aa 3) ah)))) aj)) (af (dU (aa 2) (aa 3)) aj))) (af (aN (aV .tuple (ae (aa 2) ah))) aj))
noncomputable def fT (c:Call):GS:=af (aN (aV .tuple (ae (bI false 1 (.one 0) (di (au 15 c (ae (aa 0) ah))) (bH (ay (au 25 c (ae (aa 1) (ae (aa 2) (ae (aa 0) ah)))) (gp (gI 1))))) ah))) aj
noncomputable def fx (c:Call):GS:=af (aN (aV .sum (ae (bI false 1 (.one 0) (di (aa 1)) (bH (ay (ay (ay (aa 1) (gI 2)) (aa 0)) (gp (gI 1))))) ah))) aj
noncomputable def ng (c:Call):GS:=af (gU (.one 3) (dj 27 c (ae (aa 0) (ae (aa 1) ah)))) (af (gU (.one 4) (dj 27 c (ae (aa 0) (ae (aa 2) ah)))) (af (eJ (.tup [5,6,7]) (lX (au 15 c (ae (aa 0) ah)) (aa 3) (aa 4)) (af (aS (aE (aU .ne (aa 6) (aa 7))) (af (aN (aa 5)) aj) aj) aj)) (af (aN gN) aj)))
noncomputable def s9 (c:Call):GS:=af (aN (aV .sum (ae (bI false 1 (.one 0) (di (aa 1)) (bH (ay (ay (ay (aa 1) (gI 2)) (aa 0)) (gp (gI 1))))) ah))) aj
noncomputable def eF (c:Call):GS:=af (jC (dj 18 c (ae (aa 1) (ae (aa 2) ah)))) (af (gR "machine" (aa 0) (aa 1)) (af (gR "standing" (aa 0) (aV (.list false) (ae (aa 2) ah))) (af (gR "earlier" (aa 0) (bA true ah)) aj)))
noncomputable def iO (c:Call):GS:=af (aN (aV (.list true) (ae (bW "standing" (aa 0)) ah))) aj
noncomputable def hG (c:Call):GS:=af (aN (au 47 c (ae (bW "machine" (aa 0)) (ae (bW "standing" (aa 0)) ah)))) aj
noncomputable def d4 (c:Call):GS:=af (aN (au 46 c (ae (bW "machine" (aa 0)) (ae (bW "standing" (aa 0)) ah)))) aj
noncomputable def iP (c:Call):GS:=af (aS (bP (aE (au 0 c (ae (aa 1) (ae (gI 0) (ae (aV .len (ae (bW "standing" (aa 0)) ah)) ah)))))) (af (d7 9 (ae (gS "no deed can be put in there") ah)) aj) aj) (af (aS (bP (aE (au 16 c (ae (bW "machine" (aa 0)) (ae (aa 2) ah))))) (af (d7 10 (ae (gS "the machine has no such deed") ah)) aj) aj) (af (aS (aE (aU .ge (aV .len (ae (bW "standing" (aa 0)) ah)) (gI 40))) (af (d7 4 (ae (Ca "a row has at most " " deeds" (gI 40)) ah)) aj) aj) (af (aN (cw 40 136 c (aa 0) (ae (aw false .add (aw false .add (dg false false true (bW "standing" (aa 0)) gN (aa 1)) (bA false (ae (aa 2) ah))) (dg false true false (bW "standing" (aa 0)) (aa 1) gN)) ah))) aj)))
noncomputable def iQ (c:Call):GS:=af (aS (bP (aE (au 0 c (ae (aa 1) (ae (gI 0) (ae (aw false .sub (aV .len (ae (bW "standing" (aa 0)) ah)) (gI 1)) ah)))))) (af (d7 9 (ae (gS "no deed stands there") ah)) aj) aj) (af (aN (cw 40 136 c (aa 0) (ae (aw false .add (dg false false true (bW "standing" (aa 0)) gN (aa 1)) (dg false true false (bW "standing" (aa 0)) (aw false .add (aa 1) (gI 1)) gN)) ah))) aj)
noncomputable def hJ (c:Call):GS:=af (aS (bP (aE (bW "earlier" (aa 0)))) (af (d7 11 (ae (gS "no change stands") ah)) aj) aj) (af (aN (cw 40 137 c (aa 0) (ae (oX (bW "earlier" (aa 0))) ah))) aj)
noncomputable def fB (c:Call):GS:=af (dU (bW "earlier" (aa 0)) (bW "standing" (aa 0))) (af (aN (cw 40 137 c (aa 0) (ae (aa 1) ah))) aj)
noncomputable def g9 (c:Call):GS:=af (gU (.one 2) (dj 48 c (ae (bW "machine" (aa 0)) (ae (bW "standing" (aa 0)) (ae (aa 1) ah))))) (af (gR "standing" (aa 0) (aa 1)) (af (aN (aa 2)) aj))
noncomputable def fA (c:Call):GS:=af (aH (.one 3) (au 31 c (ae (aa 0) (ae (gI 4) ah)))) (af (aH (.one 4) (ay (aa 2) (gp (gI 1)))) (af (aH (.one 5) (au 31 c (ae (aa 0) (ae (aw false .add (aV .len (ae (aa 4) ah)) (gI 1)) ah)))) (af (aH (.one 6) (au 31 c (ae (aa 0) (ae (aV .len (ae (ay (aa 1) (gI 2)) ah)) ah)))) (af (aS (iX (aE (aU .eq (aa 3) (gI 0))) (aE (aU .gt (aV .len (ae (aa 2) ah)) (gI 1)))) (af (aN (cv (ae (dg false false true (aa 2) gN (gp (gI 1))) (ae (cv ah) ah)))) aj) aj) (af (aS (iX (hX (aE (aU .eq (aa 3) (gI 1))) (aE (aU .eq (aV .len (ae (aa 4) ah)) (gI 40)))) (aE (aU .ne (aa 4) (bA false ah)))) (af (aH (.one 5) (aw false .mod (aa 5) (aV .len (ae (aa 4) ah)))) (af (aN (cv (ae (aw false .add (aa 2) (bA false (ae (aw false .add (dg false false true (aa 4) gN (aa 5)) (dg false true false (aa 4) (aw false .add (aa 5) (gI 1)) gN)) ah))) (ae (cv (ae (aa 5) ah)) ah)))) aj)) aj) (af (aN (cv (ae (aw false .add (aa 2) (bA false (ae (aw false .add (aw false .add (dg false false true (aa 4) gN (aa 5)) (bA false (ae (aa 6) ah))) (dg false true false (aa 4) (aa 5) gN)) ah))) (ae (cv (ae (aa 5) (ae (aa 6) ah))) ah)))) aj))))))
noncomputable def dR (c:Call):GS:=af (aS (aE (aU .eq (aV .len (ae (aa 1) ah)) (gI 2))) (af (aN (cw 40 133 c (aa 0) (ae (ay (aa 1) (gI 0)) (ae (ay (aa 1) (gI 1)) ah)))) aj) aj) (af (aN (jd (aE (aU .eq (aa 1) (cv ah))) (cw 40 135 c (aa 0) ah) (cw 40 134 c (aa 0) (ae (ay (aa 1) (gI 0)) ah)))) aj)
noncomputable def qB (c:Call):GS:=af (eJ (.tup [3,4,5]) (lX (au 42 c (ae (aa 0) ah)) (au 44 c (ae (aa 0) (ae (aa 1) ah))) (au 44 c (ae (aa 0) (ae (aa 2) ah)))) (af (aS (aE (aU .ne (aa 4) (aa 5))) (af (aN (aa 3)) aj) aj) aj)) (af (aN gN) aj)
noncomputable def iq (c:Call):GS:=af (aN (bA false (ae (bA false (ae (gI 0) (ae (gI 1) (ae (gI 2) ah)))) (ae (bA false (ae (gI 0) (ae (gI 2) (ae (gI 1) ah)))) (ae (bA false (ae (gI 1) (ae (gI 0) (ae (gI 2) ah)))) (ae (bA false (ae (gI 1) (ae (gI 2) (ae (gI 0) ah)))) (ae (bA false (ae (gI 2) (ae (gI 0) (ae (gI 1) ah)))) (ae (bA false (ae (gI 2) (ae (gI 1) (ae (gI 0) ah)))) ah)))))))) aj
noncomputable def oy (c:Call):GS:=af (eJ (.one 4) (di (aw false .add (ay (au 141 c ah) (aa 3)) (bA false (ae (gI 0) (ae (gI 1) (ae (gI 2) ah)))))) (af (aS (aE (aU .eq (aa 4) (gI 0))) (af (aH (.one 5) (cw 40 130 c (aa 0) ah)) (af (aS (bP (aE (au 40 c (ae (aa 5) (ae (aa 2) ah))))) rF aj) (af (dU (aa 5) (gI 0)) aj))) aj) (af (aS (iX (aE (aU .eq (aa 4) (gI 1))) (bP (aE (au 40 c (ae (cw 40 131 c (aa 0) ah) (ae (au 89 c (ae (aa 1) (ae (aa 2) ah))) ah)))))) rF aj) (af (aS (iX (aE (aU .eq (aa 4) (gI 2))) (bP (aE (au 40 c (ae (cw 40 132 c (aa 0) ah) (ae (au 44 c (ae (aa 1) (ae (aa 2) ah))) ah)))))) rF aj) aj)))) (af (aN Ha) aj)
noncomputable def ff (c:Call):GS:=af (aH (.one 2) (bA true (ae gN (ae gN (ae gN ah))))) (af (eJ (.one 3) (di (ay (au 141 c ah) (aw false .mod (aa 1) (gI 6)))) (af (aS (aE (aU .eq (aa 3) (gI 0))) (af (cE (aa 2) (gI 0) (cw 40 130 c (aa 0) ah)) aj) (af (aS (aE (aU .eq (aa 3) (gI 1))) (af (cE (aa 2) (gI 1) (cw 40 131 c (aa 0) ah)) aj) (af (cE (aa 2) (gI 2) (cw 40 132 c (aa 0) ah)) aj)) aj)) aj)) (af (aN (aa 2)) aj))
noncomputable def gA (c:Call):GS:=af (aH (.one 3) (km 40 129 c (ae (ay (aa 0) (gI 0)) (ae (aV (.list false) (ae (ay (aa 0) (gI 1)) ah)) ah)))) (af (aH (.one 4) (bI false 1 (.one 0) (di (aa 1)) (bH (au 139 c (ae (aa 4) (ae (aa 0) ah)))))) (af (aN (bA false (ae (ay (aa 4) (gp (gI 1))) (ae (au 144 c (ae (aa 3) (ae (aa 2) ah))) ah)))) aj))
noncomputable def mn (c:Call):GS:=af (aH (.one 1) (au 29 c (ae (aa 0) ah))) (af (aH (.one 2) (bA true ah)) (af (aH (.one 3) (au 31 c (ae (aa 1) (ae (gI 2) ah)))) (af (eJ (.one 4) (dB (gI 2)) (af (aH (.one 5) (au 34 c (ae (au 30 c (ae (aa 1) ah)) (ae (gI 3) (ae (gI 2) (ae (gI 5) ah)))))) (af (dU (aa 2) (cv (ae (aa 5) (ae (au 35 c (ae (aa 1) (ae (aa 5) (ae (gI 6) ah)))) ah)))) aj))) (af (aS (aE (aU .eq (aa 3) (gI 0))) (af (cE (aa 2) (gI 1) (ay (aa 2) (gI 0))) aj) aj) (af (aH (.one 6) (bI false 1 (.one 0) (di (aa 2)) (bH (km 40 129 c (ae (ay (aa 0) (gI 0)) (ae (aV (.list false) (ae (ay (aa 0) (gI 1)) ah)) ah)))))) (af (aH (.one 7) (bI true 1 (.one 0) (di (aa 2)) (bH (bA false (ae (ay (aa 0) (gI 1)) ah))))) (af (aH (.one 8) (bA true (ae (bA true ah) (ae (bA true ah) ah)))) (af (aH (.one 9) (bI true 1 (.one 0) (di (aa 6)) (bH (au 144 c (ae (aa 0) (ae (gI 0) ah)))))) (af (eJ (.one 10) (dB (aw false .add (gI 8) (au 31 c (ae (aa 1) (ae (gI 8) ah))))) (af (aH (.one 11) (au 31 c (ae (aa 1) (ae (gI 2) ah)))) (af (j8 (aa 7) (aa 11) 12 (au 138 c (ae (aa 1) (ae (ay (ay (aa 2) (aa 11)) (gI 0)) (ae (ay (aa 7) (aa 11)) ah))))) (af (dU (ay (aa 8) (aa 11)) (aa 12)) (af (aH (.one 13) (au 139 c (ae (ay (aa 6) (aa 11)) (ae (aa 12) ah)))) (af (aH (.one 14) (au 31 c (ae (aa 1) (ae (gI 6) ah)))) (af (cE (aa 9) (aa 11) (au 144 c (ae (ay (aa 6) (aa 11)) (ae (aa 14) ah)))) (af (aS (bP (aE (au 40 c (ae (bA false (ae (aa 13) (ae (ay (aa 9) (aa 11)) ah))) (ae (au 149 c (ae (ay (aa 2) (aa 11)) (ae (ay (aa 8) (aa 11)) (ae (aw false .add (aa 14) (gI 2)) ah)))) ah))))) rF aj) (af (aS (bP (aE (au 40 c (ae (au 144 c (ae (ay (aa 6) (aw false .sub (gI 1) (aa 11))) (ae (aw false .add (aa 14) (gI 3)) ah))) (ae (ay (aa 9) (aw false .sub (gI 1) (aa 11))) ah))))) rF aj) aj))))))))) (af (aN Ha) aj))))))))))
end LD
namespace LD
open PySem
@[simp] theorem bq {α β:Type}{r:Res α}{f:α->Mem->Res β}{k:β->Mem->Prop}:ag (r.bind f) k↔ag r fun a M=>ag (f a M) k:=by cases r<;>rfl
@[simp] theorem dW {α:Type}{a:α}{M:Mem}{k:α->Mem->Prop}:ag (.ok a M) k↔k a M:=Nh
@[simp] theorem Ml {α:Type}{k:α->Mem->Prop}:ag (.bad:Res α) k↔False:=Nh
@[simp] theorem i6 {α:Type}{M:Mem}{o:Option α}{k:α->Mem->Prop}:ag (bR M o) k↔∃a,o=some a/\k a M:=by cases o<;>simp [bR]
theorem f9 {α:Type}{r:Res α}{k:α->Mem->Prop}:ag r k↔∃a M,r=.ok a M/\k a M:=by
 cases r with
 |ok a M=>exact ⟨fun h=>⟨a,M,rfl,h⟩,fun ⟨_,_,e,h⟩=>by cases e;exact h⟩
 |err=>simp [ag]
 |bad=>simp [ag]
theorem pj {x y:D}{M:Mem}{v:Bool}(px:aC 64 (view M x)=true)(py:aC 64 (view M y)=true)(h:gy (view M x) (view M y)=v):bJ .eq x y M=some v:=by
 have e:sH (view M x) (view M y)=some v:=by unfold sH;rw [px,py,h];simp
 show lA M x y=_
 unfold lA;rw [e]
theorem ph {x y:D}{M:Mem}{v:Bool}(px:aC 64 (view M x)=true)(py:aC 64 (view M y)=true)(h:gy (view M x) (view M y)=v):bJ .ne x y M=some (!v):=by
 show (bJ .eq x y M).map (!·)=_
 rw [pj px py h];rfl
section
variable {Z:Env}{M:Mem}{a b d lo hi:GE}{s:GA}{t u:GT}{k:D->Mem->Prop}{c:Call}
@[simp] theorem bT {i:Nat}:ag (aa i Z M) k↔∃d,Z[i]?.getD none=some d/\k d M:=by simp [aa]
@[simp] theorem fo {d:D}:ag (gC d Z M) k↔k d M:=Nh
@[simp] theorem jt {m:Bool}{o:mI}:ag (aw m o a b Z M) k↔ag (a Z M) fun x M=>ag (b Z M) fun y M=>ag (gL m o x y M) k:=by simp [aw]
@[simp] theorem ma {o:iw}:ag (aU o a b Z M) k↔ag (a Z M) fun x M=>ag (b Z M) fun y M=>∃v,bJ o x y M=some v/\k (.bl v) M:=by simp [aU]
@[simp] theorem Jg {o o':iw}:ag (sE o o' a b d Z M) k↔ag (a Z M) fun x M=>ag (b Z M) fun y M=>∃v,bJ o x y M=some v/\if v=true then ag (d Z M) fun z M=>∃v,bJ o' y z M=some v/\k (.bl v) M else k (.bl false) M:=by
 simp only [sE,bq,i6]
 refine iff_of_eq ?_
 congr 1;funext x M;congr 1;funext y M;refine propext (exists_congr fun v=>and_congr_right fun _=>?_)
 cases v<;>simp
@[simp] theorem Jf:ag (gp a Z M) k↔ag (a Z M) fun x M=>∃i,x=.int i/\k (.int (-i)) M:=by
 simp only [gp,bq];refine iff_of_eq ?_;congr 1;funext x M;cases x<;>simp
@[simp] theorem Cd:ag (dM a b Z M) k↔ag (a Z M) fun x M=>∃v,x=.bl v/\if v=true then ag (b Z M) k else k (.bl false) M:=by
 simp only [dM,bq];refine iff_of_eq ?_;congr 1;funext x M;cases x<;>simp
 rename_i v;cases v<;>simp
@[simp] theorem vO:ag (jd t a b Z M) k↔ag (t Z M) fun v M=>if v=true then ag (a Z M) k else ag (b Z M) k:=by
 simp only [jd,bq];refine iff_of_eq ?_;congr 1;funext v M;cases v<;>simp
@[simp] theorem Cc:ag (ay a b Z M) k↔ag (a Z M) fun x M=>ag (b Z M) fun y M=>∃d,cu x y M=some d/\k d M:=by simp [ay]
@[simp] theorem l8 {m hl hh:Bool}:ag (dg m hl hh a lo hi Z M) k↔ag (a Z M) fun x M=>ag (lo Z M) fun l M=>ag (hi Z M) fun h M=>c9 hl l=true/\c9 hh h=true/\ag (fE m x l h M) k:=by
 simp only [dg,bq]
 refine iff_of_eq ?_
 congr 1;funext x M;congr 1;funext l M;congr 1;funext h M
 cases c9 hl l<;>cases c9 hh h<;>simp
@[simp] theorem bO {k:List D->Mem->Prop}:ag (ah Z M) k↔k [] M:=Nh
@[simp] theorem bp {k:List D->Mem->Prop}:ag (ae a s Z M) k↔ag (a Z M) fun x M=>ag (s Z M) fun xs M=>k (x::xs) M:=by simp [ae]
@[simp] theorem iI:ag (cv s Z M) k↔ag (s Z M) fun xs M=>xs.length<=sz/\k (.tup xs) M:=by
 simp only [cv,bq];refine iff_of_eq ?_;congr 1;funext xs M;unfold ka;split<;>simp [*]
theorem rV {m:Bool}{xs:List D}:ag (a9 m xs M) k↔xs.length<=sz/\if m=true then k (.cell M.length) (M++[xs]) else k (.lst xs) M:=by
 unfold a9;cases m<;>split<;>simp [*]
@[simp] theorem bQ {xs:List D}:ag (a9 false xs M) k↔xs.length<=sz/\k (.lst xs) M:=by simp [rV]
@[simp] theorem eC {xs:List D}:ag (a9 true xs M) k↔xs.length<=sz/\k (.cell M.length) (M++[xs]):=by simp [rV]
@[simp] theorem kr {m:Bool}:ag (bA m s Z M) k↔ag (s Z M) fun xs M=>ag (a9 m xs M) k:=by simp [bA]
@[simp] theorem je {f:Nat}:ag (au f c s Z M) k↔ag (s Z M) fun ds M=>ag (c f ds M) k:=by simp [au]
@[simp] theorem Ek {i:Nat}:ag (k9 i c s Z M) k↔∃f,Z[i]?.getD none=some (.fn f)/\ag (s Z M) fun ds M=>ag (c f ds M) k:=by
 unfold k9
 cases e:Z[i]?.getD none with
 |none=>simp
 |some d=>cases d<;>simp
@[simp] theorem fv {f:tD}:ag (aV f s Z M) k↔ag (s Z M) fun ds M=>ag (dq f ds M) k:=by simp [aV]
@[simp] theorem Hi {t:Ty}:ag (cx t a Z M) k↔ag (a Z M) fun x M=>∃v,dA t x=some v/\k (.bl v) M:=by simp [cx]
@[simp] theorem Hj {fs:List (Str×Nat)}:ag (kn fs a Z M) k↔ag (a Z M) fun x M=>∃y f,x=.str y/\fs.lookup y=some f/\k (.fn f) M:=by
 simp only [kn,bq];refine iff_of_eq ?_;congr 1;funext x M;cases x<;>simp
 exact ⟨fun ⟨_,⟨f,h,e⟩,q⟩=>⟨f,h,e ▸ q⟩,fun ⟨f,h,q⟩=>⟨_,⟨f,h,rfl⟩,q⟩⟩
@[simp] theorem MC {fs:List (Str×Nat)}:ag (iG fs a Z M) k↔ag (a Z M) fun x M=>∃y,x=.str y/\k (.bl (!(fs.lookup y).isSome)) M:=by
 simp only [iG,bq];refine iff_of_eq ?_;congr 1;funext x M;cases x<;>simp
@[simp] theorem Ej {m:Bool}:ag (kZ m a Z M) k↔ag (a Z M) fun x M=>∃n,x=.int n/\(-(2^62)<=n/\n<2^20)/\ag (a9 m ((List.range n.toNat).map fun (k:Nat)=>D.int (k:Int)) M) k:=by
 simp only [kZ,bq];refine iff_of_eq ?_;congr 1;funext x M
 cases x<;>simp
 rename_i n
 split<;>simp [*]
variable {kb:Bool->Mem->Prop}
@[simp] theorem nH:ag (aE a Z M) kb↔ag (a Z M) fun x M=>∃v,jA M x=some v/\kb v M:=by simp [aE]
@[simp] theorem Ki:ag (hX t u Z M) kb↔ag (t Z M) fun v M=>if v=true then kb true M else ag (u Z M) kb:=by
 simp only [hX,bq];refine iff_of_eq ?_;congr 1;funext v M;cases v<;>simp
@[simp] theorem uV:ag (bP t Z M) kb↔ag (t Z M) fun v M=>kb (!v) M:=by simp [bP]
variable {kf:Fl->Mem->Prop}{sa sb:GS}
noncomputable def iA (b:GS)(k:Fl->Mem->Prop):Fl->Mem->Prop
 |.next Z,M=>ag (b Z M) k
 |.ret d,M=>k (.ret d) M
 |.exc x Z,M=>k (.exc x Z) M
@[simp] theorem Kh {b:GS}{x:D}:iA b kf (.exc x Z) M↔kf (.exc x Z) M:=Nh
@[simp] theorem dQ {b:GS}:iA b kf (.next Z) M↔ag (b Z M) kf:=Nh
@[simp] theorem zr {b:GS}{d:D}:iA b kf (.ret d) M↔kf (.ret d) M:=Nh
@[simp] theorem aX:ag (af sa sb Z M) kf↔ag (sa Z M) (iA sb kf):=by
 simp only [af,bq];refine iff_of_eq ?_;congr 1;funext fl M;cases fl<;>rfl
@[simp] theorem xo:ag (aj Z M) kf↔kf (.next Z) M:=Nh
@[simp] theorem hZ {i:Nat}:ag (aH (.one i) a Z M) kf↔ag (a Z M) fun x M=>kf (.next (Z.set i (some x))) M:=by simp [aH,b7]
@[simp] theorem Fs {l:List Nat}:ag (aH (.tup l) a Z M) kf↔ag (a Z M) fun x M=>∃ds ρ1,x=.tup ds/\eI l ds Z=some ρ1/\kf (.next ρ1) M:=by
 simp only [aH,bq,i6,dW];refine iff_of_eq ?_;congr 1;funext x M;cases x<;>simp [b7]
@[simp] theorem Fq:ag (cE a b d Z M) kf↔ag (d Z M) fun z M=>ag (a Z M) fun x M=>ag (b Z M) fun y M=>∃j n ds i,x=.cell j/\y=.int n/\M[j]?=some ds/\bz ds.length n=some i/\kf (.next Z) (M.set j (ds.set i z)):=by
 simp only [cE,bq]
 refine iff_of_eq ?_
 congr 1;funext z M;congr 1;funext x M;congr 1;funext y M
 cases x with
 | cell j =>
   cases y with
   | int n =>
     cases e:M[j]? with
     |none=>simp [e]
     | some ds =>
       cases e2:bz ds.length n with
       |none=>simp [e,e2]
       |some i=>simp [e,e2]
   |_=>simp
 |_=>simp
@[simp] theorem Fv:ag (dU a d Z M) kf↔ag (a Z M) fun x M=>ag (d Z M) fun z M=>∃j ds,x=.cell j/\M[j]?=some ds/\ds.length<sz/\kf (.next Z) (M.set j (ds++[z])):=by
 simp only [dU,bq]
 refine iff_of_eq ?_
 congr 1;funext x M;congr 1;funext z M
 cases x<;>simp
 rename_i j
 cases e:M[j]? with
 |none=>simp
 |some ds=>by_cases h:ds.length<sz<;>simp [h]
@[simp] theorem d5:ag (aN a Z M) kf↔ag (a Z M) fun x M=>kf (.ret x) M:=by simp [aN]
@[simp] theorem LG:ag (BD Z M) kf↔kf (.ret .non) M:=Nh
@[simp] theorem LH:ag (BE Z M) kf↔kf (.next Z) M:=Nh
@[simp] theorem Mg:ag (Kw Z M) kf↔False:=Nh
@[simp] theorem fX:ag (aS t sa sb Z M) kf↔ag (t Z M) fun v M=>if v=true then ag (sa Z M) kf else ag (sb Z M) kf:=by
 simp only [aS,bq];refine iff_of_eq ?_;congr 1;funext v M;cases v<;>simp
variable {kw:Walk->Mem->Prop}
@[simp] theorem hU:ag (dB a Z M) kw↔ag (a Z M) fun x M=>∃n,x=.int n/\(-(2^62)<=n/\n<2^62)/\kw (fun _=>some ((List.range n.toNat).map fun (k:Nat)=>D.int (k:Int))) M:=by
 simp only [dB,bq];refine iff_of_eq ?_;congr 1;funext x M;cases x<;>simp
 rename_i n
 split<;>simp [*]
@[simp] theorem nA:ag (di a Z M) kw↔ag (a Z M) fun x M=>cT x=true/\kw (fun M=>bL M x) M:=by
 simp only [di,bq];refine iff_of_eq ?_;congr 1;funext x M;cases x<;>simp [cT]<;>rfl
@[simp] theorem LR:ag (lZ a Z M) kw↔ag (a Z M) fun x M=>(cT x&&dD x)=true/\kw (fun M=>(bL M x).map (dE 0)) M:=by
 simp only [lZ,bq];refine iff_of_eq ?_;congr 1;funext x M;cases x<;>simp [cT,dD]<;>rfl
@[simp] theorem EX:ag (lY a b Z M) kw↔ag (a Z M) fun x M=>ag (b Z M) fun y M=>(cT x&&cT y)=true/\kw (jY x y) M:=by
 simp only [lY,bq];refine iff_of_eq ?_;congr 1;funext x M;congr 1;funext y M;split<;>simp [*]
noncomputable def lg (k:D->Mem->Prop):Fl->Mem->Prop
 |.ret d,M=>k d M
 |.next _,M=>k .non M
 |.exc _ _,_=>False
@[simp] theorem LP {d:D}:lg k (.ret d) M↔k d M:=Nh
@[simp] theorem Lj:lg k (.next Z) M↔k .non M:=Nh
theorem aA {P:Nat->Option Df}{n f:Nat}{d:Df}{ds:List D}(e:P f=some d)(hl:ds.length=d.params)(h:ag (d.body (ak P n) (ds.map some++List.replicate (d.slots-ds.length) none) M) (lg k)):ag (ak P (n+1) f ds M) k:=by
 show ag (match P f with|none=>Res.bad|some d=>ig (ak P n) d ds M) k
 rw [e]
 show ag (ig (ak P n) d ds M) k
 unfold ig
 rw [if_pos hl]
 revert h
 cases d.body (ak P n) (ds.map some++List.replicate (d.slots-ds.length) none) M with
 |ok fl M=>cases fl<;>exact id
 |err=>exact id
 |bad=>exact id
@[simp] theorem Mm {α:Type}{a:α}{k:α->Mem->Prop}{kx:D->Mem->Prop}:kB (.ok a M) k kx↔k a M:=Nh
@[simp] theorem LL {α:Type}{x:D}{k:α->Mem->Prop}{kx:D->Mem->Prop}:kB (.err x M:Res α) k kx↔kx x M:=Nh
noncomputable def AN (k kx:D->Mem->Prop):Fl->Mem->Prop
 |.ret d,M=>k d M
 |.next _,M=>k .non M
 |.exc x _,M=>kx x M
@[simp] theorem MA {d:D}{kx:D->Mem->Prop}:AN k kx (.ret d) M↔k d M:=Nh
@[simp] theorem LO {kx:D->Mem->Prop}:AN k kx (.next Z) M↔k .non M:=Nh
@[simp] theorem MB {x:D}{kx:D->Mem->Prop}:AN k kx (.exc x Z) M↔kx x M:=Nh
@[simp] theorem LA {f:Nat}{kx:D->Mem->Prop}:kB (dj f c s Z M) k kx↔ag (s Z M) fun ds M=>kB (c f ds M) k kx:=by
 unfold dj
 cases s Z M<;>rfl
@[simp] theorem Mf:ag (jC a Z M) kf↔kB (a Z M) (fun _ M=>kf (.next Z) M) (fun x M=>kf (.exc x Z) M):=by
 unfold jC
 cases a Z M<;>rfl
@[simp] theorem LI {i:Nat}:ag (gU (.one i) a Z M) kf↔kB (a Z M) (fun x M=>kf (.next (Z.set i (some x))) M) (fun x M=>kf (.exc x Z) M):=by
 unfold gU
 cases a Z M<;>rfl
@[simp] theorem Ku {i:Nat}:ag (d7 i s Z M) kf↔ag (s Z M) fun ds M=>ds.length<=sz/\kf (.exc (.exc i none) Z) M:=by
 unfold d7
 cases s Z M with
 |ok ds M1=>by_cases h:ds.length<=sz<;>simp [h]
 |err=>exact Nh
 |bad=>exact Nh
theorem vD {α:Type}(f:α->D->Mem->Res α)(ds:List D):∀(m i:Nat) (a:α) (M:Mem),ds.length-i<m->i<=ds.length->dX f (fun _=>some ds) m i a M=Cb f (ds.drop i) a M
 |0,i,a,M,h,_=>absurd h (Nat.not_lt_zero _)
 | m + 1, i, a, M, h, hi => by
   show (match ds[i]? with|none=>Res.ok a M|some d=>(f a d M).bind (dX f (fun _=>some ds) m (i+1)))=_
   by_cases hlt:i<ds.length
   ·rw [List.drop_eq_getElem_cons hlt,Mr hlt]
    show (f a ds[i] M).bind _=(f a ds[i] M).bind _
    congr 1
    funext a M
    exact vD f ds m (i+1) a M (by omega) hlt
   ·have e:i=ds.length:=by omega
    subst e
    rw [NI (L7 _),List.drop_length]
    rfl
theorem iV {α:Type}{f:α->D->Mem->Res α}{w:Walk}{ds:List D}{a:α}{k:α->Mem->Prop}(I:Nat->α->Mem->Prop)(hw:∀i a M,I i a M->w M=some ds)(h0:I 0 a M)
 (hs:∀i d a M,ds[i]?=some d->I i a M->ag (f a d M) (I (i+1))) (hk:∀a M,I ds.length a M->k a M):ag (c6 f w a M) k:=by
 have key:∀(m i:Nat) (a:α) (M:Mem),ds.length-i<m->i<=ds.length->I i a M->ag (dX f w m i a M) k:=by
  intro m
  induction m with
  |zero=>intro i a M h;exact absurd h (Nat.not_lt_zero _)
  | succ m ih =>
    intro i a M h hi hI
    show ag (match w M with|none=>Res.bad|some ds=>match ds[i]? with|none=>Res.ok a M|some d=>(f a d M).bind (dX f w m (i+1))) k
    rw [hw i a M hI]
    dsimp only
    by_cases hlt:i<ds.length
    ·rw [Mr hlt]
     simp only [bq]
     exact aT (hs i ds[i] a M (Mr hlt) hI) fun a' M' h'=>ih (i+1) a' M' (by omega) hlt h'
    ·have e:i=ds.length:=by omega
     subst e
     rw [NI (L7 _)]
     exact hk a M hI
 unfold c6
 rw [hw 0 a M h0]
 exact key _ 0 a M (by simp) (NJ _) h0
theorem fN {t:cD}{w:Walk}{gb:GS}{ds:List D}(I:Nat->Env->Mem->Prop)(hw:∀i Z M,I i Z M->w M=some ds)(h0:I 0 Z M)
 (hs:∀i d Z M,ds[i]?=some d->I i Z M->∃ρ1,b7 t d Z=some ρ1/\ag (gb ρ1 M) fun fl M=>∃ρ',fl=.next ρ'/\I (i+1) ρ' M) (hk:∀Z M,I ds.length Z M->kf (.next Z) M):ag (c6 (fW t gb) w (.next Z) M) kf:=by
 refine iV (fun i fl M=>∃Z,fl=.next Z/\I i Z M) (fun i fl M ⟨Z,_,h⟩=>hw i Z M h) ⟨Z,rfl,h0⟩ ?_ ?_
 ·rintro i d fl M hd ⟨Z,rfl,hI⟩
  obtain ⟨ρ1,e,h⟩:=hs i d Z M hd hI
  simp only [fW,bq,i6,e]
  exact ⟨ρ1,rfl,h⟩
 ·rintro fl M ⟨Z,rfl,hI⟩
  exact hk Z M hI
@[simp] theorem nN {tg:cD}{w:GW}{gb:GS}:ag (eJ tg w gb Z M) kf↔ag (w Z M) fun w M=>ag (c6 (fW tg gb) w (.next Z) M) kf:=by simp [eJ]
@[simp] theorem eL {m:Bool}{n:Nat}{tg:cD}{w:GW}{g:GB}:ag (bI m n tg w g Z M) k↔ag (w Z M) fun w M=>ag (c6 (dn tg g (List.replicate n none++Z)) w [] M) fun acc M=>ag (a9 m acc M) k:=by simp [bI]
variable {kl:List D->Mem->Prop}
@[simp] theorem Ck {ge:GE}{acc:List D}:ag (bH ge Z acc M) kl↔ag (ge Z M) fun x M=>acc.length<sz/\kl (acc++[x]) M:=by
 simp only [bH,bq];refine iff_of_eq ?_;congr 1;funext x M;split<;>simp [*]
theorem comp_map {tg:cD}{w:Walk}{ge:GE}{ds:List D}{ρ0:Env}(I:Nat->List D->Mem->Prop)(hz:ds.length<=sz)(hw:∀i acc M,I i acc M->w M=some ds)(h0:I 0 [] M)
 (hs:∀i d acc M,ds[i]?=some d->acc.length=i->I i acc M->∃ρ1,b7 tg d ρ0=some ρ1/\ag (ge ρ1 M) fun x M=>I (i+1) (acc++[x]) M) (hk:∀acc M,acc.length=ds.length->I ds.length acc M->kl acc M) :
 ag (c6 (dn tg (bH ge) ρ0) w [] M) kl:=by
 refine iV (fun i acc M=>acc.length=i/\I i acc M) (fun i acc M h=>hw i acc M h.2) ⟨rfl,h0⟩ ?_ (fun acc M h=>hk acc M h.1 h.2)
 rintro i d acc M hd ⟨hl,hI⟩
 obtain ⟨ρ1,e,h⟩:=hs i d acc M hd hl hI
 have hi:i<ds.length:=(LZ.mp hd).1
 simp only [dn,bq,i6,e,Ck]
 exact ⟨ρ1,rfl,aT h fun x M h=>⟨by omega,by simp [hl],h⟩⟩
end
theorem bg {t:GT}{A rest:GS}{Z:Env}{M:Mem}{k:Fl->Mem->Prop}(ht:t Z M=.ok false M)(h:ag (rest Z M) k):ag (af (aS t A aj) rest Z M) k:=by
 simp only [aX,fX]
 rw [ht]
 exact h
theorem jR {t:GT}{e:GE}{rest:GS}{Z:Env}{M:Mem}{v:D}{k:Fl->Mem->Prop}(ht:t Z M=.ok true M)(he:e Z M=.ok v M)(h:k (.ret v) M):ag (af (aS t (af (aN e) aj) aj) rest Z M) k:=by
 simp only [aX,fX,d5]
 rw [ht]
 show ag (e Z M) _
 rw [he]
 exact h
theorem c8 {e:GE}{Z:Env}{M:Mem}{v:D}{k:Fl->Mem->Prop}(he:e Z M=.ok v M)(h:k (.ret v) M):ag (af (aN e) aj Z M) k:=by
 simp only [aX,d5]
 rw [he]
 exact h
theorem cP {r:Res Fl}{v:D}{M:Mem}(e:r=.ok (.ret v) M):ag r (lg fun x M'=>x=v/\M'=M):=by rw [e];exact ⟨rfl,rfl⟩
end LD
namespace LD
open PySem
structure HasM0 (P:Nat->Option Df):Prop where
 is_between:P 0=some ⟨3,3,eP⟩
 is_word:P 1=some ⟨2,2,jv⟩
 is_place:P 2=some ⟨2,2,iM⟩
 is_cost:P 3=some ⟨1,1,jw⟩
 is_tuple_of:P 4=some ⟨2,2,fy⟩
 is_table:P 5=some ⟨2,2,iL⟩
 is_double_table:P 6=some ⟨2,2,dH⟩
 is_turn:P 7=some ⟨3,6,fP⟩
 is_join:P 8=some ⟨3,7,fR⟩
 is_move:P 9=some ⟨3,6,fQ⟩
 is_put:P 10=some ⟨3,6,gP⟩
 is_deed:P 11=some ⟨3,5,fS⟩
 is_machine:P 12=some ⟨1,4,eO⟩
 need_machine:P 13=some ⟨1,1,gO⟩
 is_deed_number:P 16=some ⟨2,2,fF⟩
 need_numbers:P 17=some ⟨2,4,gM⟩
 need_row:P 18=some ⟨2,2,kz⟩
structure HasM (P:Nat->Option Df):Prop extends HasM0 P where
 turned:P 20=some ⟨2,6,m8⟩
 joined:P 21=some ⟨2,7,nh⟩
 moved:P 22=some ⟨2,6,pq⟩
 put_in:P 23=some ⟨2,6,m9⟩
 done:P 24=some ⟨2,4,sZ⟩
 all_standing:P 25=some ⟨3,5,gQ⟩
structure HasP0 (P:Nat->Option Df):Prop where
 law_spread:P 28=some ⟨2,6,fz⟩
 law_open:P 29=some ⟨1,4,jE⟩
 law_anew:P 30=some ⟨1,1,jF⟩
 law_take:P 31=some ⟨2,5,mD⟩
structure HasP (P:Nat->Option Df):Prop extends HasP0 P where
 law_tab:P 32=some ⟨2,6,iN⟩
 law_deed:P 33=some ⟨3,7,g8⟩
 law_machine:P 34=some ⟨4,8,fc⟩
noncomputable instance coeHasM {P:Nat->Option Df}:Coe (HasM P) (HasM0 P):=⟨HasM.toHasM0⟩
noncomputable instance coeHasP {P:Nat->Option Df}:Coe (HasP P) (HasP0 P):=⟨HasP.toHasP0⟩
@[simp] theorem MG {d:Option D}{r:Env}:(d::r)[0]?.getD none=d:=rfl
section
variable {M:Mem}{k:D->Mem->Prop}
theorem nX {α:Type}{c:Prop}[Decidable c]{r:Res α}{k:α->Mem->Prop}:ag (if c then r else .bad) k↔c/\ag r k:=by split<;>simp [*]
@[simp] theorem oz {m:Bool}{i j:Int}:ag (gL m .add (.int i) (.int j) M) k↔k (.int (i+j)) M:=Nh
@[simp] theorem Me {m:Bool}{i j:Int}:ag (gL m .sub (.int i) (.int j) M) k↔k (.int (i-j)) M:=Nh
@[simp] theorem Mq {m:Bool}{i j:Int}:ag (gL m .mod (.int i) (.int j) M) k↔0<j/\k (.int (i % j)) M:=nX
@[simp] theorem yR {m:Bool}{x y:List D}:ag (gL m .add (.tup x) (.tup y) M) k↔(x++y).length<=sz/\k (.tup (x++y)) M:=by
 show ag (ka _ _) k↔_
 unfold ka;exact nX
@[simp] theorem MD {m:Bool}{x y:List D}:ag (gL m .add (.lst x) (.lst y) M) k↔ag (a9 m (x++y) M) k:=Nh
@[simp] theorem LS {i j:Int}:bJ .lt (.int i) (.int j) M=some (decide (i<j)):=rfl
@[simp] theorem LU {i j:Int}:bJ .le (.int i) (.int j) M=some (decide (i<=j)):=rfl
@[simp] theorem LV {i j:Int}:bJ .gt (.int i) (.int j) M=some (decide (j<i)):=rfl
@[simp] theorem LW {i j:Int}:bJ .ge (.int i) (.int j) M=some (decide (j<=i)):=rfl
@[simp] theorem MI {i j:Int}:bJ .eq (.int i) (.int j) M=some (i==j):=rfl
@[simp] theorem MH {i j:Int}:bJ .ne (.int i) (.int j) M=some (!(i==j)):=rfl
@[simp] theorem L5 {b:Bool}:jA M (.bl b)=some b:=rfl
@[simp] theorem LB {ds:List D}:jA M (.tup ds)=some (!ds.isEmpty):=rfl
@[simp] theorem LC {ds:List D}:jA M (.lst ds)=some (!ds.isEmpty):=rfl
@[simp] theorem Ec {ds:List D}:ag (dq .len [.tup ds] M) k↔k (.int ds.length) M:=Nh
@[simp] theorem LM {ds:List D}:ag (dq .len [.lst ds] M) k↔k (.int ds.length) M:=Nh
@[simp] theorem EM {ds:List D}:ag (dq .all [.lst ds] M) k↔∃bs,boolsOf ds=some bs/\k (.bl (bs.all id)) M:=by
 show ag (match boolsOf ds with|some bs=>_|none=>_) k↔_
 cases boolsOf ds<;>simp
@[simp] theorem LF {ds:List D}:ag (dq .sum [.lst ds] M) k↔∃bs,intsOf ds=some bs/\k (.int bs.sum) M:=by
 show ag (match intsOf ds with|some bs=>_|none=>_) k↔_
 cases intsOf ds<;>simp
@[simp] theorem JN {ds:List D}:ag (dq .tuple [.lst ds] M) k↔k (.tup ds) M:=Nh
@[simp] theorem uU {j:Nat}:ag (dq .tuple [.cell j] M) k↔∃ds,M[j]?=some ds/\k (.tup ds) M:=by
 show ag (match M[j]? with|some xs=>_|none=>_) k↔_
 cases M[j]?<;>simp
@[simp] theorem Av {m:Bool}{ds:List D}:ag (dq (.list m) [.lst ds] M) k↔ag (a9 m ds M) k:=Nh
@[simp] theorem iS {ds:List D}{i:Int}:cu (.tup ds) (.int i) M=(bz ds.length i).bind fun j=>ds[j]?:=rfl
@[simp] theorem LN {ds:List D}{i:Int}:cu (.lst ds) (.int i) M=(bz ds.length i).bind fun j=>ds[j]?:=rfl
@[simp] theorem Lf {j:Nat}{i:Int}:cu (.cell j) (.int i) M=(M[j]?).bind fun ds=>(bz ds.length i).bind fun j=>ds[j]?:=rfl
theorem eK {n i:Nat}(h:i<n):bz n (i:Int)=some i:=by
 unfold bz;rw [if_pos (Int.natCast_nonneg i),if_pos (by exact_mod_cast h)];rfl
theorem Ee {n:Nat}(h:0<n):bz n (-1)=some (n-1):=by
 unfold bz
 rw [if_neg (by omega),if_pos (by omega)]
 congr 1;omega
end
theorem lu {α:Type}{r:Res α}{d:α}{M:Mem}(h:ag r fun x M'=>x=d/\M'=M):r=.ok d M:=by
 obtain ⟨a,M',e,rfl,rfl⟩:=f9.mp h
 exact e
theorem av {r:Res D}{d:D}{M:Mem}(h:ag r fun x M'=>x=d/\M'=M):r=.ok d M:=by
 obtain ⟨a,M',e,rfl,rfl⟩:=f9.mp h
 exact e
section
variable {P:Nat->Option Df}(h:HasM0 P){M:Mem}
include h
theorem j6 (n:Nat)(t lo hi:Int):ak P (n+1) 0 [.int t,.int lo,.int hi] M=.ok (.bl (decide (lo<=t)&&decide (t<=hi))) M:=by
 refine av (aA h.is_between rfl ?_)
 simp [eP,dA]
 by_cases h1:lo<=t<;>simp [h1]<;>omega
end
theorem fO {tg:cD}{w:Walk}{ge:GE}{ds:List D}{ρ0:Env}{M:Mem}{kl:List D->Mem->Prop}(f:D->D)(hz:ds.length<=sz)(hw:w M=some ds)(hs:∀d∈ds,∃ρ1,b7 tg d ρ0=some ρ1/\ge ρ1 M=.ok (f d) M)(hk:kl (ds.map f) M) :
 ag (c6 (dn tg (bH ge) ρ0) w [] M) kl:=by
 refine comp_map (fun i acc M'=>M'=M/\acc=(ds.take i).map f) hz (fun i acc M' h=>by rw [h.1];exact hw) ⟨rfl,rfl⟩ ?_ ?_
 ·rintro i d acc M' hd _ ⟨rfl,rfl⟩
  obtain ⟨ρ1,e1,e2⟩:=hs d (Np hd)
  refine ⟨ρ1,e1,?_⟩
  rw [e2]
  refine ⟨rfl,?_⟩
  have hi:i<ds.length:=(LZ.mp hd).1
  rw [NN,hd]
  simp
 ·rintro acc M' _ ⟨rfl,rfl⟩
  simpa using hk
abbrev nD (n:Nat):D:=.int (n:Int)
noncomputable def aM (l:List Nat):D:=.tup (l.map nD)
inductive aW where
 |turn (at_:Nat) (tab:List Nat) (cost:Nat)
 |join (at_ other:Nat) (tab:List (List Nat)) (cost:Nat)
 |move (at_ other cost:Nat)
 |put (at_ word cost:Nat)
noncomputable def aW.d:aW->D
 |.turn a t c=>.tup [.str "turn",nD a,aM t,nD c]
 |.join a o t c=>.tup [.str "join",nD a,nD o,.tup (t.map aM),nD c]
 |.move a o c=>.tup [.str "move",nD a,nD o,nD c]
 |.put a w c=>.tup [.str "put",nD a,nD w,nD c]
noncomputable def aW.cost:aW->Nat
 |.turn _ _ c=>c
 |.join _ _ _ c=>c
 |.move _ _ c=>c
 |.put _ _ c=>c
structure aR where
 words:Nat
 places:Nat
 deeds:List aW
noncomputable def aR.d (m:aR):D:=.tup [nD m.words,nD m.places,.tup (m.deeds.map aW.d)]
noncomputable def iR (w:Nat)(t:List Nat):Prop:=t.length=w/\∀x∈t,x<w
noncomputable def eU (c:Nat):Prop:=1<=c/\c<=3
noncomputable def bY (w p:Nat):aW->Prop
 |.turn a t c=>a<p/\iR w t/\eU c
 |.join a o t c=>a<p/\o<p/\(t.length=w/\∀x∈t,iR w x)/\eU c
 |.move a o c=>a<p/\o<p/\eU c
 |.put a x c=>a<p/\x<w/\eU c
structure a8 (m:aR):Prop where
 w2:2<=m.words
 w4:m.words<=4
 p1:1<=m.places
 p2:m.places<=2
 d1:1<=m.deeds.length
 d6:m.deeds.length<=6
 ok:∀d∈m.deeds,bY m.words m.places d
theorem aG {n:Nat}(h:n<=100000):n<=sz:=Mb h (by decide)
theorem KN:cf.lookup (Str.ofString "turn")=some 7:=by decide +kernel
theorem KJ:cf.lookup (Str.ofString "join")=some 8:=by decide +kernel
theorem KI:cf.lookup (Str.ofString "move")=some 9:=by decide +kernel
theorem KH:cf.lookup (Str.ofString "put")=some 10:=by decide +kernel
end LD
namespace LD
open PySem
section
variable {Z:Env}{M:Mem}{a b:GE}{s:GA}{k:D->Mem->Prop}{kf:Fl->Mem->Prop}{t u:GT}{A rest:GS}
theorem cM {t rest:GS}{ρ':Env}(e:t Z M=.ok (.next ρ') M)(h:ag (rest ρ' M) kf):ag (af t rest Z M) kf:=by
 simp only [aX]
 rw [e]
 exact h
theorem aq {x:D}{xs:List D}(ea:a Z M=.ok x M)(es:s Z M=.ok xs M):ae a s Z M=.ok (x::xs) M:=by
 unfold ae
 rw [ea]
 show (s Z M).bind _=_
 rw [es]
 rfl
theorem gj {xs:List D}(es:s Z M=.ok xs M)(hl:xs.length<=100):bA false s Z M=.ok (.lst xs) M:=by
 unfold bA
 rw [es]
 show (if xs.length<=sz then (if false=true then _ else Res.ok (D.lst xs) M) else .bad)=_
 rw [if_pos (aG (by omega))]
 rfl
theorem ic {xs ys:List D}(ea:a Z M=.ok (.lst xs) M)(eb:b Z M=.ok (.lst ys) M)(hl:(xs++ys).length<=100):aw false .add a b Z M=.ok (.lst (xs++ys)) M:=by
 unfold aw
 rw [ea]
 show (b Z M).bind _=_
 rw [eb]
 show (if (xs++ys).length<=sz then (if false=true then _ else Res.ok (D.lst (xs++ys)) M) else .bad)=_
 rw [if_pos (aG (by omega))]
 rfl
theorem d9 {i:Nat}{x:D}(e:a Z M=.ok x M):aH (.one i) a Z M=.ok (.next (Z.set i (some x))) M:=by
 unfold aH
 rw [e]
 rfl
theorem ai {j:Nat}{x:D}(h:Z[j]?.getD none=some x):aa j Z M=.ok x M:=by
 unfold aa
 rw [h]
 rfl
theorem bB {f:Nat}{c:Call}{xs:List D}(e:s Z M=.ok xs M):au f c s Z M=c f xs M:=by
 unfold au;rw [e];rfl
theorem qO {f i:Nat}{c:Call}{x:D}{r:Res D}(h:Z[i]?.getD none=some x)(e:c f [x] M=r):au f c (ae (aa i) ah) Z M=r:=(bB (aq (ai h) rfl)).trans e
theorem iK {f i j:Nat}{c:Call}{x y:D}{r:Res D}(h:Z[i]?.getD none=some x)(h2:Z[j]?.getD none=some y)(e:c f [x,y] M=r):au f c (ae (aa i) (ae (aa j) ah)) Z M=r:=(bB (aq (ai h) (aq (ai h2) rfl))).trans e
theorem cb {i:Nat}(h:ag (a Z M) k)(hk:∀x M',k x M'->ag (rest (Z.set i (some x)) M') kf):ag (af (aH (.one i) a) rest Z M) kf:=by
 obtain ⟨x,M',e,q⟩:=f9.mp h
 simp only [aX]
 unfold aH
 rw [e]
 exact hk x M' q
theorem ym (ht:t Z M=.ok true M)(h:ag (A Z M) (iA rest kf)):ag (af (aS t A aj) rest Z M) kf:=by
 simp only [aX,fX]
 rw [ht]
 exact h
theorem bS {b:Bool}(ht:t Z M=.ok b M)(h1:b=true->ag (A Z M) (iA rest kf))(h2:b=false->ag (rest Z M) kf):ag (af (aS t A aj) rest Z M) kf:=by
 cases b with
 |true=>exact ym ht (h1 rfl)
 |false=>exact bg ht (h2 rfl)
theorem jO {b:Bool}(h:t Z M=.ok b M):bP t Z M=.ok (!b) M:=by
 unfold bP
 rw [h]
 rfl
theorem bX {b:Bool}(h:a Z M=.ok (.bl b) M):aE a Z M=.ok b M:=by
 unfold aE
 rw [h]
 rfl
theorem BJ {x y:Bool}(h1:t Z M=.ok x M)(h2:u Z M=.ok y M):hX t u Z M=.ok (x||y) M:=by
 unfold hX
 rw [h1]
 cases x with
 |true=>rfl
 |false=>exact h2
theorem pz {x y:Bool}(h1:t Z M=.ok x M)(h2:u Z M=.ok y M):iX t u Z M=.ok (x&&y) M:=by
 unfold iX
 rw [h1]
 cases x with
 |true=>exact h2
 |false=>rfl
theorem jg {x y:Bool}(h1:a Z M=.ok (.bl x) M)(h2:x=true->b Z M=.ok (.bl y) M):dM a b Z M=.ok (.bl (x&&y)) M:=by
 unfold dM
 rw [h1]
 cases x with
 |true=>exact h2 rfl
 |false=>rfl
theorem lV {k:Bool}{x:D}(ht:t Z M=.ok k M)(h1:k=true->a Z M=.ok x M)(h2:k=false->b Z M=.ok x M):jd t a b Z M=.ok x M:=by
 unfold jd
 rw [ht]
 cases k with
 |true=>exact h1 rfl
 |false=>exact h2 rfl
theorem iF {j:Nat}{ds:List D}(e:Z[j]?.getD none=some (.tup ds)):aV .len (ae (aa j) ah) Z M=.ok (nD ds.length) M:=by
 unfold aV
 rw [aq (ai e) rfl]
 rfl
theorem IT {i j:Int}(h1:a Z M=.ok (.int i) M)(h2:b Z M=.ok (.int j) M):aE (aU .ne a b) Z M=.ok (!(i==j)) M:=by
 refine bX ?_
 unfold aU
 rw [h1]
 show (b Z M).bind _=_
 rw [h2]
 rfl
end
theorem uC {t:GT}{A rest:GS}{Z:Env}{M:Mem}{k:Fl->Mem->Prop}{R:Mem->Prop}(ht:ag (t Z M) fun b M'=>b=false/\R M')(h:∀M',R M'->ag (rest Z M') k):ag (af (aS t A aj) rest Z M) k:=by
 simp only [aX,fX]
 obtain ⟨b,M',e,rfl,r⟩:=f9.mp ht
 rw [e]
 exact h M' r
end LD
namespace LD
open PySem
noncomputable def Th:Nat->Nat->D->Prop
 |_,_,.non=>True
 |_,_,.bl _=>True
 |_,_,.int _=>True
 |_,L,.str x=>x.cps.size<=L/\x.cps.all (· < 0x110000)=true
 |n+1,L,.tup ds=>ds.length<=L/\∀d∈ds,Th n L d
 |n+1,L,.lst ds=>ds.length<=L/\∀d∈ds,Th n L d
 |_,_,_=>False
theorem Th.mono:∀{n n' L L':Nat}{d:D},Th n L d->n<=n'->L<=L'->Th n' L' d
 |n,n',L,L',.non,_,_,_=>by cases n'<;>trivial
 |n,n',L,L',.bl _,_,_,_=>by cases n'<;>trivial
 |n,n',L,L',.int _,_,_,_=>by cases n'<;>trivial
 | n, n', L, L', .str x, h, _, l => by
   have h:x.cps.size<=L/\x.cps.all (· < 0x110000)=true:=by cases n<;>exact h
   have:x.cps.size<=L'/\x.cps.all (· < 0x110000)=true:=⟨Mb h.1 l,h.2⟩
   cases n'<;>exact this
 |n+1,n'+1,L,L',.tup ds,h,a,l=>⟨Mb h.1 l,fun d hd=>Th.mono (h.2 d hd) (Nat.le_of_succ_le_succ a) l⟩
 |n+1,n'+1,L,L',.lst ds,h,a,l=>⟨Mb h.1 l,fun d hd=>Th.mono (h.2 d hd) (Nat.le_of_succ_le_succ a) l⟩
 |n+1,0,L,L',.tup ds,h,a,l=>by omega
 |n+1,0,L,L',.lst ds,h,a,l=>by omega
 |0,n',L,L',.tup ds,h,a,l=>h.elim
 |0,n',L,L',.lst ds,h,a,l=>h.elim
 |n,n',L,L',.frz _,h,_,_=>by cases n<;>exact h.elim
 |n,n',L,L',.cell _,h,_,_=>by cases n<;>exact h.elim
 |n,n',L,L',.fn _,h,_,_=>by cases n<;>exact h.elim
 |n,n',L,L',.exc _ _,h,_,_=>by cases n<;>exact h.elim
theorem Th.tup {n L:Nat}{ds:List D}(h:Th n L (.tup ds)):ds.length<=L/\∀d∈ds,Th n L d:=by
 cases n with
 |zero=>exact h.elim
 |succ n=>exact ⟨h.1,fun d hd=>(h.2 d hd).mono (NQ n) (L7 L)⟩
noncomputable def bG (lo hi:Int):D->Bool
 |.int i=>decide (lo<=i)&&decide (i<=hi)
 |_=>false
noncomputable def fD (w:Nat):D->Bool
 |.tup ds=>ds.length==w
 |_=>false
noncomputable def j3 (w:Nat):D->Bool
 |.tup ds=>ds.length==w&&ds.all (bG 0 ((w:Int)-1))
 |_=>false
noncomputable def oo (w:Nat):D->Bool
 |.tup ds=>ds.length==w&&ds.all (j3 w)
 |_=>false
noncomputable def qE (w p:Nat):List D->Bool
 |[a,t,c]=>bG 0 ((p:Int)-1) a&&(j3 w t&&bG 1 3 c)
 |_=>false
noncomputable def qL (w p:Nat):List D->Bool
 |[a,o,t,c]=>bG 0 ((p:Int)-1) a&&(bG 0 ((p:Int)-1) o&&(oo w t&&bG 1 3 c))
 |_=>false
noncomputable def qH (w p:Nat):List D->Bool
 |[a,o,c]=>bG 0 ((p:Int)-1) a&&(bG 0 ((p:Int)-1) o&&bG 1 3 c)
 |_=>false
noncomputable def ve (w p:Nat):List D->Bool
 |[a,x,c]=>bG 0 ((p:Int)-1) a&&(bG 0 ((w:Int)-1) x&&bG 1 3 c)
 |_=>false
noncomputable def cX (w p:Nat)(s:Str)(ds:List D):Bool:=
 if s="turn" then qE w p ds else if s="join" then qL w p ds else if s="move" then qH w p ds else if s="put" then ve w p ds else false
noncomputable def iJ (w p:Nat):D->Bool
 |.tup (.str s::ds)=>cX w p s ds
 |_=>false
noncomputable def ik:D->Bool
 |.tup ds=>decide (1<=ds.length)&&decide (ds.length<=6)
 |_=>false
noncomputable def G5:D->List D
 |.tup ds=>ds
 |_=>[]
noncomputable def gK:D->Nat
 |.int i=>i.toNat
 |_=>0
theorem uO {lo hi:Int}{d:D}(h:bG lo hi d=true)(h0:0<=lo):d=nD (gK d)/\lo<=(gK d:Int)/\(gK d:Int)<=hi:=by
 cases d with
 | int i =>
   simp [bG] at h
   refine ⟨?_,?_⟩
   ·show D.int i=D.int ((i.toNat:Nat):Int)
    rw [Int.toNat_of_nonneg (by omega)]
   ·show lo<=((i.toNat:Nat):Int)/\((i.toNat:Nat):Int)<=hi
    rw [Int.toNat_of_nonneg (by omega)]
    exact h
 |_=>cases h
noncomputable def iE:D->Bool
 |.tup [a,b,c]=>bG 2 4 a&&(bG 1 2 b&&(ik c&&(G5 c).all (iJ (gK a) (gK b))))
 |_=>false
theorem Ar {d:D}(h:fD 3 d=false):iE d=false:=by
 match d,h with
 |.tup [a,b,c],h=>cases h
 |.tup [],_=>rfl
 |.tup [_],_=>rfl
 |.tup [_,_],_=>rfl
 |.tup (_::_::_::_::r),_=>rfl
 |.non,_=>rfl
 |.bl _,_=>rfl
 |.int _,_=>rfl
 |.str _,_=>rfl
 |.lst _,_=>rfl
 |.frz _,_=>rfl
 |.cell _,_=>rfl
 |.fn _,_=>rfl
 |.exc _ _,_=>rfl
structure HY (P:Nat->Option Df):Prop where
 is_between:P 0=some ⟨3,3,eP⟩
 is_word:P 1=some ⟨2,2,jv⟩
 is_place:P 2=some ⟨2,2,iM⟩
 is_cost:P 3=some ⟨1,1,jw⟩
 is_tuple_of:P 4=some ⟨2,2,fy⟩
 is_table:P 5=some ⟨2,2,iL⟩
 is_double_table:P 6=some ⟨2,2,dH⟩
 is_turn:P 7=some ⟨3,6,fP⟩
 is_join:P 8=some ⟨3,7,fR⟩
 is_move:P 9=some ⟨3,6,fQ⟩
 is_put:P 10=some ⟨3,6,gP⟩
 is_deed:P 11=some ⟨3,5,fS⟩
 is_machine:P 12=some ⟨1,4,eO⟩
theorem mC (f:D->Bool):∀ds:List D,boolsOf (ds.map fun d=>.bl (f d))=some (ds.map f)
 |[]=>rfl
 |d::r=>by simp [boolsOf,mC f r]
theorem all_eq {w:GW}{ge:GE}{Z:Env}{M:Mem}{ds:List D}(f:D->Bool)(hw:ag (w Z M) fun wk M'=>M'=M/\wk M=some ds)(hz:ds.length<=sz)(he:∀d∈ds,ge (some d::Z) M=.ok (.bl (f d)) M) :
 aV .all (ae (bI false 1 (.one 0) w (bH ge)) ah) Z M=.ok (.bl (ds.all f)) M:=by
 refine av ?_
 simp only [fv,bp,eL,bO]
 refine aT hw fun wk M' ⟨e1,e2⟩=>?_
 subst e1
 refine fO (fun d=>.bl (f d)) hz e2 (fun d hd=>⟨some d::Z,rfl,he d hd⟩) ?_
 simp only [bQ,Md,EM]
 refine ⟨hz,_,mC f ds,?_,trivial⟩
 congr 1
 rw [List.all_map];rfl
theorem AH {k L:Nat}{x:D}(hx:Th k L x){t:Ty}(h:((¬ ∃s,x=.str s)/\t=.str\/(¬ ∃s,x=.tup s)/\t=.tuple)):dA t x=some false:=by
 rcases h with ⟨h,rfl⟩|⟨h,rfl⟩<;>cases x<;>first|rfl|exact absurd ⟨_,rfl⟩ h|(cases k<;>exact hx.elim)
section
variable {P:Nat->Option Df}(h:HY P){M:Mem}{k L:Nat}{d:D}
include h
theorem jH (n:Nat)(hd:Th k L d)(lo hi:Int):ak P (n+1) 0 [d,.int lo,.int hi] M=.ok (.bl (bG lo hi d)) M:=by
 cases d with
 | int t =>
   refine av (aA h.is_between rfl ?_)
   simp [eP,dA,bG]
   by_cases h1:lo<=t<;>simp [h1]<;>omega
 |fn j=>cases k<;>exact hd.elim
 |exc y p=>cases k<;>exact hd.elim
 |_=>exact av (aA h.is_between rfl (cP rfl))
theorem rj (n:Nat){w:Nat}(hd:Th k L d):ak P (n+2) 1 [nD w,d] M=.ok (.bl (bG 0 ((w:Int)-1) d)) M:=by
 refine av (aA h.is_word rfl ?_)
 simp [jv,jH h _ hd]
theorem fH (n:Nat){w:Nat}(hd:Th k L d):ak P (n+2) 2 [nD w,d] M=.ok (.bl (bG 0 ((w:Int)-1) d)) M:=by
 refine av (aA h.is_place rfl ?_)
 simp [iM,jH h _ hd]
theorem j5 (n:Nat)(hd:Th k L d):ak P (n+2) 3 [d] M=.ok (.bl (bG 1 3 d)) M:=by
 refine av (aA h.is_cost rfl ?_)
 simp [jw,jH h _ hd]
theorem lJ (n:Nat){w:Nat}(hd:Th k L d):ak P (n+1) 4 [nD w,d] M=.ok (.bl (fD w d)) M:=by
 refine av (aA h.is_tuple_of rfl ?_)
 cases d with
 |fn j=>cases k<;>exact hd.elim
 |exc y p=>cases k<;>exact hd.elim
 | tup ds =>
   simp [fy,dA,fD]
   by_cases e:ds.length=w
   ·simp [e]
   ·have:¬ ((ds.length:Int)=(w:Int)):=by omega
    simp [e,this]
 |_=>exact cP rfl
theorem tX (n:Nat){w:Nat}(hd:Th k L d)(hL:L<=100):ak P (n+3) 5 [nD w,d] M=.ok (.bl (j3 w d)) M:=by
 refine av (aA h.is_table rfl ?_)
 have e:=lJ h (n+1) (w:=w) (M:=M) hd
 simp only [iL,aX,d5,Cd,je,bp,bO,bT,Nd,List.map_nil,List.cons_append,Oa,Oe,Of,Option.getD_some,Option.some.injEq,exists_eq_left']
 rw [e]
 refine ⟨_,rfl,?_⟩
 cases d with
 | tup ds =>
   have ht:=hd.tup
   by_cases el:ds.length=w
   ·have:fD w (.tup ds)=true:=by simp [fD,el]
    rw [this,if_pos rfl,all_eq (ds:=ds) (bG 0 ((w:Int)-1)) (by simp;exact ⟨rfl,rfl⟩) (aG (by omega)) (fun d hd=>av (by simp [rj h n (ht.2 d hd)]))]
    exact ⟨by simp [j3,el],rfl⟩
   ·have:fD w (.tup ds)=false:=by simp [fD,el]
    rw [this,if_neg (by simp)]
    exact ⟨by simp [j3,el],rfl⟩
 |_=>exact ⟨rfl,rfl⟩
theorem zJ (n:Nat){w:Nat}(hd:Th k L d)(hL:L<=100):ak P (n+4) 6 [nD w,d] M=.ok (.bl (oo w d)) M:=by
 refine av (aA h.is_double_table rfl ?_)
 have e:=lJ h (n+2) (w:=w) (M:=M) hd
 simp only [dH,aX,d5,Cd,je,bp,bO,bT,Nd,List.map_nil,List.cons_append,Oa,Oe,Of,Option.getD_some,Option.some.injEq,exists_eq_left']
 rw [e]
 refine ⟨_,rfl,?_⟩
 cases d with
 | tup ds =>
   have ht:=hd.tup
   by_cases el:ds.length=w
   ·have:fD w (.tup ds)=true:=by simp [fD,el]
    rw [this,if_pos rfl,all_eq (ds:=ds) (j3 w) (by simp;exact ⟨rfl,rfl⟩) (aG (by omega)) (fun d hd=>av (by simp [tX h n (ht.2 d hd) hL]))]
    exact ⟨by simp [oo,el],rfl⟩
   ·have:fD w (.tup ds)=false:=by simp [fD,el]
    rw [this,if_neg (by simp)]
    exact ⟨by simp [oo,el],rfl⟩
 |_=>exact ⟨rfl,rfl⟩
omit h in
theorem oj {j c:Nat}{ds:List D}{Z:Env}(e:Z[j]?.getD none=some (.tup ds))(hc:ds.length≠c):(aE (aU .ne (aV .len (ae (aa j) ah)) (gC (.int (c:Int)))):GT) Z M=.ok true M:=by
 rw [IT (iF e) rfl,MP.mpr (by omega)]
 rfl
theorem zB (n:Nat){w p:Nat}{ds:List D}(hd:∀d∈ds,Th k L d)(hL:L<=100)(hl:ds.length<=100):ak P (n+4) 7 [nD w,nD p,.tup ds] M=.ok (.bl (qE w p ds)) M:=by
 refine av (aA h.is_turn rfl ?_)
 match ds,hd,hl with
 | [a, t, c], hd, _ =>
   show ag (fP (ak P (n+3)) [some (nD w),some (nD p),some (.tup [a,t,c]),none,none,none] M) _
   unfold fP
   refine bg rfl (cM rfl ?_)
   show ag _ _
   exact c8 (jg (iK rfl rfl (fH h (n+1) (hd a (.head _)))) fun _=>jg (iK rfl rfl (tX h n (hd t (.tail _ (.head _))) hL)) fun _=>qO rfl (j5 h (n+1) (hd c (.tail _ (.tail _ (.head _)))))) ⟨rfl,rfl⟩
 |[],_,_=>exact cP rfl
 |[_],_,_=>exact cP rfl
 |[_,_],_,_=>exact cP rfl
 | a :: b :: c :: d :: r, _, _ =>
   show ag (fP (ak P (n+3)) [some (nD w),some (nD p),some (.tup (a::b::c::d::r)),none,none,none] M) _
   exact jR (oj (c:=3) (ds:=a::b::c::d::r) rfl (fun z=>by simp at z)) rfl ⟨rfl,rfl⟩
theorem zI (n:Nat){w p:Nat}{ds:List D}(hd:∀d∈ds,Th k L d)(hL:L<=100)(hl:ds.length<=100):ak P (n+5) 8 [nD w,nD p,.tup ds] M=.ok (.bl (qL w p ds)) M:=by
 refine av (aA h.is_join rfl ?_)
 match ds,hd,hl with
 | [a, o, t, c], hd, _ =>
   show ag (fR (ak P (n+4)) [some (nD w),some (nD p),some (.tup [a,o,t,c]),none,none,none,none] M) _
   unfold fR
   refine bg rfl (cM rfl ?_)
   refine bS (BJ (jO (bX (iK rfl rfl (fH h (n+2) (hd a (.head _)))))) (jO (bX (iK rfl rfl (fH h (n+2) (hd o (.tail _ (.head _)))))))) (fun e=>?_) fun e=>?_
   ·refine c8 (v:=.bl false) rfl ⟨?_,rfl⟩
    show D.bl false=.bl (_&&(_&&_))
    cases q:bG 0 ((p:Int)-1) a with
    |false=>rfl
    | true =>
      rw [q] at e
      cases q2:bG 0 ((p:Int)-1) o with
      |false=>rfl
      |true=>rw [q2] at e;cases e
   ·refine c8 (jg (iK rfl rfl (zJ h n (hd t (.tail _ (.tail _ (.head _)))) hL)) fun _=>qO rfl (j5 h (n+2) (hd c (.tail _ (.tail _ (.tail _ (.head _))))))) ⟨?_,rfl⟩
    show _=D.bl (bG 0 ((p:Int)-1) a&&(bG 0 ((p:Int)-1) o&&_))
    cases q:bG 0 ((p:Int)-1) a with
    |false=>rw [q] at e;cases e
    | true =>
      rw [q] at e
      cases q2:bG 0 ((p:Int)-1) o with
      |false=>rw [q2] at e;cases e
      |true=>rfl
 |[],_,_=>exact cP rfl
 |[_],_,_=>exact cP rfl
 |[_,_],_,_=>exact cP rfl
 |[_,_,_],_,_=>exact cP rfl
 | a :: b :: c :: d :: e :: r, _, _ =>
   show ag (fR (ak P (n+4)) [some (nD w),some (nD p),some (.tup (a::b::c::d::e::r)),none,none,none,none] M) _
   exact jR (oj (c:=4) (ds:=a::b::c::d::e::r) rfl (fun z=>by simp at z)) rfl ⟨rfl,rfl⟩
theorem zG (n:Nat){w p:Nat}{ds:List D}(hd:∀d∈ds,Th k L d)(hL:L<=100)(hl:ds.length<=100):ak P (n+3) 9 [nD w,nD p,.tup ds] M=.ok (.bl (qH w p ds)) M:=by
 refine av (aA h.is_move rfl ?_)
 match ds,hd,hl with
 | [a, t, c], hd, _ =>
   show ag (fQ (ak P (n+2)) [some (nD w),some (nD p),some (.tup [a,t,c]),none,none,none] M) _
   unfold fQ
   refine bg rfl (cM rfl ?_)
   show ag _ _
   exact c8 (jg (iK rfl rfl (fH h n (hd a (.head _)))) fun _=>jg (iK rfl rfl (fH h n (hd t (.tail _ (.head _))))) fun _=>qO rfl (j5 h n (hd c (.tail _ (.tail _ (.head _)))))) ⟨rfl,rfl⟩
 |[],_,_=>exact cP rfl
 |[_],_,_=>exact cP rfl
 |[_,_],_,_=>exact cP rfl
 | a :: b :: c :: d :: r, _, _ =>
   show ag (fQ (ak P (n+2)) [some (nD w),some (nD p),some (.tup (a::b::c::d::r)),none,none,none] M) _
   exact jR (oj (c:=3) (ds:=a::b::c::d::r) rfl (fun z=>by simp at z)) rfl ⟨rfl,rfl⟩
theorem De (n:Nat){w p:Nat}{ds:List D}(hd:∀d∈ds,Th k L d)(hL:L<=100)(hl:ds.length<=100):ak P (n+3) 10 [nD w,nD p,.tup ds] M=.ok (.bl (ve w p ds)) M:=by
 refine av (aA h.is_put rfl ?_)
 match ds,hd,hl with
 | [a, t, c], hd, _ =>
   show ag (gP (ak P (n+2)) [some (nD w),some (nD p),some (.tup [a,t,c]),none,none,none] M) _
   unfold gP
   refine bg rfl (cM rfl ?_)
   show ag _ _
   exact c8 (jg (iK rfl rfl (fH h n (hd a (.head _)))) fun _=>jg (iK rfl rfl (rj h n (hd t (.tail _ (.head _))))) fun _=>qO rfl (j5 h n (hd c (.tail _ (.tail _ (.head _)))))) ⟨rfl,rfl⟩
 |[],_,_=>exact cP rfl
 |[_],_,_=>exact cP rfl
 |[_,_],_,_=>exact cP rfl
 | a :: b :: c :: d :: r, _, _ =>
   show ag (gP (ak P (n+2)) [some (nD w),some (nD p),some (.tup (a::b::c::d::r)),none,none,none] M) _
   exact jR (oj (c:=3) (ds:=a::b::c::d::r) rfl (fun z=>by simp at z)) rfl ⟨rfl,rfl⟩
omit h in
theorem xI {w p:Nat}{ds:List D}:cX w p "turn" ds=qE w p ds:=by unfold cX;rw [if_pos rfl]
omit h in
theorem xH {w p:Nat}{ds:List D}:cX w p "join" ds=qL w p ds:=by unfold cX;rw [if_neg (by decide +kernel),if_pos rfl]
omit h in
theorem xG {w p:Nat}{ds:List D}:cX w p "move" ds=qH w p ds:=by unfold cX;rw [if_neg (by decide +kernel),if_neg (by decide +kernel),if_pos rfl]
omit h in
theorem xF {w p:Nat}{ds:List D}:cX w p "put" ds=ve w p ds:=by unfold cX;rw [if_neg (by decide +kernel),if_neg (by decide +kernel),if_neg (by decide +kernel),if_pos rfl]
omit h in
theorem Gb {w p:Nat}{ds:List D}{s:Str}(e1:¬ s="turn")(e2:¬ s="join")(e3:¬ s="move")(e4:¬ s="put"):cX w p s ds=false:=by unfold cX;rw [if_neg e1,if_neg e2,if_neg e3,if_neg e4]
omit h in
theorem va {s:Str}(e1:¬ s="turn")(e2:¬ s="join")(e3:¬ s="move")(e4:¬ s="put"):cf.lookup s=none:=by
 unfold cf
 simp only [List.lookup,MP.mpr e1,MP.mpr e2,MP.mpr e3,MP.mpr e4]
theorem md (n:Nat){w p f:Nat}{s:Str}{ds:List D}{v:Bool}(lk:cf.lookup s=some f)(q:ak P (n+5) f [nD w,nD p,.tup ds] M=.ok (.bl v) M):ak P (n+6) 11 [nD w,nD p,.tup (.str s::ds)] M=.ok (.bl v) M:=by
 refine av (aA h.is_deed rfl ?_)
 simp [-List.lookup_isSome_iff,fS,dA,bz,lk,fE,aI,c9,cut,q]
theorem A0 (n:Nat){w p:Nat}{s:Str}{ds:List D}(lk:cf.lookup s=none):ak P (n+6) 11 [nD w,nD p,.tup (.str s::ds)] M=.ok (.bl false) M:=by
 refine av (aA h.is_deed rfl ?_)
 have e:(cf.lookup s).isSome=false:=by rw [lk];rfl
 simp [-List.lookup_isSome_iff,-List.lookup_eq_none_iff,-Option.isSome_eq_false_iff,fS,dA,bz,e]
 exact lk
theorem zL (n:Nat){w p:Nat}(hd:Th k L d)(hL:L<=100):ak P (n+6) 11 [nD w,nD p,d] M=.ok (.bl (iJ w p d)) M:=by
 cases d with
 |fn j=>cases k<;>exact hd.elim
 |exc y p=>cases k<;>exact hd.elim
 | tup xs =>
   have ht:=hd.tup
   cases xs with
   |nil=>exact av (aA h.is_deed rfl (cP rfl))
   | cons x ds =>
     have hx:=ht.2 x My
     have hds:∀d∈ds,Th k L d:=fun d hd=>ht.2 d (Mh _ hd)
     have hl:ds.length<=100:=by have:=ht.1;simp at this;omega
     by_cases hs:∃s,x=.str s
     ·obtain ⟨s,rfl⟩:=hs
      show _=Res.ok (D.bl (cX w p s ds)) M
      by_cases e1:s="turn"
      ·subst e1
       rw [xI];exact md h n KN (zB h (n+1) hds hL hl)
      by_cases e2:s="join"
      ·subst e2
       rw [xH];exact md h n KJ (zI h n hds hL hl)
      by_cases e3:s="move"
      ·subst e3
       rw [xG];exact md h n KI (zG h (n+2) hds hL hl)
      by_cases e4:s="put"
      ·subst e4
       rw [xF];exact md h n KH (De h (n+2) hds hL hl)
      rw [Gb e1 e2 e3 e4]
      exact A0 h n (va e1 e2 e3 e4)
     ·have e1:iJ w p (.tup (x::ds))=false:=by cases x<;>first|rfl|exact absurd ⟨_,rfl⟩ hs
      have e2:=AH hx (t:=.str) (.inl ⟨hs,rfl⟩)
      rw [e1]
      refine av (aA h.is_deed rfl ?_)
      have e3:dA .tuple (.tup (x::ds))=some true:=rfl
      simp [fS,bz,e2,e3]
 |_=>exact av (aA h.is_deed rfl (cP rfl))
theorem As (n:Nat)(hd:Th k L d)(hn:fD 3 d=false):ak P (n+7) 12 [d] M=.ok (.bl false) M:=by
 refine av (aA h.is_machine rfl ?_)
 have e:ak P (n+6) 4 [.int 3,d] M=.ok (.bl (fD 3 d)) M:=lJ h (n+5) (w:=3) (M:=M) hd
 rw [hn] at e
 simp [eO,e]
theorem IU (n:Nat){a b c:D}(hd:Th k L (.tup [a,b,c]))(hL:L<=100):ak P (n+7) 12 [.tup [a,b,c]] M=.ok (.bl (iE (.tup [a,b,c]))) M:=by
 refine av (aA h.is_machine rfl ?_)
 have ht:=hd.tup.2
 simp only [MJ,Ny,or_false,forall_eq_or_imp,forall_eq] at ht
 have e:ak P (n+6) 4 [.int 3,.tup [a,b,c]] M=.ok (.bl true) M:=lJ h (n+5) (w:=3) (M:=M) hd
 have b1:=jH h (n+5) (M:=M) ht.1 2 4
 have b2:=jH h (n+5) (M:=M) ht.2.1 1 2
 simp only [eO,aX,xo,d5,dQ,zr,fX,uV,nH,Ki,Fs,fo,je,bp,bO,bT,Hi,Nd,List.map_nil,List.cons_append,Oa,Oe,Of,Option.getD_some,Option.some.injEq,exists_eq_left']
 rw [e]
 refine ⟨_,rfl,?_⟩
 rw [if_neg (by simp)]
 refine ⟨_,_,rfl,rfl,_,rfl,?_⟩
 rw [b1]
 refine ⟨_,rfl,?_⟩
 by_cases c1:bG 2 4 a=false
 ·rw [c1,if_pos (by decide),if_pos trivial]
  exact ⟨by simp [iE,c1],rfl⟩
 have c1:bG 2 4 a=true:=by simpa using c1
 rw [c1,if_neg (by simp)]
 refine ⟨_,rfl,?_⟩
 rw [b2]
 refine ⟨_,rfl,?_⟩
 by_cases c2:bG 1 2 b=false
 ·rw [c2,if_pos (by decide)]
  exact ⟨by simp [iE,c2],rfl⟩
 have c2:bG 1 2 b=true:=by simpa using c2
 rw [c2,if_neg (by simp)]
 refine ⟨_,rfl,?_⟩
 obtain ⟨ea,_,_⟩:=uO c1 (by decide)
 obtain ⟨eb,_,_⟩:=uO c2 (by decide)
 cases c with
 |fn j=>exact absurd ht.2.2 (by cases k<;>exact id)
 |exc y p=>exact absurd ht.2.2 (by cases k<;>exact id)
 | tup ds =>
   have hc:=ht.2.2.tup
   refine ⟨true,rfl,true,rfl,?_⟩
   rw [if_neg (by simp)]
   simp only [Jg,fo]
   refine fv.mpr (bp.mpr (bT.mpr ⟨_,rfl,bO.mpr (Ec.mpr ⟨_,rfl,?_⟩)⟩))
   by_cases l1:(1:Int)<=(ds.length:Int)
   ·rw [decide_eq_true l1,if_pos (by decide)]
    refine ⟨_,rfl,_,rfl,?_⟩
    by_cases l6:(ds.length:Int)<=6
    ·rw [decide_eq_true l6,if_neg (by simp)]
     have lb:ik (.tup ds)=true:=by simp [ik];omega
     rw [all_eq (ds:=ds) (iJ (gK a) (gK b)) (by simp;exact ⟨rfl,rfl⟩) (aG (by omega)) (fun d hd=>av (by
      have q:=zL h n (w:=gK a) (p:=gK b) (M:=M) (hc.2 d hd) hL
      rw [<- ea,<- eb] at q
      simp [q]))]
     refine ⟨?_,rfl⟩
     show D.bl (ds.all (iJ (gK a) (gK b)))=D.bl (bG 2 4 a&&(bG 1 2 b&&(ik (.tup ds)&&ds.all (iJ (gK a) (gK b)))))
     rw [c1,c2,lb];simp
    ·rw [decide_eq_false l6,if_pos (by decide)]
     refine ⟨?_,rfl⟩
     have lb:ik (.tup ds)=false:=by simp [ik];omega
     simp [iE,lb]
   ·rw [decide_eq_false l1,if_neg (by simp)]
    refine ⟨_,rfl,?_⟩
    rw [if_pos (by decide)]
    refine ⟨?_,rfl⟩
    have lb:ik (.tup ds)=false:=by simp [ik];omega
    simp [iE,lb]
 | _ =>
   refine ⟨false,rfl,false,rfl,?_⟩
   rw [if_pos (by decide)]
   exact ⟨by simp [iE,ik],rfl⟩
theorem zH (n:Nat)(hd:Th k L d)(hL:L<=100):ak P (n+7) 12 [d] M=.ok (.bl (iE d)) M:=by
 by_cases hn:fD 3 d=false
 ·rw [As h n hd hn,Ar hn]
 ·match d,hd,hn with
  |.tup [a,b,c],hd,_=>exact IU h n hd hL
  |.tup [],_,hn=>exact absurd rfl hn
  |.tup [_],_,hn=>exact absurd rfl hn
  |.tup [_,_],_,hn=>exact absurd rfl hn
  |.tup (_::_::_::_::r),_,hn=>exact absurd (by simp [fD]) hn
  |.non,_,hn=>exact absurd rfl hn
  |.bl _,_,hn=>exact absurd rfl hn
  |.int _,_,hn=>exact absurd rfl hn
  |.str _,_,hn=>exact absurd rfl hn
  |.lst _,_,hn=>exact absurd rfl hn
  |.frz _,_,hn=>exact absurd rfl hn
  |.cell _,_,hn=>exact absurd rfl hn
  |.fn _,_,hn=>exact absurd rfl hn
  |.exc _ _,_,hn=>exact absurd rfl hn
omit h in
theorem cU {lo hi:Int}{n:Nat}(h1:lo<=(n:Int))(h2:(n:Int)<=hi):bG lo hi (nD n)=true:=by simp [bG];omega
omit h in
theorem q8 {w:Nat}{t:List Nat}(ht:iR w t):j3 w (aM t)=true:=by
 have e:(t.map nD).all (bG 0 ((w:Int)-1))=true:=by
  rw [Mp]
  intro x hx
  obtain ⟨i,hi,rfl⟩:=MR.mp hx
  have:=ht.2 i hi
  exact cU (by omega) (by omega)
 show ((t.map nD).length==w&&(t.map nD).all (bG 0 ((w:Int)-1)))=true
 rw [e,Md,ht.1];simp
omit h in
theorem yA {w p:Nat}{d:aW}(hd:bY w p d):iJ w p d.d=true:=by
 cases d with
 | turn a t c =>
   obtain ⟨h1,h2,h3⟩:=hd
   unfold eU at h3
   show cX w p "turn" _=true
   rw [xI]
   simp only [qE]
   rw [cU (by omega) (by omega),q8 h2,cU (by omega) (by omega)];rfl
 | join a o t c =>
   obtain ⟨h1,h2,h3,h4⟩:=hd
   unfold eU at h4
   show cX w p "join" _=true
   rw [xH]
   simp only [qL]
   have e:oo w (.tup (t.map aM))=true:=by
    have e:(t.map aM).all (j3 w)=true:=by
     rw [Mp]
     intro x hx
     obtain ⟨i,hi,rfl⟩:=MR.mp hx
     exact q8 (h3.2 i hi)
    show ((t.map aM).length==w&&(t.map aM).all (j3 w))=true
    rw [e,Md,h3.1];simp
   rw [cU (by omega) (by omega),cU (by omega) (by omega),e,cU (by omega) (by omega)];rfl
 | move a o c =>
   obtain ⟨h1,h2,h3⟩:=hd
   unfold eU at h3
   show cX w p "move" _=true
   rw [xG]
   simp only [qH]
   rw [cU (by omega) (by omega),cU (by omega) (by omega),cU (by omega) (by omega)];rfl
 | put a o c =>
   obtain ⟨h1,h2,h3⟩:=hd
   unfold eU at h3
   show cX w p "put" _=true
   rw [xF]
   simp only [ve]
   rw [cU (by omega) (by omega),cU (by omega) (by omega),cU (by omega) (by omega)];rfl
omit h in
theorem xZ {m:aR}(hm:a8 m):iE m.d=true:=by
 have w2:=hm.w2
 have w4:=hm.w4
 have p1:=hm.p1
 have p2:=hm.p2
 have l1:=hm.d1
 have l6:=hm.d6
 have e:(m.deeds.map aW.d).all (iJ m.words m.places)=true:=by
  rw [Mp]
  intro x hx
  obtain ⟨i,hi,rfl⟩:=MR.mp hx
  exact yA (hm.ok i hi)
 have e2:ik (.tup (m.deeds.map aW.d))=true:=by simp [ik];omega
 show (bG 2 4 (nD m.words)&&(bG 1 2 (nD m.places)&&(ik (.tup (m.deeds.map aW.d))&&(m.deeds.map aW.d).all (iJ m.words m.places))))=true
 rw [cU (by omega) (by omega),cU (by omega) (by omega),e,e2];rfl
end
end LD
namespace LD
open PySem
noncomputable def tQ:Nat->Nat->D->Bool
 |_,_,.non=>true
 |_,_,.bl _=>true
 |_,_,.int _=>true
 |_,L,.str x=>decide (x.cps.size<=L)&&x.cps.all (· < 0x110000)
 |n+1,L,.tup ds=>decide (ds.length<=L)&&ds.all (tQ n L)
 |n+1,L,.lst ds=>decide (ds.length<=L)&&ds.all (tQ n L)
 |_,_,_=>false
theorem qZ:∀{n L:Nat}{d:D},tQ n L d=true->Th n L d
 |n,L,.non,_=>by cases n<;>trivial
 |n,L,.bl _,_=>by cases n<;>trivial
 |n,L,.int _,_=>by cases n<;>trivial
 | n, L, .str x, h => by
   have q:(decide (x.cps.size<=L)&&x.cps.all (· < 0x110000))=true:=by cases n<;>exact h
   simp only [L6,decide_eq_true_eq] at q
   have q:x.cps.size<=L/\x.cps.all (· < 0x110000)=true:=q
   cases n<;>exact q
 | n + 1, L, .tup ds, h => by
   have h:(decide (ds.length<=L)&&ds.all (tQ n L))=true:=h
   simp only [L6,decide_eq_true_eq] at h
   exact ⟨h.1,fun d hd=>qZ (Mp.mp h.2 d hd)⟩
 | n + 1, L, .lst ds, h => by
   have h:(decide (ds.length<=L)&&ds.all (tQ n L))=true:=h
   simp only [L6,decide_eq_true_eq] at h
   exact ⟨h.1,fun d hd=>qZ (Mp.mp h.2 d hd)⟩
 |0,L,.tup ds,h=>by cases h
 |0,L,.lst ds,h=>by cases h
 |n,L,.frz _,h=>by cases n<;>cases h
 |n,L,.cell _,h=>by cases n<;>cases h
 |n,L,.fn _,h=>by cases n<;>cases h
 |n,L,.exc _ _,h=>by cases n<;>cases h
theorem wJ {w:Nat}{t:List Nat}(h:iR w t)(w4:w<=4):Th 2 6 (aM t):=by
 refine ⟨by have:=h.1;simp;omega,fun d hd=>?_⟩
 obtain ⟨i,_,rfl⟩:=MR.mp hd
 trivial
theorem qG {n:Nat}{z:Str}(h:tQ 0 6 (.str z)=true):Th n 6 (.str z):=(qZ h).mono (NJ n) (L7 6)
theorem gn {n:Nat}{i:Int}:Th n 6 (.int i):=by cases n<;>trivial
theorem Ez {w p:Nat}{d:aW}(h:bY w p d)(w4:w<=4):Th 4 6 d.d:=by
 cases d with
 | turn a t c =>
   refine ⟨by simp,fun x hx=>?_⟩
   simp only [MJ,Ny,or_false] at hx
   rcases hx with rfl|rfl|rfl|rfl
   ·exact qG (by decide +kernel)
   ·exact gn
   ·exact (wJ h.2.1 w4).mono (by decide) (by decide)
   ·exact gn
 | join a o t c =>
   refine ⟨by simp,fun x hx=>?_⟩
   simp only [MJ,Ny,or_false] at hx
   rcases hx with rfl|rfl|rfl|rfl|rfl
   ·exact qG (by decide +kernel)
   ·exact gn
   ·exact gn
   ·refine ⟨by have:=h.2.2.1.1;simp;omega,fun y hy=>?_⟩
    obtain ⟨z,hz,rfl⟩:=MR.mp hy
    exact wJ (h.2.2.1.2 z hz) w4
   ·exact gn
 | move a o c =>
   refine ⟨by simp,fun x hx=>?_⟩
   simp only [MJ,Ny,or_false] at hx
   rcases hx with rfl|rfl|rfl|rfl
   ·exact qG (by decide +kernel)
   all_goals exact gn
 | put a o c =>
   refine ⟨by simp,fun x hx=>?_⟩
   simp only [MJ,Ny,or_false] at hx
   rcases hx with rfl|rfl|rfl|rfl
   ·exact qG (by decide +kernel)
   all_goals exact gn
theorem Eb {m:aR}(h:a8 m):Th 6 6 m.d:=by
 refine ⟨by simp,fun x hx=>?_⟩
 simp only [MJ,Ny,or_false] at hx
 rcases hx with rfl|rfl|rfl
 ·exact gn
 ·exact gn
 ·refine ⟨by have:=h.d6;simpa using this,fun y hy=>?_⟩
  obtain ⟨z,hz,rfl⟩:=MR.mp hy
  exact Ez (h.ok z hz) h.w4
theorem HasM0.q {P:Nat->Option Df}(h:HasM0 P):HY P:=⟨h.is_between,h.is_word,h.is_place,h.is_cost,h.is_tuple_of,h.is_table,h.is_double_table,h.is_turn,h.is_join,h.is_move,h.is_put,h.is_deed,h.is_machine⟩
end LD
namespace LD
open PySem
structure Sub (M M':Mem):Prop where
 len:M.length<=M'.length
 at':∀k,k<M.length->M'[k]?=M[k]?
theorem Sub.refl {M:Mem}:Sub M M:=⟨L7 _,fun _ _=>rfl⟩
theorem Sub.trans {M M1 M2:Mem}(a:Sub M M1)(b:Sub M1 M2):Sub M M2:=⟨Mb a.len b.len,fun k hk=>(b.at' k (Mj hk a.len)).trans (a.at' k hk)⟩
theorem Sub.app {M X:Mem}:Sub M (M++X):=⟨by simp,fun k hk=>Mw hk⟩
theorem Sub.get {k:Nat}{M M':Mem}{ds:List D}(h:Sub M M')(e:M[k]?=some ds):M'[k]?=some ds:=by rw [h.at' k (LZ.mp e).1];exact e
theorem Sub.setq {M M':Mem}{q:Nat}{ds:List D}(h:Sub M M')(hq:M.length<=q):Sub M (M'.set q ds):=⟨by simpa using h.len,fun k hk=>by rw [Mc (by omega)];exact h.at' k hk⟩
theorem vS {tg:cD}{w:Walk}{ge:GE}{ds:List D}{ρ0:Env}{M:Mem}{acc0:List D}{kl:List D->Mem->Prop}(f:D->D)(hz:acc0.length+ds.length<=sz)(hw:w M=some ds)(hs:∀d∈ds,∃ρ1,b7 tg d ρ0=some ρ1/\ge ρ1 M=.ok (f d) M)(hk:kl (acc0++ds.map f) M) :
 ag (c6 (dn tg (bH ge) ρ0) w acc0 M) kl:=by
 refine iV (ds:=ds) (fun i acc M'=>M'=M/\acc=acc0++(ds.take i).map f) (fun i acc M' h=>by rw [h.1];exact hw) ⟨rfl,by simp⟩ ?_ ?_
 ·rintro i d acc M' hd ⟨rfl,rfl⟩
  obtain ⟨ρ1,e1,e2⟩:=hs d (Np hd)
  have hi:i<ds.length:=(LZ.mp hd).1
  simp only [dn,bq,i6,e1,Ck]
  refine ⟨ρ1,rfl,?_⟩
  rw [e2]
  refine ⟨by simp;omega,rfl,?_⟩
  rw [NN,hd]
  simp
 ·rintro acc M' ⟨rfl,rfl⟩
  simpa using hk
theorem oZ {α β:Type}(f:α->List β)(n:Nat):∀(ds:List α),(∀d∈ds,(f d).length<=n)->(ds.flatMap f).length<=ds.length*n
 |[],_=>by simp
 | d :: r, h => by
   have h1:=h d My
   have h2:=oZ f n r fun d hd=>h d (Mh _ hd)
   simp only [List.flatMap_cons,Mz,MT,Nat.succ_mul]
   omega
theorem vU {t u:cD}{w:Walk}{gw2:GW}{ge:GE}{ds:List D}{ρ0:Env}{M:Mem}{kl:List D->Mem->Prop}(its:D->List D)(f:D->D->D)(n:Nat)(hn:∀d∈ds,(its d).length<=n)(hz:ds.length*n<=sz)(hw:w M=some ds)
 (hs:∀d∈ds,∃ρ1,b7 t d ρ0=some ρ1/\∃w2,gw2 ρ1 M=.ok w2 M/\w2 M=some (its d)/\∀e∈its d,∃ρ2,b7 u e ρ1=some ρ2/\ge ρ2 M=.ok (f d e) M) (hk:kl (ds.flatMap fun d=>(its d).map (f d)) M) :
 ag (c6 (dn t (sD u gw2 (bH ge)) ρ0) w [] M) kl:=by
 refine iV (ds:=ds) (fun i acc M'=>M'=M/\acc=(ds.take i).flatMap fun d=>(its d).map (f d)) (fun i acc M' h=>by rw [h.1];exact hw) ⟨rfl,by simp⟩ ?_ ?_
 ·rintro i d acc M' hd ⟨rfl,rfl⟩
  obtain ⟨ρ1,e1,w2,e2,e3,e4⟩:=hs d (Np hd)
  have hi:i<ds.length:=(LZ.mp hd).1
  simp only [dn,bq,i6,e1,sD]
  refine ⟨ρ1,rfl,?_⟩
  rw [e2]
  show ag (c6 (dn u (bH ge) ρ1) w2 _ M') _
  have e5:(ds.take (i+1)).flatMap (fun d=>(its d).map (f d))=(ds.take i).flatMap (fun d=>(its d).map (f d))++(its d).map (f d):=by
   rw [NN,hd];simp
  have l1:=oZ (fun d=>(its d).map (f d)) n (ds.take (i+1)) (fun d hd=>by simpa using hn d (Ni hd))
  rw [e5] at l1
  simp only [Mz,Md,Nz] at l1
  refine vS (f d) ?_ e3 e4 ⟨rfl,e5.symm⟩
  have:(min (i+1) ds.length)*n<=ds.length*n:=Nat.mul_le_mul_right _ (Nat.min_le_right _ _)
  omega
 ·rintro acc M' ⟨rfl,rfl⟩
  simpa using hk
noncomputable def vM (w:Nat)(l:List (List Nat)):List (List Nat):=l.flatMap fun s=>(List.range w).map fun x=>s++[x]
noncomputable def dG (w:Nat):Nat->List (List Nat)
 |0=>[[]]
 |p+1=>vM w (dG w p)
noncomputable def bU (m:aR):List (List Nat):=dG m.words m.places
noncomputable def iu (m:aR)(s:List Nat):Prop:=s.length=m.places/\∀x∈s,x<m.words
theorem sX {w p:Nat}:∀s∈dG w p,s.length=p/\∀x∈s,x<w:=by
 induction p with
 |zero=>intro s hs;simp [dG] at hs;subst hs;simp
 | succ p ih =>
   intro s hs
   simp only [dG,vM,List.mem_flatMap,List.mem_map,List.mem_range] at hs
   obtain ⟨t,ht,x,hx,rfl⟩:=hs
   obtain ⟨h1,h2⟩:=ih t ht
   refine ⟨by simp [h1],fun y hy=>?_⟩
   rcases MQ.mp hy with z|z
   ·exact h2 y z
   ·simp at z;omega
theorem ml {m:aR}:∀s∈bU m,iu m s:=sX
theorem ju {w:Nat}(hw:w<=4):∀p≤2,(dG w p).length<=4^p
 |0,_=>by simp [dG]
 | p + 1, hp => by
   have:=ju hw p (by omega)
   have l:=oZ (fun s:List Nat=>(List.range w).map fun x=>s++[x]) 4 (dG w p) (fun d hd=>by simpa using hw)
   simp only [dG,vM]
   calc _<=(dG w p).length*4:=l
    _<=4^p*4:=Nat.mul_le_mul_right _ this
    _=4^(p+1):=by rw [Nat.pow_succ]
theorem sW {m:aR}(hm:a8 m):(bU m).length<=16:=by
 have h:=ju hm.w4 m.places hm.p2
 have h1:=hm.p1
 have h2:=hm.p2
 have:m.places=1\/m.places=2:=by omega
 rcases this with e|e<;>rw [e] at h<;>unfold bU<;>rw [e]<;>omega
noncomputable def dJ:aW->List Nat->Nat
 |.turn a t _,s=>t.getD (s.getD a 0) 0
 |.join a o t _,s=>(t.getD (s.getD a 0) []).getD (s.getD o 0) 0
 |.move _ o _,s=>s.getD o 0
 |.put _ x _,_=>x
noncomputable def aW.at':aW->Nat
 |.turn a _ _=>a
 |.join a _ _ _=>a
 |.move a _ _=>a
 |.put a _ _=>a
noncomputable def gu (d:aW)(s:List Nat):List Nat:=s.take d.at'++[dJ d s]++s.drop (d.at'+1)
theorem getD_mem {α:Type}{l:List α}{i:Nat}{d:α}(h:i<l.length):l.getD i d∈l:=by
 rw [Nj,Mr h];exact NO h
theorem vm {m:aR}{d:aW}{s:List Nat}(hd:bY m.words m.places d)(hs:iu m s):dJ d s<m.words:=by
 obtain ⟨hl,hx⟩:=hs
 cases d with
 | turn a t c =>
   obtain ⟨h1,h2,h3⟩:=hd
   have:=hx _ (getD_mem (d:=0) (show a<s.length by omega))
   exact h2.2 _ (getD_mem (by rw [h2.1];exact this))
 | join a o t c =>
   obtain ⟨h1,h2,h3,h4⟩:=hd
   have a1:=hx _ (getD_mem (d:=0) (show a<s.length by omega))
   have a2:=hx _ (getD_mem (d:=0) (show o<s.length by omega))
   have a3:=h3.2 _ (getD_mem (d:=[]) (show s.getD a 0<t.length by rw [h3.1];exact a1))
   exact a3.2 _ (getD_mem (by rw [a3.1];exact a2))
 |move a o c=>exact hx _ (getD_mem (by obtain ⟨h1,h2,h3⟩:=hd;omega))
 |put a x c=>exact hd.2.1
theorem Cm {w p:Nat}{d:aW}(hd:bY w p d):d.at'<p:=by cases d<;>exact hd.1
theorem yz {m:aR}{d:aW}{s:List Nat}(hd:bY m.words m.places d)(hs:iu m s):iu m (gu d s):=by
 have h1:=Cm hd
 have h2:=vm hd hs
 obtain ⟨hl,hx⟩:=hs
 refine ⟨by simp [gu];omega,fun x hm=>?_⟩
 simp only [gu,List.mem_append,List.mem_singleton] at hm
 rcases hm with (z|z)|z
 ·exact hx x (Ni z)
 ·omega
 ·exact hx x (NX z)
noncomputable def bj (m:aR)(r:List Nat):Prop:=r.length<=40/\∀i∈r,i<m.deeds.length
noncomputable def eB (m:aR)(i:Nat):aW:=m.deeds.getD i (.put 0 0 1)
noncomputable def cJ (m:aR):List Nat->List Nat->List Nat
 |[],s=>s
 |i::r,s=>cJ m r (gu (eB m i) s)
noncomputable def cV (m:aR):List Nat->List Nat->List (List Nat)
 |[],s=>[s]
 |i::r,s=>s::cV m r (gu (eB m i) s)
theorem nF {m:aR}(hm:a8 m){i:Nat}(hi:i<m.deeds.length):bY m.words m.places (eB m i):=hm.ok _ (getD_mem hi)
theorem pb {m:aR}(hm:a8 m):∀{r:List Nat}{s:List Nat},(∀i∈r,i<m.deeds.length)->iu m s->iu m (cJ m r s)
 |[],s,_,h=>h
 |i::r,s,hr,h=>pb (r:=r) hm (fun j hj=>hr j (Mh _ hj)) (yz (nF hm (hr i My)) h)
theorem pR {m:aR}:∀(r:List Nat) (i:Nat) (s:List Nat),cV m (r++[i]) s=cV m r s++[gu (eB m i) (cJ m r s)]
 |[],i,s=>rfl
 |j::r,i,s=>by simp [cV,cJ,pR r i]
theorem mQ {m:aR}:∀(r s:List Nat),(cV m r s).length=r.length+1
 |[],s=>rfl
 |i::r,s=>by simp [cV,mQ r]
theorem pS {m:aR}:∀(r s:List Nat),(cV m r s)[r.length]?=some (cJ m r s)
 |[],s=>rfl
 |i::r,s=>by simp [cV,cJ,pS r]
theorem mw {m:aR}(r s:List Nat):((bz (cV m r s).length (-1)).bind fun j=>Option.map aM (cV m r s)[j]?)=some (aM (cJ m r s)):=by
 rw [mQ,Ee (by omega)]
 show Option.map aM (cV m r s)[r.length+1-1]?=_
 rw [Nat.add_sub_cancel,pS]
 rfl
theorem zw {s:List Nat}{i:Nat}(hi:i<s.length):(bz (s.map nD).length (i:Int)).bind (fun j=>(s.map nD)[j]?)=some (nD (s.getD i 0)):=by
 rw [eK (by simpa using hi)]
 simp [Nj,hi]
noncomputable def az (r:List Nat):D:=.lst (r.map nD)
noncomputable def gY (m:aR)(r:List Nat):Nat:=(r.map fun i=>(eB m i).cost).sum
theorem Au {m:aR}{i:Nat}(hi:i<m.deeds.length):((bz (m.deeds.map aW.d).length (i:Int)).bind fun j=>(m.deeds.map aW.d)[j]?)=some (eB m i).d:=by
 rw [eK (by simpa using hi)]
 simp [eB,Nj,hi]
theorem BO {m:aR}{M:Mem}:cu m.d (.int 2) M=some (.tup (m.deeds.map aW.d)):=rfl
theorem sC {m:aR}{M:Mem}{i:Nat}(hi:i<m.deeds.length):cu (.tup (m.deeds.map aW.d)) (nD i) M=some (eB m i).d:=Au hi
theorem qe {d:aW}{M:Mem}:cu d.d (.int (-1)) M=some (nD d.cost):=by cases d<;>rfl
theorem jS {s:List Nat}{M:Mem}{i:Nat}(hi:i<s.length):cu (aM s) (nD i) M=some (nD (s.getD i 0)):=zw hi
theorem G9 {t:List (List Nat)}{M:Mem}{i:Nat}(hi:i<t.length):cu (.tup (t.map aM)) (nD i) M=some (aM (t.getD i [])):=by
 show (bz (t.map aM).length (i:Int)).bind (fun j=>(t.map aM)[j]?)=_
 rw [eK (by simpa using hi)]
 simp [Nj,hi]
noncomputable def bx (M:Mem)(x:D)(r:List Nat):Prop:=x=.lst (r.map nD)\/∃q,x=.cell q/\M[q]?=some (r.map nD)
theorem bx.l {M:Mem}{r:List Nat}:bx M (.lst (r.map nD)) r:=.inl rfl
theorem bx.c {M:Mem}{q:Nat}{r:List Nat}(h:M[q]?=some (r.map nD)):bx M (.cell q) r:=.inr ⟨q,rfl,h⟩
theorem bx.sub {M M':Mem}{x:D}{r:List Nat}(h:bx M x r)(s:Sub M M'):bx M' x r:=h.elim .inl fun ⟨q,e,g⟩=>.inr ⟨q,e,s.get g⟩
theorem bx.seq {M:Mem}{x:D}{r:List Nat}(h:bx M x r):bL M x=some (r.map nD):=by
 rcases h with rfl|⟨q,rfl,e⟩
 ·rfl
 ·exact e
theorem bx.is {M:Mem}{x:D}{r:List Nat}(h:bx M x r):cT x=true/\dD x=true/\dA .list x=some true:=by
 rcases h with rfl|⟨q,rfl,e⟩<;>exact ⟨rfl,rfl,rfl⟩
theorem bx.len {M:Mem}{x:D}{r:List Nat}{k:D->Mem->Prop}(h:bx M x r):ag (dq .len [x] M) k↔k (.int r.length) M:=by
 rcases h with rfl|⟨q,rfl,e⟩
 ·show k (.int (r.map nD).length) M↔_
  simp
 ·show ag (match M[q]? with|some xs=>_|none=>_) k↔_
  rw [e];simp
theorem bx.list {M:Mem}{x:D}{r:List Nat}{m:Bool}{k:D->Mem->Prop}(h:bx M x r):ag (dq (.list m) [x] M) k↔ag (a9 m (r.map nD) M) k:=by
 rcases h with rfl|⟨q,rfl,e⟩
 ·exact Nh
 ·show ag (match M[q]? with|some xs=>_|none=>_) k↔_
  rw [e]
theorem bx.non {M:Mem}{x:D}{r:List Nat}(h:bx M x r):gX x=false:=by
 rcases h with rfl|⟨q,rfl,e⟩<;>rfl
theorem sA (f:Nat->Nat):∀(r:List Nat),∃bs,intsOf (r.map fun i=>nD (f i))=some bs/\bs.sum=(((r.map f).sum:Nat):Int)
 |[]=>⟨[],rfl,rfl⟩
 | i :: r => by
   obtain ⟨bs,e1,e2⟩:=sA f r
   exact ⟨(f i:Int)::bs,by simp [intsOf,e1],by simp [e2]⟩
section
variable {P:Nat->Option Df}(h:HasM0 P){M:Mem}
include h
theorem rB (n:Nat){m:aR}(hm:a8 m):ak P (n+8) 13 [m.d] M=.ok .non M:=by
 refine av (aA h.need_machine rfl ?_)
 simp [gO,zH h.q n (Eb hm) (by decide),xZ hm]
theorem t7 (h15:P 15=some ⟨1,6,dm⟩)(n:Nat){m:aR}(hm:a8 m):ak P (n+9) 15 [m.d] M=.ok (.lst ((bU m).map aM)) M:=by
 refine av (aA h15 rfl ?_)
 have w4:=hm.w4
 have p2:=hm.p2
 simp [dm,rB h n hm]
 simp [aR.d,eI]
 refine ⟨by decide,by omega,?_⟩
 refine fN (ds:=(List.range m.places).map fun (k:Nat)=>D.int (k:Int)) (fun i Z M'=>M'=M/\∃a,Z=[some m.d,some (nD m.words),some (nD m.places),some (.tup (m.deeds.map aW.d)),some (.lst ((dG m.words i).map aM)),a]) (fun _ _ _ _=>rfl) ⟨rfl,none,by simp [aR.d,dG,aM]⟩ ?_ ?_
 ·rintro i d Z M' hd ⟨rfl,a,rfl⟩
  have hi:i<m.places:=by
   have:=(LZ.mp hd).1
   simpa using this
  refine ⟨_,rfl,?_⟩
  simp [cT]
  refine vU (ds:=(dG m.words i).map aM) (fun _=>(List.range m.words).map fun (k:Nat)=>D.int (k:Int)) (fun d e=>match d,e with|.tup x,e=>.tup (x++[e])|_,_=>.non) 4 (by simpa using fun _ _=>w4) ?_ rfl ?_ ?_
  ·have:=ju w4 i (by omega)
   have:(4:Nat)^i<=4^2:=Nat.pow_le_pow_right (by decide) (by omega)
   simp only [Md]
   exact aG (by omega)
  ·intro d hd
   obtain ⟨s,hs,rfl⟩:=MR.mp hd
   have ⟨l1,_⟩:=sX s hs
   refine ⟨_,rfl,(fun _=>some ((List.range m.words).map fun (k:Nat)=>D.int (k:Int))),lu ?_,rfl,fun e he=>⟨_,rfl,av ?_⟩⟩
   ·simp
    omega
   ·simp [aM,sz]
    omega
  ·have e0:((dG m.words i).map aM).flatMap (fun d=>((List.range m.words).map fun (k:Nat)=>D.int (k:Int)).map (fun e=>match d,e with|.tup x,e=>D.tup (x++[e])|_,_=>.non))=(dG m.words (i+1)).map aM:=by
    simp only [dG,vM,List.flatMap_map,List.map_flatMap,List.map_map]
    congr 1
    funext s
    simp [aM,NV]
   rw [e0]
   refine ⟨?_,rfl,rfl⟩
   have:=ju w4 (i+1) (by omega)
   have:(4:Nat)^(i+1)<=4^2:=Nat.pow_le_pow_right (by decide) (by omega)
   simp only [Md]
   exact aG (by omega)
 ·rintro Z M' ⟨rfl,a,rfl⟩
  simp [bU]
theorem t5 (n:Nat){m:aR}{i:Nat}(hi:i<m.deeds.length):ak P (n+2) 16 [m.d,nD i] M=.ok (.bl true) M:=by
 refine av (aA h.is_deed_number rfl ?_)
 simp [fF,aR.d,bz,j6 h]
 omega
theorem u6 (n:Nat){m:aR}{x:D}{r:List Nat}(hx:bx M x r)(hr:∀i∈r,i<m.deeds.length):ak P (n+3) 17 [m.d,x] M=.ok .non M:=by
 refine av (aA h.need_numbers rfl ?_)
 obtain ⟨i1,i2,i3⟩:=hx.is
 simp [gM,i1,i2,i3]
 refine fN (ds:=dE 0 (r.map nD)) (fun i Z M'=>M'=M/\∃a b,Z=[some m.d,some x,a,b]) (fun _ _ _ e=>by rw [e.1,hx.seq];rfl) ⟨rfl,none,none,rfl⟩ ?_ ?_
 ·rintro i d Z M' hd ⟨rfl,a,b,rfl⟩
  rw [js] at hd
  rw [MU] at hd
  cases e:r[i]? with
  |none=>rw [e] at hd;cases hd
  | some x =>
    rw [e] at hd
    simp at hd
    subst hd
    refine ⟨_,rfl,?_⟩
    simp [t5 h n (hr x (Np e))]
 ·rintro Z M' ⟨rfl,a,b,rfl⟩
  simp
theorem pN (n:Nat){m:aR}{x:D}{r:List Nat}(hx:bx M x r)(hm:a8 m)(hr:bj m r):ak P (n+9) 18 [m.d,x] M=.ok .non M:=by
 have e:=u6 h (n+5) (m:=m) hx hr.2
 refine av (aA h.need_row rfl ?_)
 simp [kz,rB h n hm,e]
 rw [hx.len]
 have:=hr.1
 simp
 omega
theorem rk (h47:P 47=some ⟨2,2,fx⟩)(n:Nat){m:aR}{x:D}{r:List Nat}(hx:bx M x r)(hl:r.length<=100000)(hr:∀i∈r,i<m.deeds.length):ak P (n+1) 47 [m.d,x] M=.ok (nD (gY m r)) M:=by
 refine av (aA h47 rfl ?_)
 simp [fx,hx.is]
 refine fO (ds:=r.map nD) (fun d=>match d with|.int i=>nD (eB m i.toNat).cost|_=>.non) (aG (by simp;omega)) hx.seq ?_ ?_
 ·intro d hd
  obtain ⟨x,hx,rfl⟩:=MR.mp hd
  refine ⟨_,rfl,av ?_⟩
  simp [-iS,BO,sC (hr x hx),qe]
 ·obtain ⟨bs,e1,e2⟩:=sA (fun i=>(eB m i).cost) r
  refine ⟨?_,bs,?_,?_,rfl⟩
  ·simp
   exact aG (by omega)
  ·simpa [NV] using e1
  ·exact e2
end
section
variable {P:Nat->Option Df}(h:HasM P){M:Mem}
include h
theorem wV (n:Nat){m:aR}{a c:Nat}{t s:List Nat}(hd:bY m.words m.places (.turn a t c))(hs:iu m s):ak P (n+1) 20 [(aW.turn a t c).d,aM s] M=.ok (nD (dJ (.turn a t c) s)) M:=by
 obtain ⟨h1,h2,h3⟩:=hd
 have a1:a<s.length:=by rw [hs.1];exact h1
 have a2:s.getD a 0<t.length:=by rw [h2.1];exact hs.2 _ (getD_mem a1)
 refine av (aA h.turned rfl ?_)
 simp [-iS,-List.getD_eq_getElem?_getD,m8,aW.d,eI,jS a1,jS a2,dJ]
theorem xg (n:Nat){m:aR}{a o c:Nat}{t:List (List Nat)}{s:List Nat}(hd:bY m.words m.places (.join a o t c))(hs:iu m s):ak P (n+1) 21 [(aW.join a o t c).d,aM s] M=.ok (nD (dJ (.join a o t c) s)) M:=by
 obtain ⟨h1,h2,h3,h4⟩:=hd
 have a1:a<s.length:=by rw [hs.1];exact h1
 have a2:o<s.length:=by rw [hs.1];exact h2
 have a3:s.getD a 0<t.length:=by rw [h3.1];exact hs.2 _ (getD_mem a1)
 have a4:s.getD o 0<(t.getD (s.getD a 0) []).length:=by rw [(h3.2 _ (getD_mem a3)).1];exact hs.2 _ (getD_mem a2)
 refine av (aA h.joined rfl ?_)
 simp [-iS,-List.getD_eq_getElem?_getD,nh,aW.d,eI,jS a1,jS a2,G9 a3,jS a4,dJ]
theorem zF (n:Nat){m:aR}{a o c:Nat}{s:List Nat}(hd:bY m.words m.places (.move a o c))(hs:iu m s):ak P (n+1) 22 [(aW.move a o c).d,aM s] M=.ok (nD (dJ (.move a o c) s)) M:=by
 obtain ⟨h1,h2,h3⟩:=hd
 have a2:o<s.length:=by rw [hs.1];exact h2
 refine av (aA h.moved rfl ?_)
 simp [-iS,-List.getD_eq_getElem?_getD,pq,aW.d,eI,jS a2,dJ]
theorem zE (n:Nat){a x c:Nat}{s:List Nat}:ak P (n+1) 23 [(aW.put a x c).d,aM s] M=.ok (nD (dJ (.put a x c) s)) M:=by
 refine av (aA h.put_in rfl ?_)
 simp [m9,aW.d,eI,dJ]
end
theorem KR:cj.lookup (Str.ofString "turn")=some 20:=by decide +kernel
theorem KQ:cj.lookup (Str.ofString "join")=some 21:=by decide +kernel
theorem KP:cj.lookup (Str.ofString "move")=some 22:=by decide +kernel
theorem KO:cj.lookup (Str.ofString "put")=some 23:=by decide +kernel
theorem Fh {s:List Nat}{M:Mem}{k:D->Mem->Prop}{a:Nat}(ha:a<=s.length):ag (fE false (aM s) .non (.int a) M) k↔k (aM (s.take a)) M:=by
 simp only [fE,aM,aI,cut]
 rw [if_neg (by omega)]
 simp
 rw [Nat.min_eq_left (by simpa using ha)]
theorem Dj {s:List Nat}{M:Mem}{k:D->Mem->Prop}{a:Nat}(ha:a<=s.length):ag (fE false (aM s) (.int a) .non M) k↔k (aM (s.drop a)) M:=by
 simp only [fE,aM,aI,cut]
 rw [if_neg (by omega)]
 simp
 rw [Nat.min_eq_left (by simpa using ha),Nu (by simp)]
section
variable {P:Nat->Option Df}(h:HasM P){M:Mem}
include h
theorem Dh (n:Nat){m:aR}{d:aW}{s:List Nat}(hm:a8 m)(hd:bY m.words m.places d)(hs:iu m s):ak P (n+2) 24 [d.d,aM s] M=.ok (aM (gu d s)) M:=by
 have a0:=Cm hd
 have l0:=hs.1
 have p2:=hm.p2
 have key:∀f,ak P (n+1) f [d.d,aM s] M=.ok (nD (dJ d s)) M->cu d.d (.int 1) M=some (nD d.at')->(∀k:D->Mem->Prop,(∃y,cu d.d (.int 0) M=some (.str y)/\cj.lookup y=some f))->ak P (n+2) 24 [d.d,aM s] M=.ok (aM (gu d s)) M:=fun f e1 e2 e3=>by
  obtain ⟨y,e3,e4⟩:=e3 fun _ _=>True
  refine av (aA h.done rfl ?_)
  simp only [sZ,aX,hZ,Hj,Cc,bT,fo,dQ,d5,jt,l8,iI,bp,bO,Ek]
  simp [-iS,e1,e2,e3,e4,c9]
  rw [Fh (by omega),e1]
  have e5:(d.at':Int)+1=((d.at'+1:Nat):Int):=by omega
  rw [e5]
  simp only [dW,aM,yR]
  refine ⟨by decide,?_,?_⟩
  ·simp
   exact aG (by omega)
  ·rw [show D.tup (s.map nD)=aM s from rfl,Dj (by omega)]
   simp only [aM,yR]
   refine ⟨?_,?_,trivial⟩
   ·simp
    exact aG (by omega)
   ·simp [gu]
 cases d with
 |turn a t c=>exact key 20 (wV h n hd hs) rfl fun _=>⟨_,rfl,KR⟩
 |join a o t c=>exact key 21 (xg h n hd hs) rfl fun _=>⟨_,rfl,KQ⟩
 |move a o c=>exact key 22 (zF h n hd hs) rfl fun _=>⟨_,rfl,KP⟩
 |put a x c=>exact key 23 (zE h n) rfl fun _=>⟨_,rfl,KO⟩
theorem tG (n:Nat){m:aR}{x:D}{r s:List Nat}(hx:bx M x r)(hm:a8 m)(hrl:r.length<=100000)(hr:∀i∈r,i<m.deeds.length)(hs:iu m s):ak P (n+3) 25 [m.d,x,aM s] M=.ok (.cell M.length) (M++[(cV m r s).map aM]):=by
 refine av (aA h.all_standing rfl ?_)
 simp [gQ,hx.is]
 refine ⟨by decide,?_⟩
 refine fN (ds:=r.map nD) (fun i Z M'=>M'=M++[(cV m (r.take i) s).map aM]/\∃a,Z=[some m.d,some x,some (aM s),some (.cell M.length),a]) (fun _ _ _ e=>by rw [e.1];exact (hx.sub Sub.app).seq) ⟨by simp [cV],none,rfl⟩ ?_ ?_
 ·rintro i d Z M' hd ⟨rfl,a,rfl⟩
  rw [MU] at hd
  cases e:r[i]? with
  |none=>rw [e] at hd;cases hd
  | some x =>
    rw [e] at hd
    simp at hd
    subst hd
    have hx:=hr x (Np e)
    have hi:i<r.length:=(LZ.mp e).1
    refine ⟨_,rfl,?_⟩
    have hse:iu m (cJ m (r.take i) s):=pb hm (fun j hj=>hr j (Ni hj)) hs
    have hl:=mQ (m:=m) (r.take i) s
    have hl2:(r.take i).length=i:=by simp;omega
    simp [-iS,BO,sC hx,mw,Dh h n hm (nF hm hx) hse]
    refine ⟨?_,?_⟩
    ·rw [hl,hl2]
     exact Nat.lt_of_le_of_lt (show i+1<=100001 by omega) (by decide)
    ·rw [NN,e]
     simp [pR]
 ·rintro Z M' ⟨rfl,a,rfl⟩
  simp
noncomputable def dC (m:aR)(r:List Nat):D:=.tup ((bU m).map fun s=>aM (cJ m r s))
theorem kJ (h15:P 15=some ⟨1,6,dm⟩)(h46:P 46=some ⟨2,2,fT⟩)(n:Nat){m:aR}{x:D}{r:List Nat}(hx:bx M x r)(hm:a8 m)(hrl:r.length<=100000)(hr:∀i∈r,i<m.deeds.length):ak P (n+10) 46 [m.d,x] M=.ok (dC m r) (M++(bU m).map fun s=>(cV m r s).map aM):=by
 refine av (aA h46 rfl ?_)
 simp [fT,t7 h.toHasM0 h15 n hm]
 refine ⟨rfl,?_⟩
 have bl:=sW hm
 refine comp_map (ds:=(bU m).map aM) (fun i acc M'=>acc=((bU m).take i).map (fun s=>aM (cJ m r s))/\M'=M++((bU m).take i).map fun s=>(cV m r s).map aM) (aG (by simp;omega)) (fun _ _ _ _=>rfl) (by simp) ?_ ?_
 ·rintro i d acc M' hd _ ⟨rfl,eM⟩
  rw [MU] at hd
  cases e:(bU m)[i]? with
  |none=>rw [e] at hd;cases hd
  | some s =>
    rw [e] at hd
    have hd:aM s=d:=L9 hd
    subst hd
    have hs:=ml s (Np e)
    refine ⟨_,rfl,?_⟩
    have st:=tG h (n+6) (M:=M') (by rw [eM];exact hx.sub Sub.app) hm hrl hr hs
    simp [st,mw]
    rw [eM,NN,NN]
    simp [e]
 ·rintro acc M' _ ⟨rfl,rfl⟩
  simp
  exact ⟨aG (by omega),by simp [dC,Nu]⟩
theorem xh (h15:P 15=some ⟨1,6,dm⟩)(h46:P 46=some ⟨2,2,fT⟩)(n:Nat){m:aR}{r:List Nat}(hm:a8 m)(hr:bj m r):ak P (n+10) 46 [m.d,az r] M=.ok (dC m r) (M++(bU m).map fun s=>(cV m r s).map aM):=kJ h h15 h46 n .l hm (Mb hr.1 (by decide)) hr.2
theorem pP (h15:P 15=some ⟨1,6,dm⟩)(h27:P 27=some ⟨2,2,g7⟩)(h46:P 46=some ⟨2,2,fT⟩)(n:Nat){m:aR}{x:D}{r:List Nat}(hx:bx M x r)(hm:a8 m)(hr:bj m r):ak P (n+11) 27 [m.d,x] M=.ok (dC m r) (M++(bU m).map fun s=>(cV m r s).map aM):=by
 refine av (aA h27 rfl ?_)
 simp [g7,pN h.toHasM0 (n+1) hx hm hr,kJ h h15 h46 n hx hm (Mb hr.1 (by decide)) hr.2]
end
end LD
namespace LD
open PySem
@[simp] theorem sk {j:Nat}{M:Mem}{k:D->Mem->Prop}:ag (dq .len [.cell j] M) k↔∃ds,M[j]?=some ds/\k (.int ds.length) M:=by
 show ag (match M[j]? with|some xs=>_|none=>_) k↔_
 cases M[j]?<;>simp
structure aL (M:Mem) (p B:Nat):Prop where
 ex:∃(c:Nat) (cells:List Int) (at_ st:Int),M[p]?=some [.cell c,.int at_,.int st]/\M[c]?=some (cells.map D.int)/\c<p/\0<=at_/\at_<=B/\0<=st
structure bc (p:Nat) (M M':Mem):Prop where
 len:M.length<=M'.length
 at':∀k,k<M.length->k≠p->M'[k]?=M[k]?
theorem bc.refl {p:Nat}{M:Mem}:bc p M M:=⟨L7 _,fun _ _ _=>rfl⟩
theorem bc.trans {p:Nat}{M M1 M2:Mem}(a:bc p M M1)(b:bc p M1 M2):bc p M M2:=⟨Mb a.len b.len,fun k hk n=>(b.at' k (Mj hk a.len) n).trans (a.at' k hk n)⟩
theorem bc.set {p:Nat}{M:Mem}{ds:List D}:bc p M (M.set p ds):=⟨by simp,fun k _ n=>Mc (Ng n)⟩
theorem bc.app {p:Nat}{M X:Mem}:bc p M (M++X):=⟨by simp,fun k hk _=>Mw hk⟩
theorem bc.get {p k:Nat}{M M':Mem}{ds:List D}(h:bc p M M')(e:M[k]?=some ds)(n:k≠p):M'[k]?=some ds:=by rw [h.at' k (LZ.mp e).1 n];exact e
theorem aL.lt {M:Mem}{p B:Nat}(h:aL M p B):p<M.length:=by obtain ⟨_,_,_,_,e,_⟩:=h.ex;exact (LZ.mp e).1
theorem aL.app {M X:Mem}{p B:Nat}(h:aL M p B):aL (M++X) p B:=by
 obtain ⟨c,cells,a,st,e1,e2,r⟩:=h.ex
 exact ⟨c,cells,a,st,by rw [Mw (LZ.mp e1).1];exact e1,by rw [Mw (LZ.mp e2).1];exact e2,r⟩
theorem aL.mono {M:Mem}{p B B':Nat}(h:aL M p B)(hb:B<=B'):aL M p B':=by
 obtain ⟨c,cells,a,st,e1,e2,e3,e4,e5,e6⟩:=h.ex
 exact ⟨c,cells,a,st,e1,e2,e3,e4,by omega,e6⟩
theorem aL.setq {M:Mem}{p q B:Nat}{ds:List D}(h:aL M p B)(hq:p<q):aL (M.set q ds) p B:=by
 obtain ⟨c,cells,a,st,e1,e2,e3,e4,e5,e6⟩:=h.ex
 exact ⟨c,cells,a,st,by rw [Mc (by omega)];exact e1,by rw [Mc (by omega)];exact e2,e3,e4,e5,e6⟩
theorem bc.setq {p q:Nat}{M M':Mem}{ds:List D}(h:bc p M M')(hq:M.length<=q):bc p M (M'.set q ds):=⟨by simpa using h.len,fun k hk n=>by rw [Mc (by omega)];exact h.at' k hk n⟩
theorem xV {a b A B:Int}(h1:0<=a)(h2:a<=A)(h3:0<=b)(h4:b<=B):0<=a*b/\a*b<=A*B:=
 ⟨Int.mul_nonneg h1 h3,Int.mul_le_mul h2 h4 h3 (Int.le_trans h1 h2)⟩
noncomputable def jL:List Int:=[2147483629,2147483587,2147483579,2147483563,2147483549,2147483543,2147483497,2147483489,2147483477,2147483423,2147483399,2147483353,2147483323]
noncomputable def eX:List D:=jL.map D.int
theorem xu:∀q∈jL,0<q/\q<2147483648:=by decide
theorem mT (j:Int)(M:Mem):∃q:Int,cu (.lst eX) (.int (j % 13)) M=some (.int q)/\0<q/\q<2147483648:=by
 have h1:0<=j % 13:=Nx _ (by decide)
 have h2:j % 13<13:=Nm _ (by decide)
 generalize j % 13=i at h1 h2
 obtain ⟨k,rfl⟩:=Int.eq_ofNat_of_zero_le h1
 have hk:k<jL.length:=Int.ofNat_lt.mp h2
 refine ⟨jL[k],?_,xu _ (NO hk)⟩
 show (bz eX.length (k:Int)).bind (fun j=>eX[j]?)=_
 rw [eK (n:=eX.length) hk]
 show (jL.map D.int)[k]?=_
 rw [MU,Mr hk];rfl
section
variable {P:Nat->Option Df}(h:HasP0 P){M:Mem}
include h
omit h in
theorem eQ {m:Bool}{a b:GE}{Z:Env}{x y:Int}(ha:a Z M=.ok (.int x) M)(hb:b Z M=.ok (.int y) M):aw m .add a b Z M=.ok (.int (x+y)) M:=by
 unfold aw;rw [ha];show (b Z M).bind _=_;rw [hb];rfl
omit h in
theorem mZ {m:Bool}{a b:GE}{Z:Env}{x y:Int}(ha:a Z M=.ok (.int x) M)(hb:b Z M=.ok (.int y) M)(c:(-(2^64)<x/\x<2^64)\/(-(2^64)<y/\y<2^64)):aw m .mul a b Z M=.ok (.int (x*y)) M:=by
 unfold aw;rw [ha];show (b Z M).bind _=_;rw [hb];exact if_pos c
omit h in
theorem ij {m:Bool}{a b:GE}{Z:Env}{x y:Int}(ha:a Z M=.ok (.int x) M)(hb:b Z M=.ok (.int y) M)(c:0<y):aw m .mod a b Z M=.ok (.int (x % y)) M:=by
 unfold aw;rw [ha];show (b Z M).bind _=_;rw [hb];exact if_pos c
omit h in
theorem Ac {m:Bool}{a b:GE}{Z:Env}{x y:Int}(ha:a Z M=.ok (.int x) M)(hb:b Z M=.ok (.int y) M)(c:0<=y/\y<=1000000)(d:x.natAbs<2^64):aw m .pow a b Z M=.ok (.int (x^y.toNat)) M:=by
 unfold aw;rw [ha];show (b Z M).bind _=_;rw [hb];exact if_pos ⟨c.1,c.2,d⟩
omit h in
theorem mU {a:GE}{Z:Env}{i:Nat}{x q:Int}(hi:Z[i]?.getD none=some (.lst eX))(ha:a Z M=.ok (.int x) M)(e:cu (.lst eX) (.int (x % 13)) M=some (.int q)):ay (aa i) (aw false .mod a (gI 13)) Z M=.ok (.int q) M:=by
 unfold ay;rw [ai hi];show (aw false .mod a _ Z M).bind _=_;rw [ij ha rfl (by decide)];show bR M _=_;rw [e];rfl
theorem wX (n:Nat){x a:Int}(h0:0<=a)(h1:a<=1000000):ag (ak P (n+1) 28 [.int x,.int a] M) fun d M'=>M'=M/\∃v:Int,d=.int v/\0<=v:=by
 refine aA h.law_spread rfl ?_
 show ag (fz (ak P n) [some (.int x),some (.int a),none,none,none,none] M) _
 unfold fz
 refine bS (b:=decide ((1000000000000000000:Int)<=x)) rfl (fun e=>?_) fun e=>?_
 ·exact ⟨rfl,x,rfl,Int.le_trans (by decide) (of_decide_eq_true e)⟩
 clear e
 refine cM (d9 rfl) (cM (d9 rfl) ?_)
 show ag (af _ _ [some (.int x),some (.int a),some (.lst eX),none,none,none] M) _
 obtain ⟨q1,e1,p1,p2⟩:=mT a M
 obtain ⟨q2,e2,p3,_⟩:=mT (a+5) M
 obtain ⟨q3,e3,p5,_⟩:=mT (a+7) M
 have sm:∀{z c:Int},0<=z->z<=c->c<2^64->z.natAbs<2^64:=fun z0 zc c0=>by omega
 have lt:∀{z c:Int},0<=z->z<=c->c<2^64->-(2^64)<z/\z<2^64:=fun z0 zc c0=>by omega
 have r1:=Nx x (show (1000000007:Int)≠0 by decide)
 have r2:=Nm x (show (0:Int)<1000000007 by decide)
 have r3:=Nx x (show (65537:Int)≠0 by decide)
 have r4:=Nm x (show (0:Int)<65537 by decide)
 obtain ⟨m1,m2⟩:=xV r1 (Int.le_of_lt r2) (show 0<=2*a+69069 by omega) (show 2*a+69069<=2069069 by omega)
 refine cM (d9 (ij (Ac (eQ (eQ (mZ (ij (ai rfl) rfl (by decide)) (eQ (mZ rfl (ai rfl) (.inl (by decide))) rfl) (.inl (lt r1 (Int.le_of_lt r2) (by decide)))) (mZ (ai rfl) rfl (.inl (lt h0 h1 (by decide))))) rfl) rfl (by decide) (sm (c:=10000000000000000000) (by omega) (by omega) (by decide))) (mU rfl (ai rfl) e1) p1)) ?_
 generalize (x % 1000000007*(2*a+69069)+a*40503+977)^(3:Int).toNat=y1
 have b1:=Nx y1 (Int.ne_of_gt p1)
 have b2:=Nm y1 p1
 generalize y1 % q1=one at b1 b2
 show ag (af _ _ [some (.int x),some (.int a),some (.lst eX),some (.int one),none,none] M) _
 have b3:one<=2147483648:=Int.le_of_lt (Int.lt_trans b2 p2)
 obtain ⟨m3,m4⟩:=xV b1 b3 (show 0<=a+3 by omega) (show a+3<=1000003 by omega)
 refine cM (d9 (ij (Ac (eQ (eQ (mZ (ai rfl) (eQ (ai rfl) rfl) (.inl (lt b1 b3 (by decide)))) (ij (ai rfl) rfl (by decide))) rfl) rfl (by decide) (sm (c:=10000000000000000000) (by omega) (by omega) (by decide))) (mU rfl (eQ (ai rfl) rfl) e2) p3)) ?_
 generalize (one*(a+3)+x % 65537+5)^(5:Int).toNat=y2
 have c1:=Nx y2 (Int.ne_of_gt p3)
 have c2:=Nm y2 p3
 generalize y2 % q2=two at c1 c2
 show ag (af _ _ [some (.int x),some (.int a),some (.lst eX),some (.int one),some (.int two),none] M) _
 have r5:=Nx one (show (1009:Int)≠0 by decide)
 have r6:=Nm one (show (0:Int)<1009 by decide)
 refine cM (d9 (ij (Ac (eQ (eQ (ai rfl) (ij (ai rfl) rfl (by decide))) (ai rfl)) rfl (by decide) (sm (c:=10000000000) (by omega) (by omega) (by decide))) (mU rfl (eQ (ai rfl) rfl) e3) p5)) ?_
 generalize (two+one % 1009+a)^(3:Int).toNat=y3
 have d1:=Nx y3 (Int.ne_of_gt p5)
 refine c8 (eQ (mZ (eQ (mZ (ai rfl) rfl (.inr (by decide))) (ai rfl)) rfl (.inr (by decide))) (ai rfl)) ⟨rfl,_,rfl,?_⟩
 exact Int.add_nonneg (Int.mul_nonneg (Int.add_nonneg (Int.mul_nonneg b1 (by decide)) c1) (by decide)) d1
omit h in
theorem Le:bz 3 2=some 2:=rfl
omit h in
theorem oW {l:List Int}{i:Int}(h0:0<=i)(h1:i<l.length):∃x,((bz l.length i).bind fun j=>Option.map D.int l[j]?)=some (.int x):=by
 obtain ⟨k,rfl⟩:=Int.eq_ofNat_of_zero_le h0
 have hk:k<l.length:=by omega
 refine ⟨l[k],?_⟩
 rw [eK hk]
 simp [hk]
noncomputable def j0:GS:=af (aH (.one 4) (aw false .mod (ay (aa 0) (gI 2)) (aa 1))) (af (cE (aa 0) (gI 2) (aw false .fdiv (ay (aa 0) (gI 2)) (aa 1))) (af (aN (aa 4)) aj))
noncomputable def tR (c:Call):GS:=af (cE (aa 0) (gI 1) (aw false .add (aa 2) (gI 1))) (af (cE (aa 0) (gI 2) (au 28 c (ae (aa 3) (ae (aa 2) ah)))) aj)
omit h in
theorem Ja {m:Bool}{a b:GE}{Z:Env}{x y:Int}(ha:a Z M=.ok (.int x) M)(hb:b Z M=.ok (.int y) M)(c:0<y/\y<1073741824):aw m .fdiv a b Z M=.ok (.int (x / y)) M:=by
 unfold aw;rw [ha];show (b Z M).bind _=_;rw [hb];exact if_pos c
omit h in
theorem bf {a b:GE}{Z:Env}{x y d:D}(ha:a Z M=.ok x M)(hb:b Z M=.ok y M)(e:cu x y M=some d):ay a b Z M=.ok d M:=by
 unfold ay;rw [ha];show (b Z M).bind _=_;rw [hb];show bR M _=_;rw [e];rfl
omit h in
theorem G4 {p:Nat}{c0 c1 c2:D}(e:M[p]?=some [c0,c1,c2]):cu (.cell p) (.int 0) M=some c0/\cu (.cell p) (.int 1) M=some c1/\cu (.cell p) (.int 2) M=some c2:=by
 refine ⟨?_,?_,?_⟩<;>(show (M[p]?).bind _=_;rw [e];rfl)
omit h in
theorem h9 {a b d:GE}{rest:GS}{Z:Env}{p i:Nat}{n:Int}{z:D}{ds:List D}{M':Mem}{kf:Fl->Mem->Prop}(hd:d Z M=.ok z M')(ha:a Z M'=.ok (.cell p) M')(hb:b Z M'=.ok (.int n) M')(e:M'[p]?=some ds)(hi:bz ds.length n=some i)(h:ag (rest Z (M'.set p (ds.set i z))) kf):ag (af (cE a b d) rest Z M) kf:=by
 simp only [aX]
 unfold cE
 rw [hd];show ag ((a Z M').bind _) _;rw [ha];show ag ((b Z M').bind _) _;rw [hb]
 show ag (match M'[p]? with|some ds=>(match bz ds.length n with|some j=>Res.ok (Fl.next Z) (M'.set p (ds.set j z))|none=>.bad)|none=>.bad) _
 rw [e]
 show ag (match bz ds.length n with|some j=>Res.ok (Fl.next Z) (M'.set p (ds.set j z))|none=>.bad) _
 rw [hi];exact h
omit h in
theorem G6 {t:GT}{A B rest:GS}{Z:Env}{b:Bool}{kf:Fl->Mem->Prop}(ht:t Z M=.ok b M)(h1:b=true->ag (A Z M) (iA rest kf))(h2:b=false->ag (B Z M) (iA rest kf)):ag (af (aS t A B) rest Z M) kf:=by
 simp only [aX,fX]
 rw [ht]
 cases b with
 |true=>exact h1 rfl
 |false=>exact h2 rfl
omit h in
theorem pI {M M1:Mem}{p c many B:Nat}{cells:List Int}{a st:Int}{x y:Option D}(e1:M1[p]?=some [.cell c,.int a,.int st])(e2:M1[c]?=some (cells.map D.int))(lt:c<p)(a0:0<=a)(aB:a<=(B+1:Nat))(s0:0<=st)(k:bc p M M1)
 (h0:0<many) (h1:many<=10000000):ag (j0 [some (.cell p),some (nD many),x,y,none] M1) (lg fun d M'=>∃v:Nat,d=nD v/\v<many/\aL M' p (B+1)/\bc p M M'):=by
 have hp:p<M1.length:=(LZ.mp e1).1
 have b0:(0:Int)<(many:Int):=Int.ofNat_lt.mpr h0
 have r1:=Nx st (Int.ne_of_gt b0)
 have r2:=Nm st b0
 unfold j0
 refine cM (d9 (ij (bf (ai rfl) rfl (G4 e1).2.2) (ai rfl) b0)) (h9 (Ja (bf (ai rfl) rfl (G4 e1).2.2) (ai rfl) ⟨b0,by omega⟩) (ai rfl) rfl e1 (i:=2) rfl (c8 (ai rfl) ?_))
 obtain ⟨v,hv⟩:=Int.eq_ofNat_of_zero_le r1
 refine ⟨v,congrArg D.int hv,by omega,⟨c,cells,a,st / many,Mn hp,?_,lt,a0,aB,Int.ediv_nonneg s0 (Int.le_of_lt b0)⟩,k.trans bc.set⟩
 rw [Mc (Nc lt)];exact e2
theorem tW (n:Nat){p B many:Nat}(hp:aL M p B)(hB:B<=1000000)(h0:0<many)(h1:many<=10000000):ag (ak P (n+2) 31 [.cell p,nD many] M) fun d M'=>∃v:Nat,d=nD v/\v<many/\aL M' p (B+1)/\bc p M M':=by
 obtain ⟨c,cells,a,st,e1,e2,lt,a0,aB,s0⟩:=hp.ex
 have hpl:p<M.length:=(LZ.mp e1).1
 obtain ⟨i0,i1,i2⟩:=G4 e1
 refine aA h.law_take rfl ?_
 show ag (af (aS _ (af _ (af _ (af _ (tR (ak P (n+1)))))) _) j0 [some (.cell p),some (nD many),none,none,none] M) _
 have mid:∀(x:Int),ag (tR (ak P (n+1)) [some (.cell p),some (nD many),some (.int a),some (.int x),none] M) (iA j0 (lg fun d M'=>∃v:Nat,d=nD v/\v<many/\aL M' p (B+1)/\bc p M M')):=by
  intro x
  refine h9 (eQ (ai rfl) rfl) (ai rfl) rfl e1 (i:=1) rfl ?_
  obtain ⟨_,_,es,rfl,v,rfl,v0⟩:=f9.mp (wX h n (M:=M.set p [.cell c,.int (a+1),.int st]) (x:=x) (a:=a) a0 (by omega))
  refine h9 ((bB (aq (ai rfl) (aq (ai rfl) rfl))).trans es) (ai rfl) rfl (Mn hpl) (i:=2) rfl ?_
  have ne:=Nc lt
  exact pI (c:=c) (cells:=cells) (a:=a+1) (st:=v) (Mn (by rw [List.length_set];exact hpl)) (by rw [Mc ne,Mc ne];exact e2) lt (by omega) (by omega) v0 (bc.set.trans bc.set) h0 h1
 have len:aV .len (ae (ay (aa 0) (gI 0)) ah) [some (.cell p),some (nD many),some (.int a),some (.int 0),none] M=.ok (.int (cells.length:Nat)) M:=by
  refine av ?_
  simp only [fv]
  rw [aq (bf (ai rfl) rfl i0) rfl,dW]
  exact sk.mpr ⟨_,e2,by rw [Md],rfl⟩
 refine bS (b:=decide (st<(many:Int))) (bX (av ?_)) (fun c1=>?_) fun c1=>?_
 ·simp only [ma]
  rw [bf (ai rfl) rfl i2,dW,ai (x:=nD many) rfl,dW]
  exact ⟨_,rfl,rfl,rfl⟩
 ·refine cM (d9 (bf (ai rfl) rfl i1)) (cM (d9 rfl) ?_)
  show ag (af _ _ [some (.cell p),some (nD many),some (.int a),some (.int 0),none] M) _
  have ixx:∀{i:Int}{x:D},((bz cells.length i).bind fun j=>Option.map D.int cells[j]?)=some x->cu (.cell c) (.int i) M=some x:=fun {i x} ex=>by
   show (M[c]?).bind _=_
   rw [e2]
   show ((bz (cells.map D.int).length i).bind fun j=>(cells.map D.int)[j]?)=_
   simp only [Md,MU];exact ex
  refine G6 (b:=decide (a<(cells.length:Int))) (bX (av ?_)) (fun c2=>?_) fun _=>?_
  ·simp only [ma]
   rw [ai (x:=.int a) rfl,dW,len,dW];exact ⟨_,rfl,rfl,rfl⟩
  ·obtain ⟨x,ex⟩:=oW a0 (of_decide_eq_true c2)
   exact cM (d9 (bf (bf (ai rfl) rfl i0) (ai rfl) (ixx ex))) (mid x)
  ·refine bS (b:=decide ((0:Int)<(cells.length:Int))) (bX (av ?_)) (fun c3=>?_) fun _=>mid 0
   ·simp only [ma,fo]
    rw [len,dW];exact ⟨_,rfl,rfl,rfl⟩
   ·have c4:=of_decide_eq_true c3
    obtain ⟨x,ex⟩:=oW (Nx (a*5+3) (Int.ne_of_gt c4)) (Nm _ c4)
    exact cM (d9 (ij (bf (bf (ai rfl) rfl i0) (ij (eQ (mZ (ai rfl) rfl (.inr (by decide))) rfl) len c4) (ixx ex)) (eQ (x:=100000000000000000) rfl (ai rfl)) (Int.lt_of_lt_of_le (by decide) (Int.le_add_of_nonneg_right a0)))) (mid _)
 ·exact pI e1 e2 lt a0 (by omega) s0 .refl h0 h1
end
end LD
namespace LD
open PySem
noncomputable def aW.withC:aW->Nat->aW
 |.turn a t _,c=>.turn a t c
 |.join a o t _,c=>.join a o t c
 |.move a o _,c=>.move a o c
 |.put a x _,c=>.put a x c
theorem yW {w p c:Nat}{d:aW}(h:bY w p d)(hc:eU c):bY w p (d.withC c):=by
 cases d with
 |turn=>exact ⟨h.1,h.2.1,hc⟩
 |join=>exact ⟨h.1,h.2.1,h.2.2.1,hc⟩
 |move=>exact ⟨h.1,h.2.1,hc⟩
 |put=>exact ⟨h.1,h.2.1,hc⟩
theorem EE {w p:Nat}{d:aW}(h:bY w p d):eU d.cost:=by
 cases d with
 |turn=>exact h.2.2
 |join=>exact h.2.2.2
 |move=>exact h.2.2
 |put=>exact h.2.2
theorem A1 {d:aW}{c:Nat}{M:Mem}{k:D->Mem->Prop}(hk:k (d.withC c).d M):ag (fE false d.d .non (.int (-1)) M) fun x M=>ag (gL false .add x (.tup [nD c]) M) k:=by
 cases d<;>(simp [aW.d,fE,aI,cut];exact ⟨by decide,hk⟩)
theorem zz (n:Nat)(d:aW):aC (n+3) d.d=true:=by
 have tp:∀(n:Nat) (l:List Nat),(l.map nD).all (aC n)=true:=fun n l=>by
  rw [Mp];intro x hx;obtain ⟨i,_,rfl⟩:=MR.mp hx;cases n<;>rfl
 cases d with
 |turn a t c=>simp [aW.d,aC,aM,nD];decide +kernel
 |join a o t c=>simp [aW.d,aC,nD,aM];decide +kernel
 |move a o c=>simp [aW.d,aC,nD];decide +kernel
 |put a x c=>simp [aW.d,aC,nD];decide +kernel
theorem ne_nil {M:Mem}{q:Nat}{ds:List aW}(e:M[q]?=some (ds.map aW.d)):bJ .ne (.cell q) (.lst []) M=some (!ds.isEmpty):=by
 have hp:(ds.map aW.d).all (aC 63)=true:=by
  rw [Mp];intro x hx;obtain ⟨d,_,rfl⟩:=MR.mp hx;exact zz 60 d
 have hv:view M (.cell q)=.lst (ds.map aW.d):=by simp [view,e]
 have h1:aC 64 (.lst (ds.map aW.d))=true:=hp
 refine ph (by rw [hv];exact h1) rfl ?_
 rw [hv]
 cases ds<;>rfl
@[simp] theorem GH {m:Bool}{x:List D}{j:Int}{M:Mem}{k:D->Mem->Prop}:ag (gL m .mul (.tup x) (.int j) M) k↔(x.length*j.toNat<=sz/\-(2^63)<=j/\j<2^63)/\k (.tup (List.replicate j.toNat x).flatten) M:=nX
@[simp] theorem GI {m:Bool}{x:List D}{j:Int}{M:Mem}{k:D->Mem->Prop}:ag (gL m .mul (.lst x) (.int j) M) k↔(x.length*j.toNat<=sz/\-(2^63)<=j/\j<2^63)/\ag (a9 m (List.replicate j.toNat x).flatten M) k:=nX
theorem rD {xs:List D}{a:Nat}{M:Mem}{k:D->Mem->Prop}:ag (fE false (.lst xs) .non (.int a) M) k↔(xs.take a).length<=sz/\k (.lst (xs.take a)) M:=by
 have e:cut xs 0 (min a xs.length)=xs.take a:=by
  unfold cut
  rcases Nat.le_total a xs.length with h|h
  ·rw [Nat.min_eq_left h];simp
  ·rw [Nat.min_eq_right h];simp [Nu h]
 show ag (match aI xs.length 0 D.non,aI xs.length xs.length (.int a) with|some l,some h=>a9 false (cut xs l h) M|_,_=>.bad) k↔_
 have e2:aI xs.length xs.length (.int a)=some (min a xs.length):=by
  show some _=_
  rw [if_neg (by omega)];simp
 rw [e2]
 show ag (a9 false (cut xs 0 (min a xs.length)) M) k↔_
 rw [e,bQ]
theorem zO {xs:List D}{a:Nat}{M:Mem}{k:D->Mem->Prop}:ag (fE false (.lst xs) (.int a) .non M) k↔(xs.drop a).length<=sz/\k (.lst (xs.drop a)) M:=by
 have e:cut xs (min a xs.length) xs.length=xs.drop a:=by
  unfold cut
  rcases Nat.le_total a xs.length with h|h
  ·rw [Nat.min_eq_left h,Nu (by simp)]
  ·rw [Nat.min_eq_right h];simp [List.drop_eq_nil_of_le h]
 show ag (match aI xs.length 0 (.int a),aI xs.length xs.length D.non with|some l,some h=>a9 false (cut xs l h) M|_,_=>.bad) k↔_
 have e2:aI xs.length 0 (.int a)=some (min a xs.length):=by
  show some _=_
  rw [if_neg (by omega)];simp
 rw [e2]
 show ag (a9 false (cut xs (min a xs.length) xs.length) M) k↔_
 rw [e,bQ]
theorem sN {w:Nat}{ge:GE}{Z:Env}{M:Mem}{kl:List D->Mem->Prop}(f:Nat->Nat)(hw:w<=100)(hf:∀k,k<w->ge (some (.int (k:Int))::Z) M=.ok (nD (f k)) M)(hk:kl (((List.range w).map f).map nD) M) :
 ag (c6 (dn (.one 0) (bH ge) (none::Z)) (fun _=>some ((List.range w).map fun (k:Nat)=>D.int (k:Int))) [] M) kl:=by
 refine fO (ds:=(List.range w).map fun (k:Nat)=>D.int (k:Int)) (fun d=>match d with|.int i=>nD (f i.toNat)|_=>.non) (aG (by simp;omega)) rfl (fun d hd=>?_) ?_
 ·obtain ⟨k,hk,rfl⟩:=MR.mp hd
  exact ⟨_,rfl,hf k (List.mem_range.mp hk)⟩
 ·simpa [NV] using hk
theorem tU {w:Nat}{f:Nat->Nat}(hf:∀k,k<w->f k<w):iR w ((List.range w).map f):=⟨by simp,fun x hx=>by
 obtain ⟨k,hk,rfl⟩:=MR.mp hx
 exact hf k (List.mem_range.mp hk)⟩
section
variable {P:Nat->Option Df}(h:HasP0 P){M:Mem}
include h
theorem Di (n:Nat){p B:Nat}(hp:aL M p B):ag (ak P (n+1) 30 [.cell p] M) fun d M'=>d=.cell p/\aL M' p B/\bc p M M':=by
 obtain ⟨c,cells,a,st,e1,e2,lt,a0,aB,s0⟩:=hp.ex
 have ne:c≠p:=MO lt
 have hpl:p<M.length:=(LZ.mp e1).1
 refine aA h.law_anew rfl ?_
 simp [jF,e1,Le]
 refine ⟨⟨c,cells,a,0,by simp [hpl],?_,lt,a0,aB,by omega⟩,bc.set⟩
 rw [Mc (Ng ne)];exact e2
theorem tk (n:Nat){p B many:Nat}{k:D->Mem->Prop}(hp:aL M p B)(hB:B<=1000000)(h0:0<many)(h1:many<=10000000)(hk:∀(v:Nat) (M':Mem),v<many->aL M' p (B+1)->bc p M M'->k (nD v) M'):ag (ak P (n+2) 31 [.cell p,nD many] M) k:=
 aT (tW h n hp hB h0 h1) fun d M' ⟨v,e,hv,hp',hk'⟩=>by subst e;exact hk v M' hv hp' hk'
end
theorem bd {B c k m:Nat}(h:B<=c)(e:c+k<=m):B+k<=m:=Mb (Nat.add_le_add_right h k) e
theorem vE {B k m:Nat}(e:k<=m):B+k<=B+m:=Nat.add_le_add_left e B
theorem IX {xs:List D}{v:Nat}{M:Mem}(h:v<xs.length):cu (.lst xs) (nD v) M=some xs[v]:=by
 show (bz xs.length (v:Int)).bind (fun j=>xs[j]?)=_
 rw [eK h]
 simp [h]
theorem vC {Z:Env}{M:Mem}{j v c:Nat}(h:Z[j]?.getD none=some (nD v)):(aE (aU .lt (aa j) (gC (.int (c:Int)))):GT) Z M=.ok (decide (v<c)) M:=by
 refine lu ?_
 simp only [nH,ma,bT,fo]
 refine ⟨_,h,_,rfl,_,rfl,?_,trivial⟩
 simp
theorem gq {Z:Env}{M:Mem}{j v c:Nat}(h:Z[j]?.getD none=some (nD v)):(aE (aU .eq (aa j) (gC (.int (c:Int)))):GT) Z M=.ok ((v:Int)==(c:Int)) M:=by
 refine lu ?_
 simp only [nH,ma,bT,fo]
 exact ⟨_,h,_,rfl,_,rfl,rfl,trivial⟩
section
variable {Z:Env}{M:Mem}{g a:GE}{rest:GS}{kf:Fl->Mem->Prop}
section
variable {P:Nat->Option Df}(hp_:HasP0 P)(n:Nat){i j p B many:Nat}(hj:Z[j]?.getD none=some (.cell p))(hg:g Z M=.ok (nD many) M)(hp:aL M p B)(hB:B<=1000000)(h0:0<many)(h1:many<=10000000)
include hp_ hj hg hp hB h0 h1
theorem gr:ag (au 31 (ak P (n+2)) (ae (aa j) (ae g ah)) Z M) fun d M'=>∃v:Nat,d=nD v/\v<many/\aL M' p (B+1)/\bc p M M':=by
 rw [bB (aq (ai hj) (aq hg rfl))]
 exact tW hp_ n hp hB h0 h1
theorem du (hk:∀(v:Nat) (M':Mem),v<many->aL M' p (B+1)->bc p M M'->ag (rest (Z.set i (some (nD v))) M') kf):ag (af (aH (.one i) (au 31 (ak P (n+2)) (ae (aa j) (ae g ah)))) rest Z M) kf:=by
 refine cb (gr hp_ n hj hg hp hB h0 h1) ?_
 rintro x M' ⟨v,rfl,a,b,c⟩
 exact hk v M' a b c
end
end
section
variable {Z:Env}{M:Mem}{k:D->Mem->Prop}
theorem bE {e:GE}{K:Fl->Mem->Prop}(h:ag (e Z M) fun x M=>K (.ret x) M):ag (af (aN e) aj Z M) K:=by
 simp only [aX,d5]
 exact h
theorem xW {e:GE}{j v w:Nat}(he:e Z M=.ok (nD v) M)(hj:Z[j]?.getD none=some (nD w))(hw:0<w):aw false .mod e (aa j) Z M=.ok (nD (v % w)) M:=by
 unfold aw
 rw [he]
 show (aa j Z M).bind _=_
 rw [ai hj]
 show (if (0:Int)<(w:Int) then Res.ok (D.int ((v:Int) % (w:Int))) M else .bad)=_
 rw [if_pos (by omega)]
 rfl
theorem iU {e f:GE}{v w:Nat}(he:e Z M=.ok (nD v) M)(hf:f Z M=.ok (nD w) M):aw false .add e f Z M=.ok (nD (v+w)) M:=by
 unfold aw
 rw [he]
 show (f Z M).bind _=_
 rw [hf]
 rfl
theorem Ff {e:GE}{v c:Nat}(he:e Z M=.ok (nD v) M)(hc:c<=v):aw false .sub e (gC (.int (c:Int))) Z M=.ok (nD (v-c)) M:=by
 unfold aw
 rw [he]
 show Res.ok (D.int ((v:Int)-(c:Int))) M=_
 rw [<- Int.ofNat_sub hc]
end
section
variable {P:Nat->Option Df}(h:HasP P){M:Mem}
include h
theorem wW (n:Nat){p B w:Nat}(hp:aL M p B)(hB:B<=900000)(w2:2<=w)(w4:w<=4):ag (ak P (n+3) 32 [.cell p,nD w] M) fun d M'=>∃t,d=aM t/\iR w t/\aL M' p (B+7)/\bc p M M':=by
 have w0:0<w:=Mj (by decide) w2
 have wM:w<=10000000:=Mb w4 (NG rfl)
 refine aA h.law_tab rfl ?_
 show ag (iN (ak P (n+2)) [some (.cell p),some (nD w),none,none,none,none] M) _
 unfold iN
 refine du h n (many:=6) rfl rfl hp (Mb hB (by decide)) (by decide) (by decide) fun kind M1 hk p1 k1=>?_
 refine du h n (many:=w) rfl rfl p1 (bd (k:=1) hB (by decide)) w0 wM fun word M2 hw p2 k2=>?_
 refine du h n (many:=w) rfl rfl p2 (bd (k:=2) hB (by decide)) w0 wM fun other M3 ho p3 k3=>?_
 have K3:=(k1.trans k2).trans k3
 have fin:∀(l:List Nat) (M':Mem),iR w l->aL M' p (B+7)->bc p M M'->(l.map nD).length<=sz/\∃t,D.tup (l.map nD)=aM t/\iR w t/\aL M' p (B+7)/\bc p M M':=fun l M' hl hp' hk'=>⟨aG (by rw [Md,hl.1];omega),l,rfl,hl,hp',hk'⟩
 have p7:aL M3 p (B+7):=p3.mono (vE (k:=3) (by decide))
 show ag (af _ _ [some (.cell p),some (nD w),some (nD kind),some (nD word),some (nD other),none] M3) _
 refine bS (vC (c:=2) rfl) (fun _=>?_) fun _=>?_
 ·simp only [aX,d5,fv,bp,bO,eL,hU,bT]
  refine ⟨_,rfl,_,rfl,⟨by omega,by omega⟩,?_⟩
  refine comp_map (ds:=(List.range w).map fun (k:Nat)=>D.int (k:Int)) (fun i acc M'=>∃t:List Nat,acc=t.map nD/\(∀x∈t,x<w)/\aL M' p (B+3+i)/\bc p M M') (aG (by simp;omega)) (fun _ _ _ _=>rfl) ⟨[],rfl,(fun _ hx=>nomatch hx),p3,K3⟩ ?_ ?_
  ·rintro i d acc M' hd _ ⟨t,rfl,ht,hp',hk'⟩
   have hi:i<w:=by
    have:=(LZ.mp hd).1
    simpa using this
   refine ⟨_,rfl,aT (gr h n (many:=w) rfl rfl hp' (by omega) w0 wM) ?_⟩
   rintro _ M4 ⟨v,rfl,hv,p4,k4⟩
   refine ⟨t++[v],by rw [Nl];rfl,fun x hx=>?_,p4,hk'.trans k4⟩
   rcases MQ.mp hx with z|z
   ·exact ht x z
   ·rw [NF.mp z];exact hv
  ·rintro acc M' hl ⟨t,rfl,ht,hp',hk'⟩
   simp only [Md,Nv] at hl hp'
   exact bQ.mpr (fin t M' ⟨hl,ht⟩ (hp'.mono (by omega)) hk')
 refine bS (gq (c:=2) rfl) (fun _=>?_) fun _=>?_
 ·simp only [aX,d5,fv,bp,bO,eL,hU,bT]
  refine ⟨_,rfl,_,rfl,⟨by omega,by omega⟩,?_⟩
  exact sN (fun k=>(k+1+word) % w) (by omega) (fun k hk=>xW (iU (iU (ai rfl) rfl) (ai rfl)) rfl w0) (bQ.mpr (fin _ M3 (tU fun k _=>Nat.mod_lt _ w0) p7 K3))
 refine bS (gq (c:=3) rfl) (fun _=>?_) fun _=>?_
 ·simp only [aX,d5,fv,bp,bO,eL,hU,bT]
  refine ⟨_,rfl,_,rfl,⟨by omega,by omega⟩,?_⟩
  refine sN (fun k=>if k=word then other else k) (by omega) (fun k hk=>?_) (bQ.mpr (fin _ M3 (tU fun k hk=>by split<;>assumption) p7 K3))
  have e:(aE (aU .eq (aa 0) (aa 4)):GT) [some (.int (k:Int)),some (.cell p),some (nD w),some (nD kind),some (nD word),some (nD other),none] M3=.ok ((k:Int)==(word:Int)) M3:=rfl
  by_cases ck:k=word
  ·rw [if_pos ck]
   exact lV (k:=true) (e.trans (by rw [ck,beq_self_eq_true])) (fun _=>rfl) (fun z=>nomatch z)
  ·rw [if_neg ck]
   exact lV (k:=false) (e.trans (by rw [MP.mpr (by omega)])) (fun z=>nomatch z) (fun _=>rfl)
 refine bS (gq (c:=4) rfl) (fun _=>bE ?_) fun _=>?_
 ·simp only [jt,iI,bp,bO,bT]
  refine ⟨_,rfl,aG (n:=1) (by decide),_,rfl,GH.mpr ⟨⟨aG (by simp;omega),by omega,by omega⟩,List.replicate w word,?_,⟨List.length_replicate,fun x hx=>by rw [List.eq_of_mem_replicate hx];exact hw⟩,p7,K3⟩⟩
  simp [aM,nD]
 ·simp only [aX,hZ,Ej,bT,Fq,d5,fv,bp,bO,dQ]
  simp
  refine ⟨by omega,aG (by omega),word,eK hw,other,eK ho,((List.range w).set word other).set other word,?_,⟨by simp,fun x hx=>?_⟩,p7.app,K3.trans bc.app⟩
  ·simp [aM,nD,List.map_set]
  ·rcases List.mem_or_eq_of_mem_set hx with z|rfl
   ·rcases List.mem_or_eq_of_mem_set z with y|rfl
    ·exact List.mem_range.mp y
    ·exact ho
   ·exact hw
theorem zK (n:Nat){p B w pl:Nat}(hp:aL M p B)(hB:B<=800000)(w2:2<=w)(w4:w<=4)(p1:1<=pl)(p2:pl<=2):ag (ak P (n+4) 33 [.cell p,nD w,nD pl] M) fun d M'=>∃e:aW,d=e.d/\bY w pl e/\aL M' p (B+40)/\bc p M M':=by
 have pM:pl<=10000000:=Mb p2 (NG rfl)
 refine aA h.law_deed rfl ?_
 show ag (g8 (ak P (n+3)) [some (.cell p),some (nD w),some (nD pl),none,none,none,none] M) _
 unfold g8
 refine du h (n+1) (many:=8) rfl rfl hp (Mb hB (by decide)) (by decide) (by decide) fun kind M1 hk q1 k1=>?_
 refine cb (k:=fun d M'=>∃v:Nat,d=nD (1+v)/\v<3/\aL M' p (B+2)/\bc p M1 M') ?_ ?_
 ·rw [jt]
  simp only [fo]
  refine aT (gr h (n+1) (many:=3) rfl rfl q1 (bd (k:=1) hB (by decide)) (by decide) (by decide)) ?_
  rintro _ M2 ⟨v,rfl,hv,q,kk⟩
  exact oz.mpr ⟨v,by show D.int (1+(v:Int))=D.int ((1+v:Nat):Int);rw [Int.natCast_add];rfl,hv,q,kk⟩
 rintro _ M2 ⟨price,rfl,hc,q2,k2⟩
 refine du h (n+1) (many:=pl) rfl rfl q2 (bd (k:=2) hB (by decide)) p1 pM fun at_ M3 ha q3 k3=>?_
 refine du h (n+1) (many:=pl) rfl rfl q3 (bd (k:=3) hB (by decide)) p1 pM fun other M4 ho q4 k4=>?_
 have K4:=((k1.trans k2).trans k3).trans k4
 have co:eU (1+price):=⟨by omega,by omega⟩
 have q40:aL M4 p (B+40):=q4.mono (vE (k:=4) (by decide))
 show ag (af _ _ [some (.cell p),some (nD w),some (nD pl),some (nD kind),some (nD (1+price)),some (nD at_),some (nD other)] M4) _
 refine bS (vC (c:=3) rfl) (fun _=>bE ?_) fun _=>?_
 ·simp only [iI,bp,bO,fo,bT,je]
  refine ⟨_,rfl,_,rfl,_,rfl,aT (wW h n q4 (bd (k:=4) hB (by decide)) w2 w4) fun d M' ⟨t,e,ht,hp',hk'⟩=>⟨_,rfl,aG (n:=4) (by decide),.turn at_ t (1+price),?_,⟨ha,ht,co⟩,hp'.mono (vE (k:=11) (by decide)),K4.trans hk'⟩⟩
  subst e;rfl
 refine bS (vC (c:=5) rfl) (fun _=>bE ?_) fun _=>?_
 ·obtain ⟨o,eo,ho'⟩:∃o:Nat,jd (aE (aU .eq (aa 3) (gI 3))) (aw false .mod (aw false .add (aa 5) (gI 1)) (aa 2)) (aa 6) [some (.cell p),some (nD w),some (nD pl),some (nD kind),some (nD (1+price)),some (nD at_),some (nD other)] M4=.ok (nD o) M4/\o<pl:=by
   have e:(aE (aU .eq (aa 3) (gI 3)):GT) [some (.cell p),some (nD w),some (nD pl),some (nD kind),some (nD (1+price)),some (nD at_),some (nD other)] M4=.ok ((kind:Int)==3) M4:=gq (c:=3) rfl
   cases q:(kind:Int)==3 with
   |true=>rw [q] at e;exact ⟨(at_+1) % pl,lV e (fun _=>xW (w:=pl) (iU (v:=at_) (w:=1) (ai rfl) rfl) rfl p1) (fun z=>nomatch z),Nat.mod_lt _ p1⟩
   |false=>rw [q] at e;exact ⟨other,lV e (fun z=>nomatch z) (fun _=>ai rfl),ho⟩
  simp only [iI,bp,bO,fo,bT]
  refine ⟨_,rfl,?_⟩
  rw [eo,dW]
  exact ⟨_,rfl,aG (n:=4) (by decide),.move at_ o (1+price),rfl,⟨ha,ho',co⟩,q40,K4⟩
 refine bS (gq (c:=5) rfl) (fun _=>bE ?_) fun _=>?_
 ·simp only [iI,bp,bO,fo]
  show ag (ak P (n+3) 31 [.cell p,nD w] M4) _
  refine tk h (n+1) q4 (bd (k:=4) hB (by decide)) (Mj (by decide) w2) (Mb w4 (NG rfl)) fun v M5 hv q5 k5=>?_
  exact ⟨aG (n:=4) (by decide),.put at_ v (1+price),rfl,⟨ha,hv,co⟩,q5.mono (vE (k:=5) (by decide)),K4.trans k5⟩
 ·simp only [aX,d5,iI,bp,bO,fo,fv,eL,hU,bT]
  refine ⟨_,rfl,_,rfl,_,rfl,_,rfl,⟨by omega,by omega⟩,?_⟩
  refine comp_map (ds:=(List.range w).map fun (k:Nat)=>D.int (k:Int)) (fun i acc M'=>∃t:List (List Nat),acc=t.map aM/\(∀x∈t,iR w x)/\aL M' p (B+4+i*7)/\bc p M M') (aG (by simp;omega)) (fun _ _ _ _=>rfl) ⟨[],rfl,(fun _ hx=>nomatch hx),q4,K4⟩ ?_ ?_
  ·rintro i d acc M' hd _ ⟨t,rfl,ht,hp',hk'⟩
   have hi:i<w:=by
    have:=(LZ.mp hd).1
    simpa using this
   refine ⟨_,rfl,?_⟩
   rw [bB (aq (ai rfl) (aq (ai rfl) rfl))]
   refine aT (wW h n hp' (by omega) w2 w4) ?_
   rintro _ M4 ⟨v,rfl,hv,p4,k4⟩
   refine ⟨t++[v],by rw [Nl];rfl,fun x hx=>?_,p4.mono (by omega),hk'.trans k4⟩
   rcases MQ.mp hx with z|z
   ·exact ht x z
   ·rw [NF.mp z];exact hv
  ·rintro acc M' hl ⟨t,rfl,ht,hp',hk'⟩
   simp only [Md,Nv] at hl hp'
   exact bQ.mpr ⟨aG (by rw [Md];omega),_,rfl,aG (n:=5) (by decide),.join at_ other t (1+price),rfl,⟨ha,ho,⟨hl,ht⟩,co⟩,hp'.mono (by omega),hk'⟩
theorem u7 (n:Nat){p B W Pl mo:Nat}(hp:aL M p B)(hB:B<=700000)(W2:2<=W)(W4:W<=4)(P1:1<=Pl)(P2:Pl<=2)(m1:1<=mo)(m6:mo<=6):ag (ak P (n+5) 34 [.cell p,nD W,nD Pl,nD mo] M) fun d M'=>∃m:aR,d=m.d/\a8 m/\m.words<=W/\m.places<=Pl/\m.deeds.length<=mo/\aL M' p (B+300)/\bc p M M':=by
 refine aA h.law_machine rfl ?_
 show ag (fc (ak P (n+4)) [some (.cell p),some (nD W),some (nD Pl),some (nD mo),none,none,none,none] M) _
 unfold fc
 have plus:∀{Z:Env}{M:Mem}{g:GE}{B c many:Nat}{rest:GS}{K:Fl->Mem->Prop}{i:Nat},Z[0]?.getD none=some (.cell p)->g Z M=.ok (nD many) M->aL M p B->B<=1000000->0<many->many<=10000000->(∀(v:Nat) (M':Mem),v<many->aL M' p (B+1)->bc p M M'->ag (rest (Z.set i (some (nD (c+v)))) M') K)->ag (af (aH (.one i) (aw false .add (gC (.int (c:Int))) (au 31 (ak P (n+4)) (ae (aa 0) (ae g ah))))) rest Z M) K:=by
  intro Z M g B c many rest K i e0 eg hp hB h0 h1 hk
  refine cb (k:=fun d M'=>∃v:Nat,d=nD (c+v)/\v<many/\aL M' p (B+1)/\bc p M M') ?_ ?_
  ·rw [jt]
   simp only [fo]
   refine aT (gr h (n+2) (many:=many) e0 eg hp hB h0 h1) ?_
   rintro _ M2 ⟨v,rfl,hv,q,kk⟩
   exact oz.mpr ⟨v,by show D.int ((c:Int)+(v:Int))=D.int ((c+v:Nat):Int);rw [Int.natCast_add],hv,q,kk⟩
  ·rintro _ M' ⟨v,rfl,a,b,c⟩
   exact hk v M' a b c
 refine plus (c:=2) (many:=W-1) rfl (Ff (c:=1) (ai rfl) (by omega)) hp (Mb hB (by decide)) (by omega) (by omega) fun w M1 hw q1 k1=>?_
 refine plus (c:=1) (many:=Pl) rfl (ai rfl) q1 (bd (k:=1) hB (by decide)) P1 (Mb P2 (NG rfl)) fun pl M2 hpl q2 k2=>?_
 have pl2:p<M2.length:=q2.lt
 have K2:=k1.trans k2
 have ML:M.length<=M2.length:=K2.len
 have w2:2<=2+w:=NL _ _
 have w4:2+w<=4:=by omega
 have l1:1<=1+pl:=NL _ _
 have l2:1+pl<=2:=by omega
 generalize hW:2+w=w' at w2 w4
 generalize hP:1+pl=p' at l1 l2
 refine cb (k:=fun d M'=>d=.cell M2.length/\M'=M2++[[]]) ?_ ?_
 ·simp only [kr,bO]
  exact eC.mpr ⟨NJ _,rfl,rfl⟩
 rintro _ _ ⟨rfl,rfl⟩
 show ag (af _ _ [some (.cell p),some (nD w'),some (nD p'),some (nD mo),some (.cell M2.length),none,none,none] (M2++[[]])) _
 simp only [aX,nN,hU,jt,fo]
 refine aT (gr h (n+2) (many:=mo) rfl rfl q2.app (bd (k:=2) hB (by decide)) m1 (Mb m6 (NG rfl))) ?_
 rintro _ M3 ⟨many,rfl,hmany,q3,k3⟩
 have e3:M3[M2.length]?=some []:=k3.get (List.getElem?_concat_length) (by omega)
 have K3:bc p M M3:=K2.trans (bc.app.trans k3)
 generalize hq:M2.length=q at *
 refine oz.mpr ⟨_,rfl,⟨by omega,by omega⟩,?_⟩
 rw [show (1+(many:Int)).toNat=1+many by omega]
 refine fN (ds:=(List.range (1+many)).map fun (k:Nat)=>D.int (k:Int)) (fun i Z M'=>∃ds:List aW,M'[q]?=some (ds.map aW.d)/\ds.length=i/\(∀d∈ds,bY w' p' d)/\aL M' p (B+3+i*45)/\bc p M M'/\∃a b c,Z=[some (.cell p),some (nD w'),some (nD p'),some (nD mo),some (.cell q),a,b,c])
  (fun _ _ _ _=>rfl) ⟨[],e3,rfl,(fun _ hd=>nomatch hd),q3,K3,none,none,none,rfl⟩ ?_ ?_
 ·rintro i d Z M' hd ⟨ds,e4,hl,hds,q4,K4,a,b,c,rfl⟩
  have hi:i<1+many:=by
   have:=(LZ.mp hd).1
   simpa using this
  have hi6:i<=5:=by omega
  have hB4:B+3+i*45<=700228:=by omega
  have hqM:M.length<=q:=ML
  have hpq:p<q:=pl2
  refine ⟨_,rfl,?_⟩
  refine du h (n+2) (many:=5) rfl rfl q4 (Mb hB4 (by decide)) (by decide) (by decide) fun again M5 ha q5 k5=>?_
  have e5:=k5.get e4 (Nc hpq)
  refine cb (k:=fun d M'=>∃e:aW,d=e.d/\bY w' p' e/\aL M' p (B+3+i*45+41)/\bc p M5 M') ?_ ?_
  ·rw [bB (aq (ai rfl) (aq (ai rfl) (aq (ai rfl) rfl)))]
   exact aT (zK h n (w:=w') (pl:=p') q5 (bd (k:=1) hB4 (by decide)) w2 w4 l1 l2) fun d M' ⟨e,a,b,c,d⟩=>⟨e,a,b,c,d⟩
  rintro _ M6 ⟨e,rfl,he,q6,k6⟩
  have e6:=k6.get e5 (Nc hpq)
  have K6:=(K4.trans k5).trans k6
  have hsm:(ds.map aW.d).length<sz:=Nat.lt_of_le_of_lt (show (ds.map aW.d).length<=50 by rw [Md,hl];omega) (by decide)
  have fin:∀(e:aW) (M'':Mem) (x5 x6:Option D),bY w' p' e->M''[q]?=some (ds.map aW.d)->aL M'' p (B+3+(i+1)*45)->bc p M M''->
   ag (af (dU (aa 4) (aa 7)) aj [some (.cell p),some (nD w'),some (nD p'),some (nD mo),some (.cell q),x5,x6,some e.d] M'') fun fl M'=>∃ρ',fl=.next ρ'/\∃ds:List aW,M'[q]?=some (ds.map aW.d)/\ds.length=i+1/\(∀d∈ds,bY w' p' d)/\aL M' p (B+3+(i+1)*45)/\bc p M M'/\∃a b c,ρ'=[some (.cell p),some (nD w'),some (nD p'),some (nD mo),some (.cell q),a,b,c]:=by
   intro e M'' x5 x6 he e7 q7 K7
   simp only [aX,Fv,bT]
   refine ⟨_,rfl,_,rfl,q,ds.map aW.d,rfl,e7,hsm,_,rfl,ds++[e],?_,by rw [Mz,hl];rfl,fun d hd=>?_,q7.setq hpq,K7.setq hqM,_,_,_,rfl⟩
   ·rw [Mn (LZ.mp e7).1,Nl];rfl
   ·rcases MQ.mp hd with z|z
    ·exact hds d z
    ·rw [NF.mp z];exact he
  show ag (af _ _ [some (.cell p),some (nD w'),some (nD p'),some (nD mo),some (.cell q),some d,some (nD again),some e.d] M6) _
  have en:(aE (aU .ne (aa 4) (bA false ah)):GT) [some (.cell p),some (nD w'),some (nD p'),some (nD mo),some (.cell q),some d,some (nD again),some e.d] M6=.ok (!ds.isEmpty) M6:=by
   refine bX ?_
   unfold aU
   show (bR M6 (bJ .ne (.cell q) (.lst []) M6)).bind _=_
   rw [ne_nil e6];rfl
  refine bS (pz (gq (c:=0) rfl) en) (fun cc=>?_) fun _=>fin e M6 _ _ he e6 (q6.mono (by omega)) K6
  have hpos:0<ds.length:=by
   rw [L6] at cc
   cases ds with
   |nil=>exact absurd cc.2 (by decide)
   |cons _ _=>exact Nat.succ_pos _
  simp only [aX,hZ,jt,l8,Cc,iI,bp,bO,Jf,fo]
  have el:aV .len (ae (aa 4) ah) [some (.cell p),some (nD w'),some (nD p'),some (nD mo),some (.cell q),some d,some (nD again),some e.d] M6=.ok (nD ds.length) M6:=by
   refine av ?_
   simp only [fv,bp,bO,bT]
   exact ⟨_,rfl,sk.mpr ⟨_,e6,by rw [Md],rfl⟩⟩
  show ag (au 31 (ak P (n+4)) (ae (aa 0) (ae (aV .len (ae (aa 4) ah)) ah)) [some (.cell p),some (nD w'),some (nD p'),some (nD mo),some (.cell q),some d,some (nD again),some e.d] M6) _
  refine aT (gr h (n+2) (many:=ds.length) rfl el q6 (bd (k:=41) hB4 (by decide)) hpos (by omega)) ?_
  rintro _ M7 ⟨v,rfl,hv,q7,k7⟩
  have e7:=k7.get e6 (Nc hpq)
  refine ⟨(ds.getD v e).d,?_,1,rfl,rfl,rfl,?_⟩
  ·show (M7[q]?).bind (fun ds=>(bz ds.length (v:Int)).bind fun j=>ds[j]?)=_
   rw [e7]
   show (bz (ds.map aW.d).length (v:Int)).bind (fun j=>(ds.map aW.d)[j]?)=_
   rw [eK (by rw [Md];exact hv)]
   simp [Nj,hv]
  ·refine aT (A1 (d:=ds.getD v e) (c:=e.cost) (k:=fun x M'=>ag (af (dU (aa 4) (aa 7)) aj [some (.cell p),some (nD w'),some (nD p'),some (nD mo),some (.cell q),some d,some (nD again),some x] M') fun fl M'=>∃ρ',fl=.next ρ'/\∃ds:List aW,M'[q]?=some (ds.map aW.d)/\ds.length=i+1/\(∀d∈ds,bY w' p' d)/\aL M' p (B+3+(i+1)*45)/\bc p M M'/\∃a b c,ρ'=[some (.cell p),some (nD w'),some (nD p'),some (nD mo),some (.cell q),a,b,c]) ?_) fun x1 M3 hx=>⟨1,rfl,nD e.cost,qe,aG (n:=1) (by decide),hx⟩
   exact fin _ M7 _ _ (yW (hds _ (getD_mem hv)) (EE he)) e7 (q7.mono (by omega)) (K6.trans k7)
 ·rintro Z M' ⟨ds,e4,hl,hds,q4,K4,a,b,c,rfl⟩
  simp only [Md,Nv] at hl q4
  refine bE ?_
  simp only [iI,bp,bO,fv,bT]
  refine ⟨_,rfl,_,rfl,_,rfl,uU.mpr ⟨_,e4,aG (n:=3) (by decide),⟨w',p',ds⟩,rfl,⟨w2,w4,l1,l2,?_,?_,hds⟩,?_,?_,?_,q4.mono (by omega),K4⟩⟩
  ·show 1<=ds.length;omega
  ·show ds.length<=6;omega
  ·show w'<=W;omega
  ·show p'<=Pl;omega
  ·show ds.length<=mo;omega
omit h in
theorem uy {g:GE}{Z:Env}{l:List aW}(e:g Z M=.ok (.tup (l.map aW.d)) M):aV .len (ae g ah) Z M=.ok (nD l.length) M:=by
 refine av ?_
 simp only [fv]
 rw [aq e rfl,dW]
 exact ⟨congrArg (fun (n:Nat)=>D.int n) (Md _),rfl⟩
theorem Dd (h35:P 35=some ⟨3,6,gz⟩)(n:Nat){p B mo:Nat}{m:aR}(hm:a8 m)(hp:aL M p B)(hB:B<=700000)(hmo:mo<=40):ag (ak P (n+3) 35 [.cell p,m.d,nD mo] M) fun d M'=>∃r:List Nat,d=.lst (r.map nD)/\bj m r/\r.length<=mo/\aL M' p (B+50)/\bc p M M':=by
 refine aA h35 rfl ?_
 show ag (gz (ak P (n+2)) [some (.cell p),some m.d,some (nD mo),none,none,none] M) _
 unfold gz
 refine du h n (many:=4) rfl rfl hp (by omega) (by decide) (by decide) fun kind M1 _ q1 k1=>?_
 refine cb (k:=fun d M'=>∃v:Nat,d=nD v/\v<=mo/\aL M' p (B+2)/\bc p M M') ?_ ?_
 ·show ag (jd _ _ _ [some (.cell p),some m.d,some (nD mo),some (nD kind),none,none] M1) _
  have t0:(aE (aU .eq (aa 3) (gI 0)):GT) [some (.cell p),some m.d,some (nD mo),some (nD kind),none,none] M1=.ok ((kind:Int)==((0:Nat):Int)) M1:=gq rfl
  rw [vO,t0,dW]
  split
  ·exact ⟨mo,rfl,L7 _,q1.mono (by omega),k1⟩
  ·refine aT (gr h n (many:=mo+1) rfl rfl q1 (by omega) (Nat.succ_pos _) (by omega)) fun d M' ⟨v,e,hv,a,b⟩=>⟨v,e,Nat.le_of_lt_succ hv,a,k1.trans b⟩
 intro x M2 hx
 show ag (af _ _ [some (.cell p),some m.d,some (nD mo),some (nD kind),some x,none] M2) _
 obtain ⟨many,ex,hmany,q2,k2⟩:=hx
 rw [ex];clear ex
 simp only [aX,hZ,eL,hU,bT]
 have m40:many<=40:=Mb hmany hmo
 refine ⟨_,rfl,_,rfl,⟨Int.le_trans (by decide) (Int.natCast_nonneg _),Int.lt_of_le_of_lt (Int.ofNat_le.mpr m40) (by decide)⟩,?_⟩
 rw [NB]
 refine comp_map (ds:=(List.range many).map fun (k:Nat)=>D.int (k:Int)) (fun i acc M'=>∃t:List Nat,acc=t.map nD/\(∀x∈t,x<m.deeds.length)/\aL M' p (B+2+i)/\bc p M M') (aG (by rw [Md,Nv];omega)) (fun _ _ _ _=>rfl) ⟨[],rfl,(fun _ z=>nomatch z),q2,k2⟩ ?_ ?_
 ·rintro i d acc M' hd _ ⟨t,rfl,ht,hp',hk'⟩
  have hi:i<many:=by
   have:=(LZ.mp hd).1
   rwa [Md,Nv] at this
  refine ⟨_,rfl,?_⟩
  refine aT (gr h n (many:=m.deeds.length) rfl (uy (bf (ai rfl) rfl BO)) hp' (by omega) hm.d1 (by have:=hm.d6;omega)) ?_
  rintro _ M4 ⟨v,rfl,hv,p4,k4⟩
  refine ⟨t++[v],by rw [Nl];rfl,fun x hx=>?_,p4,hk'.trans k4⟩
  rcases MQ.mp hx with z|z
  ·exact ht x z
  ·rw [NF.mp z];exact hv
 ·rintro acc M' hl ⟨t,rfl,ht,hp',hk'⟩
  rw [Md,Md,Nv] at hl
  rw [Md,Nv] at hp'
  have q3:=hp'.mono (show B+2+many<=B+50 by omega)
  have k3:=hk'
  have hl:t.length<=many:=Nat.le_of_eq hl
  refine bQ.mpr ⟨aG (by rw [Md];omega),?_⟩
  show ag (af _ _ [some (.cell p),some m.d,some (nD mo),some (nD kind),some (nD many),some (.lst (t.map nD))] M') _
  refine bS (gq (v:=kind) (c:=1) rfl) (fun _=>?_) fun _=>c8 (ai rfl) ⟨t,rfl,⟨by omega,ht⟩,by omega,q3,k3⟩
  refine cb (k:=fun d M4=>M4=M'/\d=.lst ((((List.replicate many (t.take 2)).flatten).take many).map nD)) ?_ ?_
  ·have l2:((t.map nD).take 2).length<=2:=by rw [Nz];exact Nat.min_le_left _ _
   simp only [l8,jt,bT,fo]
   refine ⟨_,rfl,rfl,rfl,(rD (a:=2)).mpr ⟨aG (by omega),_,rfl,GI.mpr ⟨⟨?_,by omega,by omega⟩,bQ.mpr ⟨?_,?_⟩⟩⟩⟩
   ·exact Mb (Nat.mul_le_mul l2 (show many<=40 by omega)) (by decide)
   ·rw [NB,List.length_flatten,List.map_replicate,List.sum_replicate_nat]
    exact Mb (Nat.mul_le_mul (show many<=40 by omega) l2) (by decide)
   ·refine ⟨_,rfl,rfl,rfl,rD.mpr ⟨aG (by rw [Nz];exact Mb (Nat.min_le_left _ _) (by omega)),rfl,?_⟩⟩
    rw [NB,N9,List.map_flatten,List.map_replicate,N9]
  rintro _ _ ⟨rfl,rfl⟩
  have lm:(((List.replicate many (t.take 2)).flatten).take many).length<=many:=by rw [Nz];exact Nat.min_le_left _ _
  refine xo.mpr (dQ.mpr (c8 (ai rfl) ⟨_,rfl,⟨by omega,fun i hi=>?_⟩,by omega,q3,k3⟩))
  obtain ⟨l,hl1,hl2⟩:=List.mem_flatten.mp (Ni hi)
  rw [(List.mem_replicate.mp hl1).2] at hl2
  exact ht i (Ni hl2)
end
end LD
namespace LD
open PySem
theorem Dk {xs:List D}{a b:Nat}{M:Mem}{k:D->Mem->Prop}:ag (fE false (.frz xs) (.int a) (.int b) M) k↔(cut xs (min a xs.length) (min b xs.length)).length<=sz/\k (.lst (cut xs (min a xs.length) (min b xs.length))) M:=by
 show ag (match aI xs.length 0 (.int a),aI xs.length xs.length (.int b) with|some l,some h=>a9 false (cut xs l h) M|_,_=>.bad) k↔_
 have e1:aI xs.length 0 (.int a)=some (min a xs.length):=by
  show some _=_
  rw [if_neg (by omega)];simp
 have e2:aI xs.length xs.length (.int b)=some (min b xs.length):=by
  show some _=_
  rw [if_neg (by omega)];simp
 rw [e1,e2]
 exact bQ
theorem zN {xs:List D}{b:Nat}{M:Mem}{k:D->Mem->Prop}:ag (fE false (.frz xs) .non (.int b) M) k↔(cut xs 0 (min b xs.length)).length<=sz/\k (.lst (cut xs 0 (min b xs.length))) M:=by
 show ag (match aI xs.length 0 D.non,aI xs.length xs.length (.int b) with|some l,some h=>a9 false (cut xs l h) M|_,_=>.bad) k↔_
 have e2:aI xs.length xs.length (.int b)=some (min b xs.length):=by
  show some _=_
  rw [if_neg (by omega)];simp
 rw [e2]
 exact bQ
theorem uK {α β:Type}(f:α->β)(l:List α)(a b:Nat):cut (l.map f) a b=(cut l a b).map f:=by simp [cut,N9,List.map_drop]
theorem pd {α:Type}(l:List α)(a b:Nat):(cut l a b).length<=l.length:=by simp [cut];omega
section
variable {P:Nat->Option Df}(h:HasP0 P){M:Mem}
include h
theorem Dg (n:Nat){ns:List Int}(hn:ns.length<=63):ag (ak P (n+1) 29 [.frz (ns.map D.int)] []) fun d M'=>d=.cell 1/\aL M' 1 0:=by
 refine aA h.law_open rfl ?_
 simp [jE,c9]
 refine (zN (b:=12)).mpr ⟨?_,?_⟩
 ·exact aG (Mb (pd _ _ _) (by simp;omega))
 simp only [Av,eC]
 refine ⟨aG (Mb (pd _ _ _) (by simp;omega)),(Dk (a:=12) (b:=63)).mpr ⟨aG (Mb (pd _ _ _) (by simp;omega)),⟨rfl,rfl⟩,?_⟩⟩
 rw [uK,uK]
 simp only [Md,List.length_nil,Oa]
 have e63:min 63 ns.length=ns.length:=by omega
 rw [e63]
 refine fN (ds:=dE 0 ((cut ns (min 12 ns.length) ns.length).map D.int)) (fun i Z M'=>∃l:List Int,M'=[l.map D.int]/\l.length=min 12 ns.length/\∃a b,Z=[some (.frz (ns.map D.int)),some (.cell 0),a,b]) (fun _ _ _ _=>rfl) ⟨cut ns 0 (min 12 ns.length),rfl,by simp [cut],none,none,rfl⟩ ?_ ?_
 ·rintro i d Z M' hd ⟨l,rfl,hl,a,b,rfl⟩
  rw [js,MU] at hd
  cases e:(cut ns (min 12 ns.length) ns.length)[i]? with
  |none=>rw [e] at hd;cases hd
  | some x =>
    rw [e] at hd
    have hd:D.tup [.int ((0+i:Nat):Int),.int x]=d:=L9 hd
    subst hd
    have hi:=(LZ.mp e).1
    have hlen:12<ns.length:=by
     by_cases c:12<ns.length
     ·exact c
     ·have:min 12 ns.length=ns.length:=by omega
      rw [this] at hi
      simp [cut] at hi
    have l12:l.length=12:=by omega
    have r1:=Nx (i:Int) (show (12:Int)≠0 by decide)
    have r2:=Nm (i:Int) (show (0:Int)<12 by decide)
    obtain ⟨y,ey⟩:=oW (l:=l) r1 (by rw [l12];exact r2)
    obtain ⟨k,ek⟩:∃k:Nat,(i:Int) % 12=(k:Int):=⟨((i:Int) % 12).toNat,by omega⟩
    refine ⟨_,rfl,?_⟩
    simp
    rw [ek] at ey ⊢
    have hk:k<l.length:=by omega
    refine ⟨_,ey,?_⟩
    simp only [oz]
    refine ⟨l.map D.int,rfl,k,?_,l.set k (y+x),?_,by simp [hl]⟩
    ·simpa using eK hk
    ·simp [List.map_set]
 ·rintro Z M' ⟨l,rfl,hl,a,b,rfl⟩
  simp
  exact ⟨by decide,⟨0,l,0,0,rfl,rfl,by decide,by decide,by decide,by decide⟩⟩
end
end LD
namespace LD
open PySem
theorem Sub.pen {p B:Nat}{M M':Mem}(h:Sub M M')(hp:aL M p B):aL M' p B:=by
 obtain ⟨c,cells,a,st,e1,e2,r⟩:=hp.ex
 exact ⟨c,cells,a,st,h.get e1,h.get e2,r⟩
theorem rK (n:Nat)(l:List Nat):aC (n+1) (aM l)=true:=by
 show (l.map nD).all (aC n)=true
 rw [Mp];intro x hx;obtain ⟨i,_,rfl⟩:=MR.mp hx;cases n<;>rfl
end LD
namespace LD
open PySem
structure HasB (P:Nat->Option Df):Prop where
 after:P 41=some ⟨2,4,td⟩
 begins:P 42=some ⟨1,1,qC⟩
structure HasS0 (P:Nat->Option Df):Prop where
 same:P 40=some ⟨2,2,bM⟩
structure HasS (P:Nat->Option Df):Prop extends HasB P,HasS0 P
theorem pA:∀ds:List D,gF ds ds=ds.map fun d=>.tup [d,d]
 |[]=>rfl
 |d::r=>by simp [gF,pA r]
theorem iB {ds:List D}{M:Mem}:bJ .notin (.bl false) (.lst (ds.map fun _=>.bl true)) M=some true:=by
 show ((bL M (.lst (ds.map fun _=>.bl true))).bind (kY (view M (.bl false)))).map (!·)=_
 show (kY (.bl false) (ds.map fun _=>.bl true)).map (!·)=_
 unfold kY
 rw [if_pos]
 ·have:(ds.map fun _=>D.bl true).any (fun y=>gy y (.bl false))=false:=by
   rw [List.any_eq_false];intro x hx;obtain ⟨_,_,rfl⟩:=MR.mp hx;exact Mx
  rw [this];rfl
 ·simp [aC]
theorem tH {ds:List D}{M:Mem}:(bL M (.lst (ds.map fun _=>.bl true))).bind ((Option.map fun x=>!x)∘kY (view M (.bl false)))=some true:=iB (ds:=ds) (M:=M)
theorem Je {i:Nat}{M:Mem}:lA M (.int (i:Int)) (.int (i:Int))=some true:=by
 show some ((i:Int)==(i:Int))=some true
 simp
@[simp] theorem KS {m:Bool}{ds:List D}{M:Mem}{k:D->Mem->Prop}:ag (dq (.list m) [.tup ds] M) k↔ag (a9 m ds M) k:=Nh
noncomputable def rG (c:Call):GS:=af (aS (aE (aU .ne (aV .len (ae (aa 0) ah)) (aV .len (ae (aa 1) ah)))) rF aj) (af (aN (aU .notin Hd (bI false 2 (.tup [0,1]) (lY (aa 0) (aa 1)) (bH (au 40 c (ae (aa 0) (ae (aa 1) ah))))))) aj)
section
variable {P:Nat->Option Df}(h:HasS0 P){M:Mem}
include h
theorem kG (n:Nat)(i:Nat):ak P (n+1) 40 [nD i,nD i] M=.ok (.bl true) M:=by
 refine av (aA h.same rfl ?_)
 show ag (bM (ak P n) [some (nD i),some (nD i)] M) _
 unfold bM
 exact bg rfl (bg rfl (jR rfl (v:=.bl ((i:Int)==(i:Int))) rfl ⟨by simp,rfl⟩))
theorem pQ (n:Nat){x y:D}{ds:List D}{Z:Env}{kl:List D->Mem->Prop}(hx:bL M x=some ds)(hy:bL M y=some ds)(hz:ds.length<=sz)(hs:∀d∈ds,ak P n 40 [d,d] M=.ok (.bl true) M)(hk:kl (ds.map fun _=>.bl true) M) :
 ag (c6 (dn (.tup [0,1]) (bH (au 40 (ak P n) (ae (aa 0) (ae (aa 1) ah)))) (none::none::Z)) (jY x y) [] M) kl:=by
 refine fO (ds:=ds.map fun d=>.tup [d,d]) (fun _=>.bl true) (by simpa using hz) ?_ ?_ ?_
 ·simp [jY,hx,hy,pA]
 ·intro d hd
  obtain ⟨e,he,rfl⟩:=MR.mp hd
  refine ⟨_,rfl,?_⟩
  refine av ?_
  simp
  rw [hs e he]
  exact ⟨rfl,rfl⟩
 ·simpa [NV] using hk
theorem zP (n:Nat){x y:D}{ds:List D}(hx:bL M x=some ds)(hy:bL M y=some ds)(lx:dq .len [x] M=.ok (.int ds.length) M)(ly:dq .len [y] M=.ok (.int ds.length) M)(sx:cT x=true)(sy:cT y=true)(hz:ds.length<=sz)(hs:∀d∈ds,ak P n 40 [d,d] M=.ok (.bl true) M) :
 ag (rG (ak P n) [some x,some y] M) (lg fun d M'=>d=.bl true/\M'=M):=by
 simp [rG,lx,ly,sx,sy]
 exact pQ h n hx hy hz hs ⟨by simpa using hz,iB,rfl⟩
theorem pL (n:Nat){ds:List D}(hz:ds.length<=sz)(hs:∀d∈ds,ak P n 40 [d,d] M=.ok (.bl true) M):ak P (n+1) 40 [.tup ds,.tup ds] M=.ok (.bl true) M:=by
 refine av (aA h.same rfl ?_)
 show ag (bM (ak P n) [some (.tup ds),some (.tup ds)] M) _
 unfold bM
 exact bg rfl (bg rfl (bg rfl (bg rfl (bg rfl (zP h n rfl rfl rfl rfl rfl rfl hz hs)))))
theorem wY (n:Nat){x y:D}{r:List Nat}(hx:bx M x r)(hy:bx M y r)(hz:r.length<=100000):ak P (n+2) 40 [x,y] M=.ok (.bl true) M:=by
 refine av (aA h.same rfl ?_)
 have hs:∀d∈r.map nD,ak P (n+1) 40 [d,d] M=.ok (.bl true) M:=fun d hd=>by obtain ⟨i,_,rfl⟩:=MR.mp hd;exact kG h n i
 have e1:=hx.seq
 have e2:=hy.seq
 have lx:∀k:D->Mem->Prop,ag (dq .len [x] M) k↔k (.int r.length) M:=fun k=>hx.len
 have ly:∀k:D->Mem->Prop,ag (dq .len [y] M) k↔k (.int r.length) M:=fun k=>hy.len
 have ix:∀t,dA t x=some (t==.list):=by
  intro t;rcases hx with rfl|⟨q,rfl,_⟩<;>rfl
 have iy:∀t,dA t y=some (t==.list):=by
  intro t;rcases hy with rfl|⟨q,rfl,_⟩<;>rfl
 have sx:=hx.is.1
 have sy:=hy.is.1
 have ny:=hy.non
 have c1:bJ .isN y .non M=some false:=by
  show some (gX y)=_
  rw [ny]
 simp [bM,c1,ix,iy,lx,ly,sx,sy]
 exact ⟨by rfl,by rfl,pQ h (n+1) e1 e2 (aG (by simp;omega)) hs ⟨aG (by simp;omega),iB,rfl⟩⟩
theorem jB (n:Nat){s:List Nat}(hz:s.length<=100):ak P (n+2) 40 [aM s,aM s] M=.ok (.bl true) M:=
 pL h (n+1) (aG (by simp;omega)) fun d hd=>by obtain ⟨i,_,rfl⟩:=MR.mp hd;exact kG h n i
end
end LD
namespace LD
open PySem
section
variable {Z:Env}{M:Mem}{a b d:GE}{k:D->Mem->Prop}{kw:Walk->Mem->Prop}{kf:Fl->Mem->Prop}
@[simp] theorem LQ:ag (lX a b d Z M) kw↔ag (a Z M) fun x M=>ag (b Z M) fun y M=>ag (d Z M) fun z M=>(cT x&&cT y&&cT z)=true/\kw (nz x y z) M:=by
 simp only [lX,bq];refine iff_of_eq ?_;congr 1;funext x M;congr 1;funext y M;congr 1;funext z M;split<;>simp_all
@[simp] theorem LK {m:Bool}{xs:List D}:ag (zT m (.lst xs) M) k↔ag (a9 m xs.reverse M) k:=Nh
@[simp] theorem LJ {m:Bool}{xs:List D}:ag (zT m (.tup xs) M) k↔k (.tup xs.reverse) M:=Nh
theorem Ef {t:cD}{w:Walk}{gb:GS}{ds:List D}(I:Nat->Env->Mem->Prop)(R:D->Mem->Prop)(hw:∀i Z M,I i Z M->w M=some ds)(hwR:∀d M,R d M->w M=some ds)(h0:I 0 Z M)
 (hs:∀i d Z M,ds[i]?=some d->I i Z M->∃ρ1,b7 t d Z=some ρ1/\ag (gb ρ1 M) fun fl M=>(∃ρ',fl=.next ρ'/\I (i+1) ρ' M)\/∃d,fl=.ret d/\R d M) (hk:∀Z M,I ds.length Z M->kf (.next Z) M) (hr:∀d M,R d M->kf (.ret d) M) :
 ag (c6 (fW t gb) w (.next Z) M) kf:=by
 refine iV (fun i fl M=>(∃Z,fl=.next Z/\I i Z M)\/∃d,fl=.ret d/\R d M) (fun i fl M h=>h.elim (fun ⟨Z,_,h⟩=>hw i Z M h) fun ⟨d,_,h⟩=>hwR d M h) (.inl ⟨Z,rfl,h0⟩) ?_ ?_
 ·rintro i d fl M hd (⟨Z,rfl,hI⟩|⟨d',rfl,hR⟩)
  ·obtain ⟨ρ1,e,h⟩:=hs i d Z M hd hI
   simp only [fW,bq,i6,e]
   exact ⟨ρ1,rfl,h⟩
  ·exact .inr ⟨d',rfl,hR⟩
 ·rintro fl M (⟨Z,rfl,hI⟩|⟨d,rfl,hR⟩)
  ·exact hk Z M hI
  ·exact hr d M hR
end
theorem HJ (i j:Nat):gy (nD i) (nD j)=decide (i=j):=by
 show ((i:Int)==(j:Int))=_
 rw [NS];simp;omega
theorem sV:∀l r:List Nat,jD (l.map nD) (r.map nD)=decide (l=r)
 |[],[]=>rfl
 |[],_::_=>rfl
 |_::_,[]=>rfl
 | i :: l, j :: r => by
   show (gy (nD i) (nD j)&&jD (l.map nD) (r.map nD))=_
   rw [HJ,sV l r,NS];simp
theorem HK (l r:List Nat):gy (aM l) (aM r)=decide (l=r):=sV l r
theorem rL (n:Nat)(l:List Nat):aC (n+1) (.lst (l.map nD))=true:=by
 show (l.map nD).all (aC n)=true
 rw [Mp];intro x hx;obtain ⟨i,_,rfl⟩:=MR.mp hx;cases n<;>rfl
theorem sT {l r:List Nat}{M:Mem}:bJ .ne (aM l) (aM r) M=some (!decide (l=r)):=ph (rK 63 l) (rK 63 r) (HK l r)
theorem yN {l r:List Nat}{M:Mem}:bJ .ne (.lst (l.map nD)) (.lst (r.map nD)) M=some (!decide (l=r)):=ph (rL 63 l) (rL 63 r) (sV l r)
noncomputable def ends (m:aR)(r:List Nat):List (List Nat):=(bU m).map (cJ m r)
theorem yO (m:aR)(r:List Nat):dC m r=.tup ((ends m r).map aM):=by simp [dC,ends,NV]
noncomputable def bo (m:aR)(a b:List Nat):Option (List Nat):=(bU m).find? fun s=>!decide (cJ m a s=cJ m b s)
noncomputable def cq:Option (List Nat)->D
 |some s=>aM s
 |none=>.non
theorem mJ {α:Type}(f g e:α->D):∀l:List α,eV (l.map f) (l.map g) (l.map e)=l.map fun s=>.tup [f s,g s,e s]
 |[]=>rfl
 |a::l=>by simp [eV,mJ f g e l]
theorem xK {m:aR}{a b:List Nat}{i:Nat}{s:List Nat}(hi:(bU m)[i]?=some s)(h:∀t∈(bU m).take i,cJ m a t=cJ m b t)(hs:cJ m a s≠cJ m b s):bo m a b=some s:=by
 have e:bU m=(bU m).take i++s::(bU m).drop (i+1):=by
  obtain ⟨h1,h2⟩:=LZ.mp hi
  rw [<- h2,<- List.drop_eq_getElem_cons h1,List.take_append_drop]
 unfold bo
 rw [e,List.find?_append]
 have:((bU m).take i).find? (fun s=>!decide (cJ m a s=cJ m b s))=none:=by
  rw [List.find?_eq_none];intro t ht;simp [h t ht]
 rw [this]
 simp [List.find?_cons,hs]
theorem xJ {m:aR}{a b:List Nat}(h:∀t∈bU m,cJ m a t=cJ m b t):bo m a b=none:=by
 unfold bo
 rw [List.find?_eq_none];intro t ht;simp [h t ht]
structure nq (P:Nat->Option Df):Prop where
 h15:P 15=some ⟨1,6,dm⟩
 h27:P 27=some ⟨2,2,g7⟩
 h46:P 46=some ⟨2,2,fT⟩
 parted:P 48=some ⟨3,8,ng⟩
section
variable {P:Nat->Option Df}{M:Mem}
theorem rA (h:HasM P)(ha:nq P)(n:Nat){m:aR}{x y:D}{a b:List Nat}(hx:bx M x a)(hy:bx M y b)(hm:a8 m)(h1:bj m a)(h2:bj m b):ag (ak P (n+12) 48 [m.d,x,y] M) fun d M'=>d=cq (bo m a b)/\Sub M M':=by
 have b1:=pP h ha.h15 ha.h27 ha.h46 n hx hm h1
 have b2:=pP h ha.h15 ha.h27 ha.h46 n (hy.sub (Sub.app (X:=(bU m).map fun s=>(cV m a s).map aM))) hm h2
 generalize hM2:(M++(bU m).map fun s=>(cV m a s).map aM)++((bU m).map fun s=>(cV m b s).map aM)=M2 at b2
 have S2:Sub M M2:=by subst hM2;rw [List.append_assoc];exact Sub.app
 have bb:=t7 h.toHasM0 ha.h15 (n+2) (M:=M2) hm
 refine aA ha.parted rfl ?_
 simp [ng,b1,b2,bb,cT]
 refine ⟨⟨rfl,rfl⟩,?_⟩
 refine Ef (ds:=(bU m).map fun s=>.tup [aM s,aM (cJ m a s),aM (cJ m b s)]) (fun i Z M'=>(∀t∈(bU m).take i,cJ m a t=cJ m b t)/\Sub M M'/\∃x5 x6 x7,Z=[some m.d,some x,some y,some (dC m a),some (dC m b),x5,x6,x7]) (fun d M'=>d=cq (bo m a b)/\Sub M M') ?_ ?_ ⟨by simp,S2,none,none,none,rfl⟩ ?_ ?_ ?_
 ·rintro i Z M' _
  simp [nz,bL,dC,mJ]
 ·rintro d M' _
  simp [nz,bL,dC,mJ]
 ·rintro i d Z M' hd ⟨hp,S',x5,x6,x7,rfl⟩
  rw [MU] at hd
  cases e:(bU m)[i]? with
  |none=>rw [e] at hd;cases hd
  | some s =>
    rw [e] at hd
    cases L9 hd
    refine ⟨_,rfl,?_⟩
    by_cases c:cJ m a s=cJ m b s
    ·simp [sT,c]
     refine ⟨?_,S'⟩
     intro t ht
     rw [NN,e] at ht
     rcases MQ.mp ht with z|z
     ·exact hp t z
     ·simp at z;subst z;exact c
    ·simp [sT,c]
     exact ⟨by rw [xK e hp c];rfl,S'⟩
 ·rintro Z M' ⟨hp,S',x5,x6,x7,rfl⟩
  simp at hp ⊢
  exact ⟨by rw [xJ (by simpa [Nu] using hp)];rfl,S'⟩
 ·rintro d M' ⟨rfl,S'⟩
  simp [S']
theorem wZ (h:HasM P)(ha:nq P)(n:Nat){m:aR}{a b:List Nat}(hm:a8 m)(h1:bj m a)(h2:bj m b):ag (ak P (n+12) 48 [m.d,az a,az b] M) fun d M'=>d=cq (bo m a b)/\Sub M M':=rA h ha n .l .l hm h1 h2
end
end LD
namespace LD
open PySem
structure tB (P:Nat->Option Df):Prop where
 init:P 129=some ⟨3,3,eF⟩
 row:P 130=some ⟨1,1,iO⟩
 cost:P 131=some ⟨1,1,hG⟩
 beh:P 132=some ⟨1,1,d4⟩
 put:P 133=some ⟨3,3,iP⟩
 out:P 134=some ⟨2,2,iQ⟩
 back:P 135=some ⟨1,1,hJ⟩
 change:P 136=some ⟨2,2,fB⟩
 give:P 137=some ⟨2,3,g9⟩
 summed:P 47=some ⟨2,2,fx⟩
structure bt (M:Mem) (k e:Nat) (m:aR) (r:List Nat) (hs:List (List Nat)):Prop where
 ob:M[k]?=some [.int 40,m.d,az r,.cell e]
 er:M[e]?=some (hs.map az)
theorem bt.ne {M:Mem}{k e:Nat}{m:aR}{r:List Nat}{hs:List (List Nat)}(h:bt M k e m r hs):e≠k:=fun z=>by
 have a:=h.ob
 rw [<- z,h.er] at a
 cases hs with
 |nil=>cases a
 |cons x l=>cases a
structure gD (l:List Nat) (M M':Mem):Prop where
 len:M.length<=M'.length
 at':∀k,k<M.length->k∉l->M'[k]?=M[k]?
theorem gD.trans {l:List Nat}{M M1 M2:Mem}(a:gD l M M1)(b:gD l M1 M2):gD l M M2:=⟨Mb a.len b.len,fun k hk n=>(b.at' k (Mj hk a.len) n).trans (a.at' k hk n)⟩
theorem gD.of {l:List Nat}{M M':Mem}(a:Sub M M'):gD l M M':=⟨a.len,fun k hk _=>a.at' k hk⟩
theorem gD.set {l:List Nat}{M:Mem}{k:Nat}{ds:List D}(h:k∈l):gD l M (M.set k ds):=⟨by simp,fun j _ n=>Mc fun e=>n (by rw [<- e];exact h)⟩
theorem cz {M:Mem}{k:Nat}{ds:List D}(e:M[k]?=some ds):k<M.length:=(LZ.mp e).1
section
variable {Z:Env}{M M':Mem}{a v:GE}{s:GA}{k i:Nat}{es:List D}{nm:Str}{kf:Fl->Mem->Prop}{rest:GS}
theorem Eg {d:D}(ob:M[k]?=some (.int 40::es))(hi:(cm 40).findIdx? (·==nm)=some i)(he:es[i]?=some d):sF M (aQ k) nm=some d:=by
 unfold sF aQ
 rw [if_pos (NL _ _),NM,ob]
 show ((cm 40).findIdx? (·==nm)).bind _=_
 rw [hi]
 exact he
theorem dN {d:D}(ha:a Z M=.ok (.fn (aQ k)) M)(ob:M[k]?=some (.int 40::es))(hi:(cm 40).findIdx? (·==nm)=some i)(he:es[i]?=some d):bW nm a Z M=.ok d M:=by
 unfold bW
 rw [ha]
 show bR M (sF M (aQ k) nm)=_
 rw [Eg ob hi he]
 rfl
theorem Dn {z:D}(hv:v Z M=.ok z M')(ha:a Z M'=.ok (.fn (aQ k)) M')(ob:M'[k]?=some (.int 40::es))(hi:(cm 40).findIdx? (·==nm)=some i)(hl:i<es.length)(h:ag (rest Z (M'.set k (.int 40::es.set i z))) kf):ag (af (gR nm a v) rest Z M) kf:=by
 have e:ko M' (aQ k) nm z=some (M'.set k (.int 40::es.set i z)):=by
  unfold ko aQ
  rw [if_pos (NL _ _),NM,ob]
  show ((cm 40).findIdx? (·==nm)).bind _=_
  rw [hi]
  exact if_pos hl
 simp only [aX]
 unfold gR
 rw [hv]
 show ag ((a Z M').bind _) _
 rw [ha]
 show ag (match ko M' (aQ k) nm z with|some M'=>Res.ok (Fl.next Z) M'|none=>.bad) _
 rw [e]
 exact h
theorem mM {z:D}(hv:v Z M=.ok z M')(ha:a Z M'=.ok (.fn (aQ k)) M')(ob:M'[k]?=some (.int 40::es))(hi:(cm 40).findIdx? (·==nm)=some es.length)(h:ag (rest Z (M'.set k (.int 40::(es++[z])))) kf):ag (af (gR nm a v) rest Z M) kf:=by
 have e:ko M' (aQ k) nm z=some (M'.set k (.int 40::(es++[z]))):=by
  unfold ko aQ
  rw [if_pos (NL _ _),NM,ob]
  show ((cm 40).findIdx? (·==nm)).bind _=_
  rw [hi]
  show (if es.length<es.length then _ else if es.length=es.length then _ else none)=_
  rw [if_neg (Nk _),if_pos rfl]
 simp only [aX]
 unfold gR
 rw [hv]
 show ag ((a Z M').bind _) _
 rw [ha]
 show ag (match ko M' (aQ k) nm z with|some M'=>Res.ok (Fl.next Z) M'|none=>.bad) _
 rw [e]
 exact h
theorem eD {f:Nat}{c:Call}{ds:List D}(ha:a Z M=.ok (.fn (aQ k)) M)(ob:M[k]?=some (.int 40::es))(hs:s Z M=.ok ds M'):cw 40 f c a s Z M=c f (.fn (aQ k)::ds) M':=by
 have e:kN M (aQ k)=some 40:=by
  unfold kN aQ
  rw [if_pos (NL _ _),NM,ob]
  rfl
 unfold cw
 rw [ha]
 show (if kN M (aQ k)=some 40 then (s Z M).bind _ else .bad)=_
 rw [if_pos e,hs]
 rfl
theorem ux {f:Nat}{c:Call}{ds:List D}{kd:D->Mem->Prop}(hs:s Z M=.ok ds M)(h:ag (c f (.fn (aQ M.length)::ds) (M++[[.int 40]])) fun r M'=>r=.non/\kd (.fn (aQ M.length)) M'):ag (km 40 f c s Z M) kd:=by
 obtain ⟨r,M',e,rfl,q⟩:=f9.mp h
 unfold km
 rw [hs]
 show ag ((c f (.fn (aQ M.length)::ds) (M++[[.int 40]])).bind _) kd
 rw [e]
 exact q
theorem pop_at {ds:List D}{y:D}(ha:a Z M=.ok (.cell k) M)(hk:M[k]?=some (ds++[y])):oX a Z M=.ok y (M.set k ds):=by
 unfold oX
 rw [ha]
 show (match M[k]? with|some ds=>(match ds[ds.length-1]? with|some y=>Res.ok y (M.set k ds.dropLast)|none=>.bad)|none=>.bad)=_
 rw [hk]
 show (match (ds++[y])[(ds++[y]).length-1]? with|some z=>Res.ok z (M.set k (ds++[y]).dropLast)|none=>.bad)=_
 have:(ds++[y])[(ds++[y]).length-1]?=some y:=by simp
 rw [this,List.dropLast_concat]
theorem yQ {b:GE}{ds:List D}{z:D}(ha:a Z M=.ok (.cell k) M)(hb:b Z M=.ok z M)(hk:M[k]?=some ds)(hz:ds.length<sz)(h:ag (rest Z (M.set k (ds++[z]))) kf):ag (af (dU a b) rest Z M) kf:=by
 simp only [aX]
 unfold dU
 rw [ha]
 show ag ((b Z M).bind _) _
 rw [hb]
 show ag (match M[k]? with|some ds=>(if ds.length<sz then Res.ok (Fl.next Z) (M.set k (ds++[z])) else .bad)|none=>.bad) _
 rw [hk]
 show ag (if ds.length<sz then _ else _) _
 rw [if_pos hz]
 exact h
theorem jU {f:tD}{ds:List D}(es:s Z M=.ok ds M):aV f s Z M=dq f ds M:=by
 unfold aV
 rw [es]
 rfl
theorem A6 {f:Nat}{c:Call}{xs:List D}(e:s Z M=.ok xs M):dj f c s Z M=c f xs M:=by
 unfold dj;rw [e]
theorem EJ {j:Nat}{kd:D->Mem->Prop}(h:ag (a Z M) kd)(hk:∀x M',kd x M'->ag (rest (Z.set j (some x)) M') kf):ag (af (gU (.one j) a) rest Z M) kf:=by
 obtain ⟨x,M',e,q⟩:=f9.mp h
 simp only [aX]
 unfold gU
 rw [e]
 exact hk x M' q
theorem ft {o:iw}{b:GE}{x y:D}{w:Bool}(h1:a Z M=.ok x M)(h2:b Z M=.ok y M)(h3:bJ o x y M=some w):aU o a b Z M=.ok (.bl w) M:=by
 unfold aU
 rw [h1]
 show (b Z M).bind _=_
 rw [h2]
 show (bR M (bJ o x y M)).bind _=_
 rw [h3]
 rfl
theorem lL {hi:GE}{xs:List D}{j:Nat}(ea:a Z M=.ok (.lst xs) M)(eh:hi Z M=.ok (.int (j:Int)) M)(hz:xs.length<=1000):dg false false true a gN hi Z M=.ok (.lst (xs.take j)) M:=by
 refine av ?_
 rw [l8,ea]
 show ag (hi Z M) _
 rw [eh]
 exact ⟨rfl,rfl,rD.mpr ⟨aG (by simp;omega),rfl,rfl⟩⟩
theorem lM {lo:GE}{xs:List D}{j:Nat}(ea:a Z M=.ok (.lst xs) M)(eh:lo Z M=.ok (.int (j:Int)) M)(hz:xs.length<=1000):dg false true false a lo gN Z M=.ok (.lst (xs.drop j)) M:=by
 refine av ?_
 rw [l8,ea]
 show ag (lo Z M) _
 rw [eh]
 exact ⟨rfl,rfl,zO.mpr ⟨aG (by simp;omega),rfl,rfl⟩⟩
end
section
variable {P:Nat->Option Df}(h:HasM P)(ho:tB P)(ha:nq P){M:Mem}{k e:Nat}{m:aR}{r:List Nat}{hs:List (List Nat)}
include h ho
theorem tY (n:Nat){x:D}(hx:bx M x r)(hm:a8 m)(hr:bj m r):ak P (n+10) 129 [.fn (aQ M.length),m.d,x] (M++[[.int 40]])=.ok .non (M++[[.int 40,m.d,az r,.cell (M.length+1)],[]]):=by
 have hx':bx (M++[[.int 40]]) x r:=hx.sub Sub.app
 refine av (aA ho.init rfl ?_)
 show ag (eF (ak P (n+9)) [some (.fn (aQ M.length)),some m.d,some x] (M++[[.int 40]])) _
 unfold eF
 refine cM (ρ':=[some (.fn (aQ M.length)),some m.d,some x]) ?_ ?_
 ·show uR _ _ (ak P (n+9) 18 [m.d,x] (M++[[.int 40]]))=_
  rw [pN h.toHasM0 n hx' hm hr]
  rfl
 refine mM (k:=M.length) (es:=[]) (ai rfl) (ai rfl) (by simp) (by decide) ?_
 have e1:(M++[[D.int 40]]).set M.length (.int 40::([]++[m.d]))=M++[[.int 40,m.d]]:=by simp
 rw [e1]
 have hx2:bx (M++[[.int 40,m.d]]) x r:=hx.sub Sub.app
 have el:aV (.list false) (ae (aa 2) ah) [some (.fn (aQ M.length)),some m.d,some x] (M++[[.int 40,m.d]])=.ok (az r) (M++[[.int 40,m.d]]):=by
  refine av ?_
  rw [fv]
  show ag (dq (.list false) [x] _) _
  rw [hx2.list,bQ]
  exact ⟨aG (by have:=hr.1;simp;omega),rfl,rfl⟩
 refine mM (k:=M.length) (es:=[m.d]) el (ai rfl) (by simp) (show _=some 1 by decide) ?_
 have e2:(M++[[D.int 40,m.d]]).set M.length (.int 40::([m.d]++[az r]))=M++[[.int 40,m.d,az r]]:=by simp
 rw [e2]
 refine mM (k:=M.length) (es:=[m.d,az r]) (z:=.cell (M.length+1)) (M':=M++[[.int 40,m.d,az r]]++[[]]) ?_ (ai rfl) (by simp) (show _=some 2 by decide) ?_
 ·show (if 0<=sz then (if true=true then Res.ok (D.cell (M++[[.int 40,m.d,az r]]).length) (M++[[.int 40,m.d,az r]]++[[]]) else Res.ok (.lst []) (M++[[.int 40,m.d,az r]])) else Res.bad)=_
  rw [if_pos (NJ _)]
  simp
 ·show D.non=.non/\_=_
  simp
theorem C7 (n:Nat)(hr:r.length<=40)(s:bt M k e m r hs):ak P (n+1) 130 [.fn (aQ k)] M=.ok (.cell M.length) (M++[r.map nD]):=by
 refine av (aA ho.row rfl ?_)
 show ag (iO (ak P n) [some (.fn (aQ k))] M) _
 unfold iO
 refine bE ?_
 rw [jU (aq (dN (i:=1) (ai rfl) s.ob (by decide) rfl) rfl)]
 exact (bx.l (M:=M) (r:=r)).list.mpr (eC.mpr ⟨aG (by simp;omega),rfl,rfl⟩)
theorem zC (n:Nat)(hr:bj m r)(s:bt M k e m r hs):ak P (n+2) 131 [.fn (aQ k)] M=.ok (nD (gY m r)) M:=by
 refine av (aA ho.cost rfl ?_)
 show ag (hG (ak P (n+1)) [some (.fn (aQ k))] M) _
 unfold hG
 refine c8 ((bB (aq (dN (i:=0) (ai rfl) s.ob (by decide) rfl) (aq (dN (i:=1) (ai rfl) s.ob (by decide) rfl) rfl))).trans (rk h.toHasM0 ho.summed n .l (Mb hr.1 (by decide)) hr.2)) ⟨rfl,rfl⟩
include ha
theorem Dc (n:Nat)(hm:a8 m)(hr:bj m r)(s:bt M k e m r hs):ak P (n+11) 132 [.fn (aQ k)] M=.ok (dC m r) (M++(bU m).map fun s=>(cV m r s).map aM):=by
 refine av (aA ho.beh rfl ?_)
 show ag (d4 (ak P (n+10)) [some (.fn (aQ k))] M) _
 unfold d4
 refine bE ?_
 rw [bB (aq (dN (i:=0) (ai rfl) s.ob (by decide) rfl) (aq (dN (i:=1) (ai rfl) s.ob (by decide) rfl) rfl)),xh h ha.h15 ha.h46 n hm hr]
 exact ⟨rfl,rfl⟩
theorem tZ (n:Nat){r':List Nat}(hm:a8 m)(hr:bj m r)(hr':bj m r')(s:bt M k e m r hs):ag (ak P (n+13) 137 [.fn (aQ k),az r'] M) fun d M'=>d=cq (bo m r r')/\bt M' k e m r' hs/\gD [k] M M':=by
 refine aA ho.give rfl ?_
 show ag (g9 (ak P (n+12)) [some (.fn (aQ k)),some (az r'),none] M) _
 unfold g9
 have q:=wZ h ha n (M:=M) hm hr hr'
 refine EJ (kd:=fun d M'=>d=cq (bo m r r')/\Sub M M') ?_ ?_
 ·rw [A6 (aq (dN (i:=0) (ai rfl) s.ob (by decide) rfl) (aq (dN (i:=1) (ai rfl) s.ob (by decide) rfl) (aq (ai rfl) rfl)))]
  exact q
 ·rintro x M1 ⟨rfl,S1⟩
  refine Dn (k:=k) (i:=1) (es:=[m.d,az r,.cell e]) (ai rfl) (ai rfl) (S1.get s.ob) (by decide) (show 1<3 by decide) ?_
  refine bE ?_
  rw [ai rfl]
  refine ⟨rfl,⟨?_,?_⟩,(gD.of S1).trans (gD.set (by simp))⟩
  ·rw [Mn (cz (S1.get s.ob))]
   rfl
  ·rw [Mc (Ng s.ne)]
   exact S1.get s.er
theorem pO (n:Nat){r':List Nat}(hm:a8 m)(hr:bj m r)(hr':bj m r')(hz:hs.length<=1000)(s:bt M k e m r hs):ag (ak P (n+14) 136 [.fn (aQ k),az r'] M) fun d M'=>d=cq (bo m r r')/\bt M' k e m r' (hs++[r])/\gD [k,e] M M':=by
 refine aA ho.change rfl ?_
 show ag (fB (ak P (n+13)) [some (.fn (aQ k)),some (az r')] M) _
 unfold fB
 refine yQ (k:=e) (dN (i:=2) (ai rfl) s.ob (by decide) rfl) (dN (i:=1) (ai rfl) s.ob (by decide) rfl) s.er (Mj (by simp;omega:_<2000) (aG (by decide))) ?_
 have s1:bt (M.set e (hs.map az++[az r])) k e m r (hs++[r]):=by
  refine ⟨?_,?_⟩
  ·rw [Mc s.ne]
   exact s.ob
  ·rw [Mn (cz s.er)]
   simp
 refine bE ?_
 rw [eD (ai rfl) s1.ob (aq (ai rfl) rfl)]
 refine aT (tZ h ho ha n hm hr hr' s1) ?_
 rintro d M' ⟨rfl,s2,k2⟩
 exact ⟨rfl,s2,(gD.set (by simp)).trans ⟨k2.len,fun j hj hn=>k2.at' j hj fun z=>hn (by simp at z;simp [z])⟩⟩
theorem C8 (n:Nat){p i:Nat}(hm:a8 m)(hr:bj m r)(hp:p<=r.length)(hl:r.length<40)(hi:i<m.deeds.length)(hz:hs.length<=1000)(s:bt M k e m r hs) :
 ag (ak P (n+15) 133 [.fn (aQ k),nD p,nD i] M) fun d M'=>d=cq (bo m r (r.take p++[i]++r.drop p))/\bt M' k e m (r.take p++[i]++r.drop p) (hs++[r])/\gD [k,e] M M':=by
 refine aA ho.put rfl ?_
 show ag (iP (ak P (n+14)) [some (.fn (aQ k)),some (nD p),some (nD i)] M) _
 unfold iP
 have fm:bW "machine" (aa 0) [some (.fn (aQ k)),some (nD p),some (nD i)] M=.ok m.d M:=dN (i:=0) (ai rfl) s.ob (by decide) rfl
 have fs:bW "standing" (aa 0) [some (.fn (aQ k)),some (nD p),some (nD i)] M=.ok (az r) M:=dN (i:=1) (ai rfl) s.ob (by decide) rfl
 have fl:aV .len (ae (bW "standing" (aa 0)) ah) [some (.fn (aQ k)),some (nD p),some (nD i)] M=.ok (.int r.length) M:=by
  rw [jU (aq fs rfl)]
  exact av ((bx.l (M:=M) (r:=r)).len.mpr ⟨rfl,rfl⟩)
 refine bg (jO (b:=true) (bX ?_)) (bg (jO (b:=true) (bX ?_)) (bg (bX (ft fl rfl ?_)) ?_))
 ·rw [bB (aq (ai rfl) (aq rfl (aq fl rfl))),j6 h.toHasM0 (n+13)]
  have a:decide ((0:Int)<=(p:Int))=true:=decide_eq_true (by omega)
  have b:decide ((p:Int)<=(r.length:Int))=true:=decide_eq_true (by omega)
  rw [a,b];rfl
 ·rw [bB (aq fm (aq (ai rfl) rfl)),t5 h.toHasM0 (n+12) hi]
 ·show some (decide ((40:Int)<=(r.length:Int)))=_
  rw [decide_eq_false (by omega)]
 ·refine bE ?_
  have e1:=lL (M:=M) (hi:=aa 1) (j:=p) fs (ai rfl) (by simp;omega)
  have e2:=lM (M:=M) (lo:=aa 1) (j:=p) fs (ai rfl) (by simp;omega)
  have e3:=ic (ic e1 (gj (s:=ae (aa 2) ah) (xs:=[nD i]) (aq (ai (j:=2) rfl) rfl) (by simp)) (by simp;omega)) e2 (by simp;omega)
  rw [eD (ai rfl) s.ob (aq e3 rfl)]
  have er:D.lst ((r.map nD).take p++[nD i]++(r.map nD).drop p)=az (r.take p++[i]++r.drop p):=by simp [az,N9,List.map_drop]
  rw [er]
  have hr':bj m (r.take p++[i]++r.drop p):=by
   refine ⟨by simp;omega,fun j hj=>?_⟩
   rcases MQ.mp hj with z|z
   ·rcases MQ.mp z with z|z
    ·exact hr.2 j (Ni z)
    ·simp at z;omega
   ·exact hr.2 j (NX z)
  exact pO h ho ha n hm hr hr' hz s
theorem C9 (n:Nat){p:Nat}(hm:a8 m)(hr:bj m r)(hp:p<r.length)(hz:hs.length<=1000)(s:bt M k e m r hs) :
 ag (ak P (n+15) 134 [.fn (aQ k),nD p] M) fun d M'=>d=cq (bo m r (r.take p++r.drop (p+1)))/\bt M' k e m (r.take p++r.drop (p+1)) (hs++[r])/\gD [k,e] M M':=by
 refine aA ho.out rfl ?_
 show ag (iQ (ak P (n+14)) [some (.fn (aQ k)),some (nD p)] M) _
 unfold iQ
 have l40:=hr.1
 have fs:bW "standing" (aa 0) [some (.fn (aQ k)),some (nD p)] M=.ok (az r) M:=dN (i:=1) (ai rfl) s.ob (by decide) rfl
 have fl:aV .len (ae (bW "standing" (aa 0)) ah) [some (.fn (aQ k)),some (nD p)] M=.ok (.int r.length) M:=by
  rw [jU (aq fs rfl)]
  exact av ((bx.l (M:=M) (r:=r)).len.mpr ⟨rfl,rfl⟩)
 have fl1:aw false .sub (aV .len (ae (bW "standing" (aa 0)) ah)) (gI 1) [some (.fn (aQ k)),some (nD p)] M=.ok (.int (r.length-1)) M:=by
  unfold aw;rw [fl];rfl
 refine bg (jO (b:=true) (bX ?_)) ?_
 ·rw [bB (aq (ai rfl) (aq rfl (aq fl1 rfl))),j6 h.toHasM0 (n+13)]
  have a:decide ((0:Int)<=(p:Int))=true:=decide_eq_true (by omega)
  have b:decide ((p:Int)<=(r.length:Int)-1)=true:=decide_eq_true (by omega)
  rw [a,b];rfl
 ·refine bE ?_
  have e1:=lL (M:=M) (hi:=aa 1) (j:=p) fs (ai rfl) (by simp;omega)
  have ep:aw false .add (aa 1) (gI 1) [some (.fn (aQ k)),some (nD p)] M=.ok (.int ((p+1:Nat):Int)) M:=eQ (x:=(p:Int)) (y:=1) (ai rfl) rfl
  have e2:=lM (M:=M) (j:=p+1) fs ep (by simp;omega)
  have e3:=ic e1 e2 (by simp;omega)
  rw [eD (ai rfl) s.ob (aq e3 rfl)]
  have er:D.lst ((r.map nD).take p++(r.map nD).drop (p+1))=az (r.take p++r.drop (p+1)):=by simp [az,N9,List.map_drop]
  rw [er]
  have hr':bj m (r.take p++r.drop (p+1)):=by
   refine ⟨by simp;omega,fun j hj=>?_⟩
   rcases MQ.mp hj with z|z
   ·exact hr.2 j (Ni z)
   ·exact hr.2 j (NX z)
  exact pO h ho ha n hm hr hr' hz s
theorem zD (n:Nat){r':List Nat}(hm:a8 m)(hr:bj m r)(hr':bj m r')(s:bt M k e m r (hs++[r'])) :
 ag (ak P (n+14) 135 [.fn (aQ k)] M) fun d M'=>d=cq (bo m r r')/\bt M' k e m r' hs/\gD [k,e] M M':=by
 refine aA ho.back rfl ?_
 show ag (hJ (ak P (n+13)) [some (.fn (aQ k))] M) _
 unfold hJ
 have fe:bW "earlier" (aa 0) [some (.fn (aQ k))] M=.ok (.cell e) M:=dN (i:=2) (ai rfl) s.ob (by decide) rfl
 have er:=s.er
 rw [Nl] at er
 refine bg (jO (b:=true) ?_) (bE ?_)
 ·unfold aE
  rw [fe]
  show bR M ((M[e]?).map fun ds=>!ds.isEmpty)=_
  rw [er]
  cases hs<;>rfl
 ·have s1:bt (M.set e (hs.map az)) k e m r hs:=by
   refine ⟨?_,?_⟩
   ·rw [Mc s.ne]
    exact s.ob
   ·rw [Mn (cz s.er)]
  have ea:ae (oX (bW "earlier" (aa 0))) ah [some (.fn (aQ k))] M=.ok [az r'] (M.set e (hs.map az)):=by
   unfold ae
   rw [pop_at fe er]
   rfl
  rw [eD (ai rfl) s.ob ea]
  refine aT (tZ h ho ha n hm hr hr' s1) ?_
  rintro d M' ⟨rfl,s2,k2⟩
  exact ⟨rfl,s2,(gD.set (by simp)).trans ⟨k2.len,fun j hj hn=>k2.at' j hj fun z=>hn (by simp at z;simp [z])⟩⟩
end
end LD
namespace LD
open PySem
structure HasE0 (P:Nat->Option Df):Prop where
 change:P 138=some ⟨3,7,fA⟩
 do_:P 139=some ⟨2,2,dR⟩
 orders:P 141=some ⟨0,0,iq⟩
structure Lz (P:Nat->Option Df):Prop extends HasE0 P where
 price:P 89=some ⟨2,2,s9⟩
 parted:P 140=some ⟨3,6,qB⟩
 right:P 142=some ⟨4,6,oy⟩
noncomputable def qt (m:aR)(hs:List (List Nat))(r:List Nat)(later:List (List Nat))(told:D):Prop:=
 (∃hs0 r0,hs=hs0++[r0]/\later=hs/\told=.tup [])
 \/(∃a,a<r.length/\later=hs++[r]++[r.take a++r.drop (a+1)]/\told=.tup [nD a])
 \/∃a i,a<=r.length/\r.length<40/\i<m.deeds.length/\later=hs++[r]++[r.take a++[i]++r.drop a]/\told=.tup [nD a,nD i]
theorem AJ {xs:List D}{y:D}{M:Mem}:cu (.lst (xs++[y])) (.int (-1)) M=some y:=by
 show (bz (xs++[y]).length (-1)).bind (fun j=>(xs++[y])[j]?)=_
 have:bz (xs++[y]).length (-1)=some xs.length:=by
  unfold bz
  rw [if_neg (by decide),if_pos (by simp;omega)]
  simp;omega
 rw [this]
 simp
section
variable {Z:Env}{M:Mem}{a:GE}
theorem bu:ah Z M=.ok [] M:=rfl
theorem uz {xs:List D}{y:D}(e:a Z M=.ok (.lst (xs++[y])) M):ay a (gp (gI 1)) Z M=.ok y M:=bf e rfl AJ
theorem lU {xs:List D}(e:a Z M=.ok (.lst xs) M):aV .len (ae a ah) Z M=.ok (nD xs.length) M:=by
 rw [jU (aq e rfl)]
 rfl
theorem hV {s:GA}{xs:List D}(es:s Z M=.ok xs M)(hl:xs.length<=100):cv s Z M=.ok (.tup xs) M:=by
 unfold cv
 rw [es]
 show (if xs.length<=sz then Res.ok (D.tup xs) M else .bad)=_
 rw [if_pos (aG (by omega))]
end
section
variable {P:Nat->Option Df}(h:HasP0 P)(hq:HasE0 P){M:Mem}{m:aR}
include h hq
theorem u9 (n:Nat){p B:Nat}{hs:List (List Nat)}{r:List Nat}(hm:a8 m)(hr:bj m r)(hl:hs.length<=50)(hp:aL M p B)(hB:B<=700000):ag (ak P (n+3) 138 [.cell p,m.d,.lst ((hs++[r]).map az)] M) fun d M'=>∃later told,d=.tup [.lst (later.map az),told]/\qt m hs r later told/\aL M' p (B+3)/\bc p M M':=by
 have l40:=hr.1
 have d6:=hm.d6
 refine aA hq.change rfl ?_
 show ag (fA (ak P (n+2)) [some (.cell p),some m.d,some (.lst ((hs++[r]).map az)),none,none,none,none] M) _
 unfold fA
 refine du h n (many:=4) rfl rfl hp (by omega) (by decide) (by decide) fun way M1 _ q1 k1=>?_
 show ag (af _ _ [some (.cell p),some m.d,some (.lst ((hs++[r]).map az)),some (nD way),none,none,none] M1) _
 rw [Nl]
 refine cM (d9 (uz (ai rfl))) ?_
 show ag (af _ _ [some (.cell p),some m.d,some (.lst (hs.map az++[az r])),some (nD way),some (az r),none,none] M1) _
 have lr:∀{M:Mem}{x y:Option D},aV .len (ae (aa 4) ah) [some (.cell p),some m.d,some (.lst (hs.map az++[az r])),some (nD way),some (az r),x,y] M=.ok (nD r.length) M:=fun {M x y}=>by
  rw [lU (xs:=r.map nD) (ai rfl),Md]
 refine du h n (many:=r.length+1) rfl (iU lr rfl) q1 (by omega) (by omega) (by omega) fun at_ M2 hat q2 k2=>?_
 refine du h n (many:=m.deeds.length) rfl (uy (bf (ai rfl) rfl BO)) q2 (by omega) hm.d1 (by omega) fun i M3 hi q3 k3=>?_
 have kk:=(k1.trans k2).trans k3
 show ag (af _ _ [some (.cell p),some m.d,some (.lst (hs.map az++[az r])),some (nD way),some (az r),some (nD at_),some (nD i)] M3) _
 have ll:aV .len (ae (aa 2) ah) [some (.cell p),some m.d,some (.lst (hs.map az++[az r])),some (nD way),some (az r),some (nD at_),some (nD i)] M3=.ok (nD (hs.length+1)) M3:=by
  rw [lU (ai rfl)];simp
 refine bS (pz (gq (c:=0) rfl) (bX (ft (w:=decide ((1:Int)<((hs.length+1:Nat):Int))) ll rfl rfl))) (fun hb=>?_) fun _=>?_
 ·rw [L6] at hb
  have h1:1<=hs.length:=by have:=of_decide_eq_true hb.2;omega
  obtain ⟨hs0,r0,e0⟩:∃hs0 r0,hs=hs0++[r0]:=⟨hs.dropLast,hs.getLast (fun z=>by rw [z] at h1;simp at h1),(List.dropLast_concat_getLast _).symm⟩
  refine bE ?_
  have es:dg false false true (aa 2) gN (gp (gI 1)) [some (.cell p),some m.d,some (.lst (hs.map az++[az r])),some (nD way),some (az r),some (nD at_),some (nD i)] M3=.ok (.lst (hs.map az)) M3:=by
   refine av ?_
   rw [l8,ai (x:=.lst (hs.map az++[az r])) rfl]
   refine ⟨rfl,rfl,?_⟩
   have e2:aI (hs.map az++[az r]).length (hs.map az++[az r]).length (.int (-1))=some hs.length:=by
    show some _=_
    rw [if_pos (by decide)];congr 1;simp;omega
   show ag (match aI (hs.map az++[az r]).length 0 D.non,aI (hs.map az++[az r]).length (hs.map az++[az r]).length (.int (-1)) with|some l,some h=>a9 false (cut (hs.map az++[az r]) l h) M3|_,_=>.bad) _
   rw [e2]
   show ag (a9 false (cut (hs.map az++[az r]) 0 hs.length) M3) _
   have e3:cut (hs.map az++[az r]) 0 hs.length=hs.map az:=by
    unfold cut
    simp
   rw [e3,bQ]
   exact ⟨aG (by simp;omega),rfl,rfl⟩
  rw [hV (aq es (aq (hV (xs:=[]) rfl (by simp)) rfl)) (by simp)]
  exact ⟨hs,_,rfl,.inl ⟨hs0,r0,e0,rfl,rfl⟩,q3,kk⟩
 refine bS (pz (BJ (gq (c:=1) rfl) (bX (ft (w:=((r.length:Int)==40)) lr rfl rfl))) (bX (ft (ai (x:=az r) rfl) rfl (yN (l:=r) (r:=[]))))) (fun hb=>?_) fun hb=>?_
 ·rw [L6] at hb
  have ne:r≠[]:=by have:=hb.2;simpa using this
  have lp:0<r.length:=List.length_pos_iff.mpr ne
  have lt:=Nat.mod_lt at_ lp
  refine cM (d9 (x:=nD (at_ % r.length)) ?_) ?_
  ·exact ij (x:=(at_:Int)) (y:=(r.length:Int)) (ai rfl) lr (by omega)
  ·show ag (af _ _ [some (.cell p),some m.d,some (.lst (hs.map az++[az r])),some (nD way),some (az r),some (nD (at_ % r.length)),some (nD i)] M3) _
   generalize at_ % r.length=v at lt
   refine bE ?_
   have e1:=lL (Z:=[some (.cell p),some m.d,some (.lst (hs.map az++[az r])),some (nD way),some (az r),some (nD v),some (nD i)]) (M:=M3) (a:=aa 4) (hi:=aa 5) (xs:=r.map nD) (j:=v) (ai rfl) (ai rfl) (by simp;omega)
   have e2:=lM (Z:=[some (.cell p),some m.d,some (.lst (hs.map az++[az r])),some (nD way),some (az r),some (nD v),some (nD i)]) (M:=M3) (a:=aa 4) (lo:=aw false .add (aa 5) (gI 1)) (xs:=r.map nD) (j:=v+1) (ai rfl) (eQ (x:=(v:Int)) (y:=1) (ai rfl) rfl) (by simp;omega)
   have e3:=ic (a:=aa 2) (ai (x:=.lst (hs.map az++[az r])) rfl) (gj (aq (ic e1 e2 (by simp;omega)) bu) (by simp)) (by simp;omega)
   rw [hV (aq e3 (aq (hV (s:=ae (aa 5) ah) (aq (ai (x:=nD v) rfl) rfl) (by simp)) rfl)) (by simp)]
   refine ⟨hs++[r]++[r.take v++r.drop (v+1)],_,?_,.inr (.inl ⟨v,lt,rfl,rfl⟩),q3,kk⟩
   simp [az,N9,List.map_drop]
 ·have l39:r.length<40:=by
   rcases Nat.lt_or_ge r.length 40 with z|z
   ·exact z
   ·have e:r.length=40:=by omega
    have e2:r≠[]:=fun y=>by rw [y] at e;simp at e
    rw [e] at hb
    simp [e2] at hb
  refine bE ?_
  have e1:=lL (Z:=[some (.cell p),some m.d,some (.lst (hs.map az++[az r])),some (nD way),some (az r),some (nD at_),some (nD i)]) (M:=M3) (a:=aa 4) (hi:=aa 5) (xs:=r.map nD) (j:=at_) (ai rfl) (ai rfl) (by simp;omega)
  have e2:=lM (Z:=[some (.cell p),some m.d,some (.lst (hs.map az++[az r])),some (nD way),some (az r),some (nD at_),some (nD i)]) (M:=M3) (a:=aa 4) (lo:=aa 5) (xs:=r.map nD) (j:=at_) (ai rfl) (ai rfl) (by simp;omega)
  have e0:=gj (Z:=[some (.cell p),some m.d,some (.lst (hs.map az++[az r])),some (nD way),some (az r),some (nD at_),some (nD i)]) (M:=M3) (s:=ae (aa 6) ah) (xs:=[nD i]) (aq (ai rfl) rfl) (by simp)
  have e3:=ic (a:=aa 2) (ai (x:=.lst (hs.map az++[az r])) rfl) (gj (aq (ic (ic e1 e0 (by simp;omega)) e2 (by simp;omega)) bu) (by simp)) (by simp;omega)
  rw [hV (aq e3 (aq (hV (s:=ae (aa 5) (ae (aa 6) ah)) (aq (ai (x:=nD at_) rfl) (aq (ai (x:=nD i) rfl) rfl)) (by simp)) rfl)) (by simp)]
  refine ⟨hs++[r]++[r.take at_++[i]++r.drop at_],_,?_,.inr (.inr ⟨at_,i,by omega,l39,hi,rfl,rfl⟩),q3,kk⟩
  simp [az,N9,List.map_drop]
end
end LD
namespace LD
open PySem
section
variable {P:Nat->Option Df}(hb:HasS P)(hq:Lz P)(he:P 44=some ⟨2,5,tL⟩){M:Mem}
include hb hq he
theorem Ia (n:Nat){m:aR}{a b:List Nat}(hm:a8 m):ak P (n+2) 40 [cq (bo m a b),cq (bo m a b)] M=.ok (.bl true) M:=by
 cases e:bo m a b with
 | none =>
   refine av (aA hb.same rfl ?_)
   simp [bM,bJ,cq,gX]
 | some s =>
   have:=ml s (N3 e)
   have p2:=hm.p2
   exact jB hb.toHasS0 n (by rw [this.1];omega)
end
noncomputable def mW (a b c:Int):D:=.lst [.int a,.int b,.int c]
noncomputable def Gd:List D:=[mW 0 1 2,mW 0 2 1,mW 1 0 2,mW 1 2 0,mW 2 0 1,mW 2 1 0]
theorem xa {P:Nat->Option Df}(hq:HasE0 P)(n:Nat){M:Mem}:ak P (n+1) 141 [] M=.ok (.lst Gd) M:=by
 refine av (aA hq.orders rfl ?_)
 show ag (iq (ak P n) [] M) _
 have l3:∀{Z:Env}{a b c:Int},bA false (ae (gC (.int a)) (ae (gC (.int b)) (ae (gC (.int c)) ah))) Z M=.ok (mW a b c) M:=fun {Z a b c}=>gj (aq rfl (aq rfl (aq rfl bu))) (by simp)
 exact c8 (gj (aq l3 (aq l3 (aq l3 (aq l3 (aq l3 (aq l3 bu)))))) (by simp)) ⟨rfl,rfl⟩
theorem rq {P:Nat->Option Df}(h:HasS0 P)(n:Nat){M:Mem}{m:aR}{r:List Nat}(hm:a8 m)(hr:∀i∈r,i<m.deeds.length):ak P (n+3) 40 [.tup ((ends m r).map aM),.tup ((ends m r).map aM)] M=.ok (.bl true) M:=by
 have bl:=sW hm
 have p2:=hm.p2
 refine pL h (n+2) (aG (by simp [LD.ends];omega)) fun d hd=>?_
 obtain ⟨s,hs,rfl⟩:=MR.mp hd
 obtain ⟨b,hb,rfl⟩:=MR.mp hs
 have:=pb hm hr (ml b hb)
 exact jB h n (by rw [this.1];omega)
section
variable {P:Nat->Option Df}(h:HasM P)(ho:tB P)(ha:nq P)(hq:HasE0 P){M:Mem}{k e:Nat}{m:aR}{r:List Nat}{hs:List (List Nat)}
include h ho ha hq
theorem xb (n:Nat){later:List (List Nat)}{told:D}(hm:a8 m)(hr:bj m r)(hh:∀x∈hs,bj m x)(hz:hs.length<=1000)(c:qt m hs r later told)(s:bt M k e m r hs) :
 ∃hs' r',later=hs'++[r']/\bj m r'/\(∀x∈hs',bj m x)/\hs'.length<=hs.length+1/\ag (ak P (n+16) 139 [.fn (aQ k),told] M) fun d M'=>d=cq (bo m r r')/\bt M' k e m r' hs'/\gD [k,e] M M':=by
 rcases c with ⟨hs0,r0,rfl,rfl,rfl⟩|⟨a,ha1,rfl,rfl⟩|⟨a,i,ha1,h40,hi,rfl,rfl⟩
 ·have hr0:=hh r0 (by simp)
  refine ⟨hs0,r0,rfl,hr0,fun x hx=>hh x (by simp [hx]),by simp;omega,?_⟩
  refine aA hq.do_ rfl ?_
  show ag (dR (ak P (n+15)) [some (.fn (aQ k)),some (.tup [])] M) _
  unfold dR
  refine bg (bX (ft (w:=false) (iF rfl) rfl rfl)) (bE ?_)
  rw [vO,bX (b:=true) (ft (ai rfl) (hV (xs:=[]) rfl (by simp)) (pj rfl rfl rfl))]
  show ag (cw _ _ _ _ _ _ _) _
  rw [eD (ai rfl) s.ob bu]
  exact zD h ho ha (n+1) hm hr hr0 s
 ·have hr':bj m (r.take a++r.drop (a+1)):=by
   have:=hr.1
   refine ⟨by simp;omega,fun j hj=>?_⟩
   rcases MQ.mp hj with z|z
   ·exact hr.2 j (Ni z)
   ·exact hr.2 j (NX z)
  refine ⟨hs++[r],_,rfl,hr',fun x hx=>(MQ.mp hx).elim (hh x) fun z=>by simp at z;subst z;exact hr,by simp,?_⟩
  refine aA hq.do_ rfl ?_
  show ag (dR (ak P (n+15)) [some (.fn (aQ k)),some (.tup [nD a])] M) _
  unfold dR
  refine bg (bX (ft (w:=false) (iF rfl) rfl rfl)) (bE ?_)
  rw [vO,bX (b:=false) (ft (ai rfl) (hV (xs:=[]) rfl (by simp)) (pj rfl rfl rfl))]
  show ag (cw _ _ _ _ _ _ _) _
  rw [eD (ai rfl) s.ob (aq (bf (d:=nD a) (ai rfl) rfl rfl) bu)]
  exact C9 h ho ha n hm hr ha1 hz s
 ·have hr':bj m (r.take a++[i]++r.drop a):=by
   refine ⟨by simp;omega,fun j hj=>?_⟩
   rcases MQ.mp hj with z|z
   ·rcases MQ.mp z with z|z
    ·exact hr.2 j (Ni z)
    ·simp at z;omega
   ·exact hr.2 j (NX z)
  refine ⟨hs++[r],_,rfl,hr',fun x hx=>(MQ.mp hx).elim (hh x) fun z=>by simp at z;subst z;exact hr,by simp,?_⟩
  refine aA hq.do_ rfl ?_
  show ag (dR (ak P (n+15)) [some (.fn (aQ k)),some (.tup [nD a,nD i])] M) _
  unfold dR
  refine ym (bX (ft (w:=true) (iF rfl) rfl rfl)) (bE ?_)
  rw [eD (ai rfl) s.ob (aq (bf (d:=nD a) (ai rfl) rfl rfl) (aq (bf (d:=nD i) (ai rfl) rfl rfl) bu))]
  exact C8 h ho ha n hm hr ha1 h40 hi hz s
end
end LD
namespace LD
open PySem
theorem aL.of {M M':Mem}{p B:Nat}(h:aL M p B)(e:∀j,j<=p->M'[j]?=M[j]?):aL M' p B:=by
 obtain ⟨c,cells,a,s,e1,e2,hc,q⟩:=h.ex
 exact ⟨c,cells,a,s,(e p (L7 _)).trans e1,(e c (Nat.le_of_lt hc)).trans e2,hc,q⟩
end LD
namespace LD
open PySem
theorem qS:∀ps:List (D×D),gF (ps.map (·.1)) (ps.map (·.2))=ps.map fun p=>.tup [p.1,p.2]
 |[]=>rfl
 |d::r=>congrArg (D.tup [d.1,d.2]::·) (qS r)
section
variable {P:Nat->Option Df}(h:HasS0 P){M:Mem}
include h
theorem nM (n:Nat){x y:D}{ps:List (D×D)}{Z:Env}{kl:List D->Mem->Prop}(hx:bL M x=some (ps.map (·.1)))(hy:bL M y=some (ps.map (·.2)))(hz:ps.length<=sz)(hs:∀p∈ps,ak P n 40 [p.1,p.2] M=.ok (.bl true) M)(hk:kl (ps.map fun _=>.bl true) M) :
 ag (c6 (dn (.tup [0,1]) (bH (au 40 (ak P n) (ae (aa 0) (ae (aa 1) ah)))) (none::none::Z)) (jY x y) [] M) kl:=by
 refine fO (ds:=ps.map fun p=>.tup [p.1,p.2]) (fun _=>.bl true) (by rw [Md];exact hz) ?_ ?_ ?_
 ·unfold jY;rw [hx,hy];exact congrArg some (qS ps)
 ·intro d hd
  obtain ⟨e,he,rfl⟩:=MR.mp hd
  exact ⟨_,rfl,(bB (aq (ai rfl) (aq (ai rfl) bu))).trans (hs e he)⟩
 ·rw [List.map_map];exact hk
theorem uZ (n:Nat){p q:Nat}{ps:List (D×D)}(hp:M[p]?=some (ps.map (·.1)))(hq:M[q]?=some (ps.map (·.2)))(hz:ps.length<=1000)(hs:∀p∈ps,ak P n 40 [p.1,p.2] M=.ok (.bl true) M):ak P (n+1) 40 [.cell p,.cell q] M=.ok (.bl true) M:=by
 refine av (aA h.same rfl ?_)
 simp [bM,bJ,dA,gX]
 refine ⟨rfl,rfl,_,hp,_,hq,?_,⟨rfl,rfl⟩,nM h n hp hq (aG (by omega)) hs ⟨aG (by simp;omega),?_,rfl⟩⟩
 ·simp only [Md];exact Je
 ·rw [show (ps.map fun _=>D.bl true)=(ps.map (·.1)).map fun _=>D.bl true by rw [List.map_map];rfl]
  exact tH
end
theorem Ai:∀t:Nat,t<6->∃xs:List Nat,Gd[t]?=some (.lst (xs.map nD))/\xs.length=3/\(∀x∈xs,x<3)/\0∈xs/\1∈xs/\2∈xs
 |0,_=>⟨[0,1,2],rfl,rfl,by decide⟩
 |1,_=>⟨[0,2,1],rfl,rfl,by decide⟩
 |2,_=>⟨[1,0,2],rfl,rfl,by decide⟩
 |3,_=>⟨[1,2,0],rfl,rfl,by decide⟩
 |4,_=>⟨[2,0,1],rfl,rfl,by decide⟩
 |5,_=>⟨[2,1,0],rfl,rfl,by decide⟩
 |n+6,h=>by omega
theorem bt.sub {M M':Mem}{k e:Nat}{m:aR}{r:List Nat}{hs:List (List Nat)}(s:bt M k e m r hs)(S:Sub M M'):bt M' k e m r hs:=⟨S.get s.ob,S.get s.er⟩
structure eR (M:Mem) (f:Nat) (m:aR) (r:List Nat) (p:Nat->Prop):Prop where
 ex:∃x0 x1 x2,M[f]?=some [x0,x1,x2]/\(p 0->∃q,x0=.cell q/\f<q/\M[q]?=some (r.map nD))/\(p 1->x1=nD (gY m r))/\(p 2->x2=dC m r)
structure Bd (P:Nat->Option Df):Prop where
 look:P 144=some ⟨2,4,ff⟩
 same:P 40=some ⟨2,2,bM⟩
section
variable {P:Nat->Option Df}(h:HasM P)(ho:tB P)(ha:nq P)(hq:HasE0 P)(hl:Bd P){M:Mem}{k e:Nat}{m:aR}{r:List Nat}{hs:List (List Nat)}
include h ho ha hq hl
theorem lK (n:Nat){t:Nat}(hm:a8 m)(hr:bj m r)(s:bt M k e m r hs):ag (ak P (n+13) 144 [.fn (aQ k),nD t] M) fun d M'=>d=.cell M.length/\eR M' M.length m r (fun _=>True)/\Sub M M':=by
 have t6:t % 6<6:=Nat.mod_lt _ (by decide)
 obtain ⟨xs,ex,lx,x3,m0,m1,m2⟩:=Ai (t % 6) t6
 refine aA hl.look rfl ?_
 show ag (ff (ak P (n+12)) [some (.fn (aQ k)),some (nD t),none,none] M) _
 unfold ff
 refine cb (k:=fun d M'=>d=.cell M.length/\M'=M++[[.non,.non,.non]]) ?_ ?_
 ·rw [kr,bp,fo,bp,fo,bp,fo,bO]
  exact eC.mpr ⟨aG (by decide),rfl,rfl⟩
 rintro _ _ ⟨rfl,rfl⟩
 have el:ay (au 141 (ak P (n+12)) ah) (aw false .mod (aa 1) (gI 6)) [some (.fn (aQ k)),some (nD t),some (.cell M.length),none] (M++[[.non,.non,.non]])=.ok (.lst (xs.map nD)) (M++[[.non,.non,.non]]):=by
  obtain ⟨ht',e'⟩:=LZ.mp ex
  exact bf ((bB bu).trans (xa hq (n+11))) (ij (x:=(t:Int)) (y:=6) (ai rfl) rfl (by decide)) ((IX (v:=t % 6) ht').trans (congrArg some e'))
 rw [aX,nN,nA]
 show ag (ay (au 141 (ak P (n+12)) ah) (aw false .mod (aa 1) (gI 6)) [some (.fn (aQ k)),some (nD t),some (.cell M.length),none] (M++[[.non,.non,.non]])) _
 rw [el]
 refine ⟨rfl,fN (ds:=xs.map nD) (fun i Z M'=>Sub M M'/\(∃b,Z=[some (.fn (aQ k)),some (nD t),some (.cell M.length),b])/\eR M' M.length m r (fun j=>j∈xs.take i)) (fun _ _ _ _=>rfl) ⟨.app,⟨none,rfl⟩,⟨.non,.non,.non,by simp,fun z=>by simp at z,fun z=>by simp at z,fun z=>by simp at z⟩⟩ ?_ ?_⟩
 ·rintro i d Z M' hd ⟨S,⟨b,rfl⟩,⟨x0,x1,x2,ef,f0,f1,f2⟩⟩
  rw [MU] at hd
  obtain ⟨v,hv,rfl⟩:=MF.mp hd
  have v3:=x3 v (Np hv)
  have tk:∀{j},j∈xs.take (i+1)->j=v\/j∈xs.take i:=fun {j} z=>by
   rw [NN,hv] at z
   rcases MQ.mp z with z|z
   ·exact .inr z
   ·exact .inl (by simpa using z)
  have s':bt M' k e m r hs:=s.sub S
  have lf:=cz ef
  refine ⟨_,rfl,?_⟩
  rw [aX,fX]
  match v,v3 with
  | 0, _ =>
    have E:((M'++[r.map nD]).set M.length ([x0,x1,x2].set 0 (.cell M'.length)))[M.length]?=some [.cell M'.length,x1,x2]:=by rw [Mn (by simp;omega)];rfl
    refine h9 (M':=M'++[r.map nD]) (z:=.cell M'.length) (p:=M.length) (i:=0) (n:=0) (ds:=[x0,x1,x2]) ((eD (ai rfl) s'.ob bu).trans (C7 h ho (n+11) hr.1 s')) (ai rfl) rfl (Sub.app.get ef) rfl ?_
    refine ⟨_,rfl,(S.trans .app).setq (L7 _),⟨_,rfl⟩,⟨_,_,_,E,fun _=>⟨M'.length,rfl,lf,?_⟩,fun z=>f1 ((tk z).resolve_left (by decide)),fun z=>f2 ((tk z).resolve_left (by decide))⟩⟩
    rw [Mc (MO lf)];simp
  | 1, _ =>
    have E:(M'.set M.length ([x0,x1,x2].set 1 (nD (gY m r))))[M.length]?=some [x0,nD (gY m r),x2]:=by rw [Mn lf];rfl
    show ag (af (aS _ _ _) aj _ _) _
    rw [aX,fX]
    refine h9 (M':=M') (z:=nD (gY m r)) (p:=M.length) (i:=1) (n:=1) (ds:=[x0,x1,x2]) ((eD (ai rfl) s'.ob bu).trans (zC h ho (n+10) hr s')) (ai rfl) rfl ef rfl ?_
    refine ⟨_,rfl,S.setq (L7 _),⟨_,rfl⟩,⟨_,_,_,E,fun z=>?_,fun _=>rfl,fun z=>f2 ((tk z).resolve_left (by decide))⟩⟩
    obtain ⟨q,e1,e2,e3⟩:=f0 ((tk z).resolve_left (by decide))
    exact ⟨q,e1,e2,by rw [Mc (MO e2)];exact e3⟩
  | 2, _ =>
    have S2:Sub M' (M'++(bU m).map fun s=>(cV m r s).map aM):=.app
    have E:((M'++(bU m).map fun s=>(cV m r s).map aM).set M.length ([x0,x1,x2].set 2 (dC m r)))[M.length]?=some [x0,x1,dC m r]:=by rw [Mn (by simp;omega)];rfl
    show ag (af (aS _ _ _) aj _ _) _
    rw [aX,fX]
    refine h9 (M':=M'++(bU m).map fun s=>(cV m r s).map aM) (z:=dC m r) (p:=M.length) (i:=2) (n:=2) (ds:=[x0,x1,x2]) ((eD (ai rfl) s'.ob bu).trans (Dc h ho ha (n+1) hm hr s')) (ai rfl) rfl (S2.get ef) rfl ?_
    refine ⟨_,rfl,(S.trans S2).setq (L7 _),⟨_,rfl⟩,⟨_,_,_,E,fun z=>?_,fun z=>f1 ((tk z).resolve_left (by decide)),fun _=>rfl⟩⟩
    obtain ⟨q,e1,e2,e3⟩:=f0 ((tk z).resolve_left (by decide))
    exact ⟨q,e1,e2,by rw [Mc (MO e2)];exact S2.get e3⟩
 ·rintro Z M' ⟨S,⟨b,rfl⟩,⟨x0,x1,x2,ef,f0,f1,f2⟩⟩
  rw [Md,<- lx,List.take_length] at *
  rw [dQ]
  exact c8 (ai rfl) ⟨rfl,⟨x0,x1,x2,ef,fun _=>f0 m0,fun _=>f1 m1,fun _=>f2 m2⟩,S⟩
omit h ho ha hq in
theorem kI (n:Nat){f g:Nat}(hm:a8 m)(hr:bj m r)(a:eR M f m r (fun _=>True))(b:eR M g m r (fun _=>True)):ak P (n+4) 40 [.cell f,.cell g] M=.ok (.bl true) M:=by
 obtain ⟨x0,x1,x2,e1,a0,a1,a2⟩:=a.ex
 obtain ⟨y0,y1,y2,e2,b0,b1,b2⟩:=b.ex
 obtain ⟨q,rfl,_,eq⟩:=a0 trivial
 obtain ⟨u,rfl,_,eu⟩:=b0 trivial
 obtain rfl:=a1 trivial;obtain rfl:=a2 trivial;obtain rfl:=b1 trivial;obtain rfl:=b2 trivial
 have l40:=hr.1
 refine uZ ⟨hl.same⟩ (n+3) (ps:=[(.cell q,.cell u),(nD (gY m r),nD (gY m r)),(dC m r,dC m r)]) e1 e2 (by simp) fun p hp=>?_
 simp only [MJ,Ny,or_false] at hp
 rcases hp with rfl|rfl|rfl
 ·exact wY ⟨hl.same⟩ (n+1) (.c eq) (.c eu) (by omega)
 ·exact kG ⟨hl.same⟩ (n+2) _
 ·show ak P (n+3) 40 [dC m r,dC m r] M=_
  rw [yO];exact rq ⟨hl.same⟩ n hm hr.2
end
end LD
namespace LD
open PySem
section
variable {Z:Env}{M:Mem}{a b d e:GE}{rest:GS}{kd:D->Mem->Prop}{kf:Fl->Mem->Prop}
theorem EK {i:Nat}(h:ag (e Z M) kd)(hk:∀x M',kd x M'->∃u w k n ds j,x=.tup [u,w]/\a Z M'=.ok (.cell k) M'/\b Z M'=.ok (.int n) M'/\M'[k]?=some ds/\bz ds.length n=some j/\ag (rest (Z.set i (some w)) (M'.set k (ds.set j u))) kf):ag (af (j8 a b i e) rest Z M) kf:=by
 obtain ⟨x,M',ex,q⟩:=f9.mp h
 obtain ⟨u,w,k,n,ds,j,rfl,ha,hb,hm,hj,ok⟩:=hk x M' q
 simp only [aX]
 unfold j8
 rw [ex]
 show ag ((a Z M').bind _) _
 rw [ha]
 show ag ((b Z M').bind _) _
 rw [hb]
 show ag (match M'[k]? with|some ds=>(match bz ds.length n with|some j=>Res.ok (Fl.next (Z.set i (some w))) (M'.set k (ds.set j u))|none=>.bad)|none=>.bad) _
 rw [hm]
 show ag (match bz ds.length n with|some j=>Res.ok (Fl.next (Z.set i (some w))) (M'.set k (ds.set j u))|none=>.bad) _
 rw [hj]
 exact ok
theorem DD (h:ag (d Z M) kd)(hk:∀z M',kd z M'->∃k n ds j,a Z M'=.ok (.cell k) M'/\b Z M'=.ok (.int n) M'/\M'[k]?=some ds/\bz ds.length n=some j/\ag (rest Z (M'.set k (ds.set j z))) kf):ag (af (cE a b d) rest Z M) kf:=by
 obtain ⟨z,M',ez,q⟩:=f9.mp h
 obtain ⟨k,n,ds,j,ha,hb,hm,hj,ok⟩:=hk z M' q
 exact h9 ez ha hb hm hj ok
end
structure Rp (m:aR) (r0:List Nat) (ts:List D) (hs:List (List Nat)) (r:List Nat):Prop where
 ex:∃st:Nat->List (List Nat)×List Nat,st 0=([],r0)/\st ts.length=(hs,r)/\∀i t,ts[i]?=some t->qt m (st i).1 (st i).2 ((st (i+1)).1++[(st (i+1)).2]) t
theorem Rp.step {m:aR}{r0 r r':List Nat}{ts:List D}{hs hs':List (List Nat)}{t:D}(h:Rp m r0 ts hs r)(c:qt m hs r (hs'++[r']) t) :
 ∃st:Nat->List (List Nat)×List Nat,st 0=([],r0)/\st ts.length=(hs,r)/\st (ts.length+1)=(hs',r')/\∀i u,(ts++[t])[i]?=some u->qt m (st i).1 (st i).2 ((st (i+1)).1++[(st (i+1)).2]) u:=by
 obtain ⟨st,e0,e1,cs⟩:=h.ex
 have a:∀{i},i<=ts.length->(if i<=ts.length then st i else (hs',r'))=st i:=fun z=>if_pos z
 have b:(if ts.length+1<=ts.length then st (ts.length+1) else (hs',r'))=(hs',r'):=if_neg (by omega)
 refine ⟨fun i=>if i<=ts.length then st i else (hs',r'),(a (NJ _)).trans e0,(a (L7 _)).trans e1,b,fun i u hu=>?_⟩
 have hi:=(LZ.mp hu).1
 rw [Mz,NH] at hi
 dsimp only
 rcases Nat.lt_or_ge i ts.length with z|z
 ·rw [a (Nat.le_of_lt z),a z]
  rw [Mw z] at hu
  exact cs i u hu
 ·obtain rfl:i=ts.length:=by omega
  rw [ME (L7 _),Nat.sub_self] at hu
  cases hu
  rw [a (L7 _),b,e1]
  exact c
theorem Rp.snoc {m:aR}{r0 r r':List Nat}{ts:List D}{hs hs':List (List Nat)}{t:D}(h:Rp m r0 ts hs r)(c:qt m hs r (hs'++[r']) t):Rp m r0 (ts++[t]) hs' r':=by
 obtain ⟨st,e0,_,e1,cs⟩:=h.step c
 exact ⟨st,e0,by rw [Mz];exact e1,cs⟩
structure CB (P:Nat->Option Df):Prop where
 alone:P 149=some ⟨3,5,gA⟩
section
variable {P:Nat->Option Df}(h:HasS0 P){M:Mem}
include h
theorem uY (n:Nat){ps:List (D×D)}(hz:ps.length<=1000)(hs:∀p∈ps,ak P n 40 [p.1,p.2] M=.ok (.bl true) M):ak P (n+1) 40 [.lst (ps.map (·.1)),.lst (ps.map (·.2))] M=.ok (.bl true) M:=by
 refine av (aA h.same rfl ?_)
 show ag (bM (ak P n) [some (.lst (ps.map (·.1))),some (.lst (ps.map (·.2)))] M) _
 unfold bM
 refine bg rfl (bg rfl (bg rfl (bg rfl (bg rfl ?_))))
 refine bg (bX (ft (lU (ai rfl)) (lU (ai rfl)) ?_)) ?_
 ·show some (!(((ps.map (·.1)).length:Int)==((ps.map (·.2)).length:Int)))=_
  simp
 ·refine bE ?_
  rw [ma,fo,eL,EX,bT]
  refine ⟨_,rfl,?_⟩
  rw [bT]
  refine ⟨_,rfl,rfl,nM h n rfl rfl (aG (by omega)) hs ?_⟩
  rw [show (ps.map fun _=>D.bl true)=(ps.map (·.1)).map fun _=>D.bl true by rw [List.map_map];rfl]
  exact bQ.mpr ⟨aG (by simp;omega),true,iB,rfl,rfl⟩
theorem rn (n:Nat){m:aR}{a b:List Nat}(hm:a8 m):ak P (n+2) 40 [cq (bo m a b),cq (bo m a b)] M=.ok (.bl true) M:=by
 cases e:bo m a b with
 | none =>
   refine av (aA h.same rfl ?_)
   simp [bM,bJ,cq,gX]
 | some s =>
   have:=ml s (N3 e)
   have p2:=hm.p2
   exact jB h n (by rw [this.1];omega)
end
theorem eR.sub {M M':Mem}{f:Nat}{m:aR}{r:List Nat}{p:Nat->Prop}(h:eR M f m r p)(S:Sub M M'):eR M' f m r p:=by
 obtain ⟨x0,x1,x2,e1,a0,a1,a2⟩:=h.ex
 exact ⟨x0,x1,x2,S.get e1,fun z=>let ⟨q,b1,b2,b3⟩:=a0 z;⟨q,b1,b2,S.get b3⟩,a1,a2⟩
section
variable {P:Nat->Option Df}(h:HasM P)(ho:tB P)(ha:nq P)(hq:HasE0 P)(hl:Bd P)(hk:CB P){M:Mem}{m:aR}{r r0 r':List Nat}{hs hs':List (List Nat)}{ts:List D}{t:D}
include h ho ha hq hl hk
theorem zM (n:Nat){s v:Nat}(hm:a8 m)(h0:bj m r0)(hts:ts.length<=100)(es:M[s]?=some (ts++[t]))(rp:Rp m r0 ts hs r)(c:qt m hs r (hs'++[r']) t) :
 ag (ak P (n+17) 149 [.tup [m.d,az r0],.cell s,nD v] M) fun d M'=>∃f,d=.lst [cq (bo m r r'),.cell f]/\eR M' f m r' (fun _=>True)/\Sub M M':=by
 have l0:=h0.1
 obtain ⟨st,e0,e1,e2,cs⟩:=rp.step c
 refine aA hk.alone rfl ?_
 show ag (gA (ak P (n+16)) [some (.tup [m.d,az r0]),some (.cell s),some (nD v),none,none] M) _
 unfold gA
 refine cb (k:=fun d M'=>d=.fn (aQ M.length)/\M'=M++[[.int 40,m.d,az r0,.cell (M.length+1)],[]]) ?_ ?_
 ·refine ux (ds:=[m.d,az r0]) (aq (bf (d:=m.d) (ai rfl) rfl rfl) (aq ?_ bu)) ?_
  ·rw [jU (aq (bf (d:=az r0) (ai rfl) rfl rfl) bu)]
   exact av ((bx.l (M:=M) (r:=r0)).list.mpr (bQ.mpr ⟨aG (by simp;omega),rfl,rfl⟩))
  ·rw [tY h ho (n+6) (x:=az r0) .l hm h0]
   exact ⟨rfl,rfl,rfl⟩
 rintro _ _ ⟨rfl,rfl⟩
 have S1:Sub M (M++[[.int 40,m.d,az r0,.cell (M.length+1)],[]]):=.app
 have sa:bt (M++[[.int 40,m.d,az r0,.cell (M.length+1)],[]]) M.length (M.length+1) m r0 []:=⟨by simp,by simp⟩
 generalize M++[[.int 40,m.d,az r0,.cell (M.length+1)],[]]=M1 at S1 sa
 rw [aX,hZ,eL,nA,bT]
 refine ⟨_,rfl,rfl,?_⟩
 refine comp_map (ds:=ts++[t]) (fun i acc M'=>acc=(List.range i).map (fun j=>cq (bo m (st j).2 (st (j+1)).2))/\Sub M M'/\bt M' M.length (M.length+1) m (st i).2 (st i).1/\bj m (st i).2/\(∀x∈(st i).1,bj m x)/\(st i).1.length<=i) (aG (by simp;omega)) (fun i acc M' z=>z.2.1.get es) ⟨rfl,S1,by rw [e0];exact sa,by rw [e0];exact h0,(by rw [e0];exact fun _ z=>nomatch z),by rw [e0];exact NJ _⟩ ?_ ?_
 ·rintro i d acc M' hd la ⟨rfl,S,s1,hr,hh,hz⟩
  have hi:=(LZ.mp hd).1
  rw [Mz,NH] at hi
  refine ⟨_,rfl,?_⟩
  obtain ⟨hs2,r2,el,hr2,hh2,hl2,ok⟩:=xb h ho ha hq n hm hr hh (by omega) (cs i d hd) s1
  obtain ⟨z1,z2⟩:=List.append_inj' el rfl
  have z2:(st (i+1)).2=r2:=List.head_eq_of_cons_eq z2
  rw [bB (aq (ai (x:=.fn (aQ M.length)) rfl) (aq (ai (x:=d) rfl) bu))]
  refine aT ok ?_
  rintro _ M2 ⟨rfl,s2,k2⟩
  rw [z1,z2]
  refine ⟨by rw [List.range_succ,Nl,List.map_singleton,z2],⟨Mb S.len k2.len,fun j hj=>?_⟩,s2,hr2,hh2,by omega⟩
  rw [k2.at' j (Mj hj S.len) (by simp;omega)]
  exact S.at' j hj
 ·rintro acc M' la ⟨rfl,S,s1,hr,hh,hz⟩
  rw [Mz,NH] at s1 hr
  rw [e2] at s1 hr
  refine bQ.mpr ⟨aG (by simp;omega),?_⟩
  rw [Mz,NH,List.range_succ,Nl,List.map_singleton,e1,e2]
  generalize (List.range ts.length).map (fun j=>cq (bo m (st j).2 (st (j+1)).2))=xs
  rw [dQ]
  refine bE ?_
  rw [kr,bp,uz (xs:=xs) (y:=cq (bo m r r')) (ai rfl),dW,bp,bB (aq (ai (x:=.fn (aQ M.length)) rfl) (aq (ai (x:=nD v) rfl) bu))]
  refine aT (lK h ho ha hq hl (n+3) hm hr s1) ?_
  rintro _ M2 ⟨rfl,f1,S2⟩
  rw [bO]
  exact bQ.mpr ⟨aG (by simp),_,rfl,f1,S.trans S2⟩
end
end LD
namespace LD
open PySem
noncomputable def uD (c:Call):GS:=(af (aH (.one 11) (au 31 c (ae (aa 1) (ae (gI 2) ah)))) (af (j8 (aa 7) (aa 11) 12 (au 138 c (ae (aa 1) (ae (ay (ay (aa 2) (aa 11)) (gI 0)) (ae (ay (aa 7) (aa 11)) ah))))) (af (dU (ay (aa 8) (aa 11)) (aa 12)) (af (aH (.one 13) (au 139 c (ae (ay (aa 6) (aa 11)) (ae (aa 12) ah)))) (af (aH (.one 14) (au 31 c (ae (aa 1) (ae (gI 6) ah)))) (af (cE (aa 9) (aa 11) (au 144 c (ae (ay (aa 6) (aa 11)) (ae (aa 14) ah)))) (af (aS (bP (aE (au 40 c (ae (bA false (ae (aa 13) (ae (ay (aa 9) (aa 11)) ah))) (ae (au 149 c (ae (ay (aa 2) (aa 11)) (ae (ay (aa 8) (aa 11)) (ae (aw false .add (aa 14) (gI 2)) ah)))) ah))))) rF aj) (af (aS (bP (aE (au 40 c (ae (au 144 c (ae (ay (aa 6) (aw false .sub (gI 1) (aa 11))) (ae (aw false .add (aa 14) (gI 3)) ah))) (ae (ay (aa 9) (aw false .sub (gI 1) (aa 11))) ah))))) rF aj) aj))))))))
noncomputable def xY (c:Call):GS:=(af (aH (.one 5) (au 34 c (ae (au 30 c (ae (aa 1) ah)) (ae (gI 3) (ae (gI 2) (ae (gI 5) ah)))))) (af (dU (aa 2) (cv (ae (aa 5) (ae (au 35 c (ae (aa 1) (ae (aa 5) (ae (gI 6) ah)))) ah)))) aj))
structure Sd where
 k:Nat
 e:Nat
 s:Nat
 f:Nat
 q:Nat
 m:aR
 r0:List Nat
 r:List Nat
 hs:List (List Nat)
 ts:List D
structure Zn (cc rc sc lc:Nat) (a:Sd):Prop where
 k1:cc<a.k
 e1:cc<a.e
 k2:a.k<rc
 e2:a.e<rc
 s1:rc<a.s
 s2:a.s<sc
 f1:sc<a.f
 fq:a.f<a.q
 fl:a.f≠lc
 ql:a.q≠lc
structure Cr (M:Mem) (a:Sd) (n:Nat):Prop where
 mo:a8 a.m
 r0:bj a.m a.r0
 ro:bj a.m a.r
 ho:∀x∈a.hs,bj a.m x
 hl:a.hs.length<=n
 tl:a.ts.length<=n
 rp:Rp a.m a.r0 a.ts a.hs a.r
 sh:bt M a.k a.e a.m a.r a.hs
 te:M[a.s]?=some a.ts
 lf:M[a.f]?=some [.cell a.q,nD (gY a.m a.r),dC a.m a.r]
 lq:M[a.q]?=some (a.r.map nD)
noncomputable def two (g:Nat->D):List D:=[g 0,g 1]
noncomputable def put2 {α:Type}(A:Nat->α)(i:Nat)(a:α):Nat->α:=fun j=>if j=i then a else A j
theorem tO {g g':Nat->D}{i:Nat}{z:D}(hi:i<2)(h1:g' i=z)(h2:∀j,j≠i->g' j=g j):(two g).set i z=two g':=by
 match i,hi with
 |0,_=>show [z,g 1]=[g' 0,g' 1];rw [h1,h2 1 (by decide)]
 |1,_=>show [g 0,z]=[g' 0,g' 1];rw [h1,h2 0 (by decide)]
theorem nB {g:Nat->D}{i:Nat}(hi:i<2):bz (two g).length (i:Int)=some i:=eK hi
theorem nE {g:Nat->D}{i:Nat}(hi:i<2):(two g)[i]?=some (g i):=by
 match i,hi with
 |0,_=>rfl
 |1,_=>rfl
theorem fM {M:Mem}{c i:Nat}{g:Nat->D}(h:M[c]?=some (two g))(hi:i<2):cu (.cell c) (nD i) M=some (g i):=by
 show (M[c]?).bind (fun ds=>(bz ds.length (i:Int)).bind fun j=>ds[j]?)=_
 rw [h]
 show (bz (two g).length (i:Int)).bind (fun j=>(two g)[j]?)=_
 rw [nB hi]
 exact nE hi
theorem m5 {M:Mem}{i:Nat}{g:Nat->D}(hi:i<2):cu (.lst (two g)) (nD i) M=some (g i):=by
 show (bz (two g).length (i:Int)).bind (fun j=>(two g)[j]?)=_
 rw [nB hi]
 exact nE hi
theorem Cr.of {M M':Mem}{a:Sd}{n n':Nat}(h:Cr M a n)(hn:n<=n')(e:∀x,x=a.k\/x=a.e\/x=a.s\/x=a.f\/x=a.q->x<M.length->M'[x]?=M[x]?):Cr M' a n':=
 have g:∀{x ds},M[x]?=some ds->(x=a.k\/x=a.e\/x=a.s\/x=a.f\/x=a.q)->M'[x]?=some ds:=fun q z=>(e _ z (cz q)).trans q
 ⟨h.mo,h.r0,h.ro,h.ho,Mb h.hl hn,Mb h.tl hn,h.rp,⟨g h.sh.ob (by simp),g h.sh.er (by simp)⟩,g h.te (by simp),g h.lf (by simp),g h.lq (by simp)⟩
structure gB (M:Mem) (p B cc rc sc lc n:Nat) (kk:Nat->Nat) (A:Nat->Sd):Prop where
 pen:aL M p B
 pc:p<cc
 cr:cc<rc
 rs:rc<sc
 sl:sc<lc
 kk:∀i,i<2->(A i).k=kk i
 zn:∀i,i<2->Zn cc rc sc lc (A i)
 ap:∀i j,i<2->j<2->i≠j->(A i).k≠(A j).k/\(A i).k≠(A j).e/\(A i).e≠(A j).k/\(A i).e≠(A j).e/\(A i).s≠(A j).s
 sp:∀i,i<2->Cr M (A i) n
 ca:M[cc]?=some (two fun i=>.tup [(A i).m.d,az (A i).r0])
 ro:M[rc]?=some (two fun i=>.lst (((A i).hs++[(A i).r]).map az))
 sa:M[sc]?=some (two fun i=>.cell (A i).s)
 lo:M[lc]?=some (two fun i=>.cell (A i).f)
section
variable {M M':Mem}{p B B' cc rc sc lc n:Nat}{kk:Nat->Nat}{A:Nat->Sd}
theorem gB.of (h:gB M p B cc rc sc lc n kk A)(hp:aL M' p B')(e:∀x,p<x->x<M.length->M'[x]?=M[x]?):gB M' p B' cc rc sc lc n kk A:=by
 have g:∀{x ds},M[x]?=some ds->p<x->M'[x]?=some ds:=fun q z=>(e _ z (cz q)).trans q
 have o1:=h.pc;have o2:=h.cr;have o3:=h.rs;have o4:=h.sl
 refine ⟨hp,h.pc,h.cr,h.rs,h.sl,h.kk,h.zn,h.ap,fun i hi=>(h.sp i hi).of (L7 _) fun x hx hl=>e x ?_ hl,g h.ca o1,g h.ro (by omega),g h.sa (by omega),g h.lo (by omega)⟩
 have z:=h.zn i hi
 have z1:=z.k1;have z2:=z.e1;have z3:=z.s1;have z4:=z.f1;have z5:=z.fq
 omega
theorem gB.keep (h:gB M p B cc rc sc lc n kk A)(s:bc p M M')(hp:aL M' p B'):gB M' p B' cc rc sc lc n kk A:=h.of hp fun x hx hl=>s.at' x hl (Nc hx)
theorem gB.sub (h:gB M p B cc rc sc lc n kk A)(s:Sub M M'):gB M' p B cc rc sc lc n kk A:=h.of (s.pen h.pen) fun x _ hl=>s.at' x hl
end
structure CC (P:Nat->Option Df):Prop where
 m:HasM P
 p:HasP P
 row:P 35=some ⟨3,6,gz⟩
 a:nq P
 o:tB P
 e:HasE0 P
 k:Bd P
 k2:CB P
 law:P 150=some ⟨1,15,mn⟩
section
variable {P:Nat->Option Df}(h:CC P){M:Mem}{p B cc rc sc lc n:Nat}{kk:Nat->Nat}{A:Nat->Sd}
include h
theorem Fg {x0 x3 x4 x5 x10 x11 x12 x13 x14:Option D}(hn:n<=40)(hB:B<=600000)(st:gB M p B cc rc sc lc n kk A) :
 ag (uD (ak P 39) [x0,some (.cell p),some (.cell cc),x3,x4,x5,some (.lst (two fun i=>.fn (aQ (kk i)))),some (.cell rc),some (.cell sc),some (.cell lc),x10,x11,x12,x13,x14] M) fun fl M'=>∃A' x11 x12 x13 x14,fl=.next [x0,some (.cell p),some (.cell cc),x3,x4,x5,some (.lst (two fun i=>.fn (aQ (kk i)))),some (.cell rc),some (.cell sc),some (.cell lc),x10,x11,x12,x13,x14]/\gB M' p (B+5) cc rc sc lc (n+1) kk A':=by
 unfold uD
 refine du h.p.toHasP0 37 (many:=2) rfl rfl st.pen (by omega) (by decide) (by decide) fun v M1 hv p1 k1=>?_
 have st1:=st.keep k1 p1
 have sv:=st1.sp v hv
 have zv:=st1.zn v hv
 have ek:=st1.kk v hv
 refine EK (kd:=fun d M'=>∃later told,d=.tup [.lst (later.map az),told]/\qt (A v).m (A v).hs (A v).r later told/\aL M' p (B+4)/\bc p M1 M') ?_ ?_
 ·rw [bB (aq (ai (x:=.cell p) rfl) (aq (bf (d:=(A v).m.d) (bf (ai rfl) (ai (x:=nD v) rfl) (fM st1.ca hv)) rfl rfl) (aq (bf (ai rfl) (ai (x:=nD v) rfl) (fM st1.ro hv)) bu)))]
  exact u9 h.p.toHasP0 h.e 36 sv.mo sv.ro (by have:=sv.hl;omega) p1 (by omega)
 rintro _ M2 ⟨later,told,rfl,cg,p2,k2⟩
 have st2:=st1.keep k2 p2
 obtain ⟨hs',r',rfl⟩:∃hs' r',later=hs'++[r']:=by
  rcases cg with ⟨hs0,r0,e1,rfl,_⟩|⟨a,_,rfl,_⟩|⟨a,i,_,_,_,rfl,_⟩
  ·exact ⟨_,_,e1⟩
  ·exact ⟨_,_,rfl⟩
  ·exact ⟨_,_,rfl⟩
 refine ⟨_,_,rc,(v:Int),_,v,rfl,ai rfl,ai rfl,st2.ro,nB hv,?_⟩
 have lrc:=cz st2.ro
 have sv2:=st2.sp v hv
 have o1:=st.pc;have o2:=st.cr;have o3:=st.rs;have o4:=st.sl
 have z1:=zv.k1;have z2:=zv.e1;have z3:=zv.k2;have z4:=zv.e2;have z5:=zv.s1;have z6:=zv.s2
 generalize hM3:M2.set rc ((two fun i=>.lst (((A i).hs++[(A i).r]).map az)).set v (.lst ((hs'++[r']).map az)))=M3
 have e3:∀x,x≠rc->M3[x]?=M2[x]?:=fun x hx=>by rw [<- hM3,Mc (Ng hx)]
 have r3:M3[rc]?=some ((two fun i=>.lst (((A i).hs++[(A i).r]).map az)).set v (.lst ((hs'++[r']).map az))):=by rw [<- hM3,Mn lrc]
 have n3:M3.length=M2.length:=by rw [<- hM3];simp
 have ts3:M3[(A v).s]?=some (A v).ts:=(e3 _ (by omega)).trans sv2.te
 refine yQ (k:=(A v).s) (z:=told) (ds:=(A v).ts) (bf (ai rfl) (ai (x:=nD v) rfl) (fM ((e3 sc (by omega)).trans st2.sa) hv)) (ai rfl) ts3 (Mj (by have:=sv.tl;omega:_<2000) (aG (by decide))) ?_
 generalize hM4:M3.set (A v).s ((A v).ts++[told])=M4
 have e4:∀x,x≠(A v).s->M4[x]?=M3[x]?:=fun x hx=>by rw [<- hM4,Mc (Ng hx)]
 have t4:M4[(A v).s]?=some ((A v).ts++[told]):=by rw [<- hM4,Mn (cz ts3)]
 have n4:M4.length=M2.length:=by rw [<- hM4];simpa using n3
 have s4:bt M4 (A v).k (A v).e (A v).m (A v).r (A v).hs:=⟨((e4 _ (by omega)).trans (e3 _ (by omega))).trans sv2.sh.ob,((e4 _ (by omega)).trans (e3 _ (by omega))).trans sv2.sh.er⟩
 obtain ⟨hs2,r2,el,hr',hh',hl',ok⟩:=xb h.m h.o h.a h.e 23 sv.mo sv.ro sv.ho (by have:=sv.hl;omega) cg s4
 obtain ⟨y1,y2⟩:=List.append_inj' el rfl
 have y2:r'=r2:=List.head_eq_of_cons_eq y2
 subst y1 y2
 refine cb (k:=fun d M'=>d=cq (bo (A v).m (A v).r r')/\bt M' (A v).k (A v).e (A v).m r' hs'/\gD [(A v).k,(A v).e] M4 M') ?_ ?_
 ·rw [bB (aq (bf (ai rfl) (ai (x:=nD v) rfl) (m5 hv)) (aq (ai (x:=told) rfl) bu)),<- ek]
  exact ok
 rintro _ M5 ⟨rfl,s5,k5⟩
 have p5:aL M5 p (B+4):=p2.of fun j hj=>by
  have hl:=Nat.lt_of_le_of_lt hj p2.lt
  rw [k5.at' j (by omega) (by simp;omega),e4 j (by omega),e3 j (by omega)]
 refine du h.p.toHasP0 37 (many:=6) rfl rfl p5 (by omega) (by decide) (by decide) fun t M6 ht p6 k6=>?_
 have s6:bt M6 (A v).k (A v).e (A v).m r' hs':=⟨k6.get s5.ob (by omega),k6.get s5.er (by omega)⟩
 refine DD (kd:=fun d M'=>d=.cell M6.length/\eR M' M6.length (A v).m r' (fun _=>True)/\Sub M6 M') ?_ ?_
 ·rw [bB (aq (bf (ai rfl) (ai (x:=nD v) rfl) (m5 hv)) (aq (ai (x:=nD t) rfl) bu)),<- ek]
  exact lK h.m h.o h.a h.e h.k 26 sv.mo hr' s6
 rintro _ M7 ⟨rfl,f7,S7⟩
 have key:∀x,x<M2.length->x≠rc->x≠(A v).s->x≠(A v).k->x≠(A v).e->x≠p->M7[x]?=M2[x]?:=fun x hx a b c d f=>by
  have l5:=k5.len
  have l6:=k6.len
  rw [S7.at' x (by omega),k6.at' x (by omega) f,k5.at' x (by omega) (by simp [c,d]),e4 x b,e3 x a]
 have lo7:M7[lc]?=some (two fun i=>.cell (A i).f):=(key lc (cz st2.lo) (by omega) (by omega) (by omega) (by omega) (by omega)).trans st2.lo
 refine ⟨lc,(v:Int),_,v,ai rfl,ai rfl,lo7,nB hv,?_⟩
 obtain ⟨c0,c1,c2,ef,a0,a1,a2⟩:=f7.ex
 obtain ⟨q,rfl,fq,eq⟩:=a0 trivial
 obtain rfl:=a1 trivial
 obtain rfl:=a2 trivial
 have l67:=S7.len
 have l56:=k6.len
 have l45:=k5.len
 have llc:lc<M2.length:=cz st2.lo
 generalize hM8:M7.set lc ((two fun i=>.cell (A i).f).set v (.cell M6.length))=M8
 have e8:∀x,x≠lc->M8[x]?=M7[x]?:=fun x hx=>by rw [<- hM8,Mc (Ng hx)]
 have st8:gB M8 p (B+5) cc rc sc lc (n+1) kk (put2 A v ⟨(A v).k,(A v).e,(A v).s,M6.length,q,(A v).m,(A v).r0,r',hs',(A v).ts++[told]⟩):=by
  have pa:put2 A v ⟨(A v).k,(A v).e,(A v).s,M6.length,q,(A v).m,(A v).r0,r',hs',(A v).ts++[told]⟩ v=⟨(A v).k,(A v).e,(A v).s,M6.length,q,(A v).m,(A v).r0,r',hs',(A v).ts++[told]⟩:=if_pos rfl
  have pn:∀{j},j≠v->put2 A v ⟨(A v).k,(A v).e,(A v).s,M6.length,q,(A v).m,(A v).r0,r',hs',(A v).ts++[told]⟩ j=A j:=fun z=>if_neg z
  generalize put2 A v ⟨(A v).k,(A v).e,(A v).s,M6.length,q,(A v).m,(A v).r0,r',hs',(A v).ts++[told]⟩=A' at pa pn
  have ck:∀i,(A' i).k=(A i).k/\(A' i).e=(A i).e/\(A' i).s=(A i).s/\(A' i).m=(A i).m/\(A' i).r0=(A i).r0:=fun i=>by
   by_cases z:i=v
   ·subst z;rw [pa];exact ⟨rfl,rfl,rfl,rfl,rfl⟩
   ·rw [pn z];exact ⟨rfl,rfl,rfl,rfl,rfl⟩
  refine ⟨?_,o1,o2,o3,o4,fun i hi=>(ck i).1.trans (st1.kk i hi),fun i hi=>?_,fun i j hi hj ne=>?_,fun i hi=>?_,?_,?_,?_,?_⟩
  ·refine (S7.pen p6).of fun j hj=>e8 j (by omega)
  ·by_cases z:i=v
   ·subst z;rw [pa];exact ⟨z1,z2,z3,z4,z5,z6,by show sc<M6.length;omega,fq,by show M6.length≠lc;omega,by show q≠lc;omega⟩
   ·rw [pn z];exact st1.zn i hi
  ·rw [(ck i).1,(ck i).2.1,(ck i).2.2.1,(ck j).1,(ck j).2.1,(ck j).2.2.1];exact st1.ap i j hi hj ne
  ·by_cases z:i=v
   ·subst z
    rw [pa]
    refine ⟨sv.mo,sv.r0,hr',hh',by show hs'.length<=n+1;have:=sv.hl;omega,by show ((A i).ts++[told]).length<=n+1;have:=sv.tl;simp;omega,sv.rp.snoc cg,⟨(e8 (A i).k (by omega)).trans (S7.get s6.ob),(e8 (A i).e (by omega)).trans (S7.get s6.er)⟩,?_,(e8 M6.length (by omega)).trans ef,(e8 q (by omega)).trans eq⟩
    show M8[(A i).s]?=some ((A i).ts++[told])
    have ls:(A i).s<M2.length:=cz sv2.te
    rw [e8 _ (by omega),S7.at' _ (by omega),k6.at' _ (by omega) (by omega),k5.at' _ (by omega) (by simp;omega)]
    exact t4
   ·rw [pn z]
    have zi:=st1.zn i hi
    have w1:=zi.k1;have w2:=zi.e1;have w3:=zi.k2;have w4:=zi.e2;have w5:=zi.s1;have w6:=zi.s2;have w7:=zi.f1;have w8:=zi.fq;have w9:=zi.fl;have w0:=zi.ql
    obtain ⟨u1,u2,u3,u4,u5⟩:=st1.ap i v hi hv z
    refine (st2.sp i hi).of (NQ _) fun x hx hl=>?_
    rw [e8 x (by omega)]
    exact key x hl (by omega) (by omega) (by omega) (by omega) (by omega)
  ·rw [e8 _ (by omega),key cc (cz st2.ca) (by omega) (by omega) (by omega) (by omega) (by omega),st2.ca]
   congr 1
   unfold two
   dsimp only
   rw [(ck 0).2.2.2.1,(ck 0).2.2.2.2,(ck 1).2.2.2.1,(ck 1).2.2.2.2]
  ·rw [e8 _ (by omega),S7.at' _ (by omega),k6.at' _ (by omega) (by omega),k5.at' _ (by omega) (by simp;omega),e4 _ (by omega),r3]
   refine congrArg some (tO hv (by rw [pa]) fun j hj=>by rw [pn hj])
  ·rw [e8 _ (by omega),key sc (cz st2.sa) (by omega) (by omega) (by omega) (by omega) (by omega),st2.sa]
   congr 1
   unfold two
   dsimp only
   rw [(ck 0).2.2.1,(ck 1).2.2.1]
  ·rw [<- hM8,Mn (by omega)]
   refine congrArg some (tO hv (by rw [pa]) fun j hj=>by rw [pn hj])
 have t8:M8[(A v).s]?=some ((A v).ts++[told]):=by
  have:=(st8.sp v hv).te
  simpa [put2] using this
 have lf8:eR M8 M6.length (A v).m r' (fun _=>True):=⟨_,_,_,(e8 _ (by omega)).trans ef,fun _=>⟨q,rfl,fq,(e8 _ (by omega)).trans eq⟩,fun _=>rfl,fun _=>rfl⟩
 have lv8:cu (.cell lc) (nD v) M8=some (.cell M6.length):=by
  rw [fM st8.lo hv];simp [put2]
 have ca8:cu (.cell cc) (nD v) M8=some (.tup [(A v).m.d,az (A v).r0]):=by
  rw [fM st8.ca hv];simp [put2]
 have sa8:cu (.cell sc) (nD v) M8=some (.cell (A v).s):=by
  rw [fM st8.sa hv];simp [put2]
 generalize put2 A v ⟨(A v).k,(A v).e,(A v).s,M6.length,q,(A v).m,(A v).r0,r',hs',(A v).ts++[told]⟩=A' at st8
 refine uC (R:=fun M'=>Sub M8 M') ?_ fun M9 S9=>?_
 ·rw [uV,nH,je,bp,gj (aq (ai (x:=cq (bo (A v).m (A v).r r')) rfl) (aq (bf (ai rfl) (ai (x:=nD v) rfl) lv8) bu)) (by simp),dW,bp,bB (aq (bf (ai rfl) (ai (x:=nD v) rfl) ca8) (aq (bf (ai rfl) (ai (x:=nD v) rfl) sa8) (aq (iU (v:=t) (w:=2) (ai rfl) rfl) bu)))]
  refine aT (zM h.m h.o h.a h.e h.k h.k2 22 sv.mo sv.r0 (by have:=sv.tl;omega) t8 sv.rp cg) ?_
  rintro _ M9 ⟨f2,rfl,l2,S9⟩
  rw [bO]
  have e:=uY (P:=P) (M:=M9) ⟨h.k.same⟩ 38 (ps:=[(cq (bo (A v).m (A v).r r'),cq (bo (A v).m (A v).r r')),(.cell M6.length,.cell f2)]) (by simp) fun p hp=>by
   simp only [MJ,Ny,or_false] at hp
   rcases hp with rfl|rfl
   ·exact rn ⟨h.k.same⟩ 36 sv.mo
   ·exact kI h.k 34 sv.mo hr' (lf8.sub S9) l2
  show ag (ak P 39 40 [.lst [cq (bo (A v).m (A v).r r'),.cell M6.length],.lst [cq (bo (A v).m (A v).r r'),.cell f2]] M9) _
  rw [show ak P 39 40 [.lst [cq (bo (A v).m (A v).r r'),.cell M6.length],.lst [cq (bo (A v).m (A v).r r'),.cell f2]] M9=_ from e]
  exact ⟨true,rfl,rfl,S9⟩
 have st9:=st8.sub S9
 have hw:1-v<2:=by omega
 have sw:=st9.sp (1-v) hw
 have ev:∀{Z:Env}{M:Mem},Z[11]?.getD none=some (nD v)->aw false .sub (gI 1) (aa 11) Z M=.ok (nD (1-v)) M:=fun {Z M} e=>by
  unfold aw
  show (aa 11 Z M).bind _=_
  rw [ai e]
  show Res.ok (D.int (1-(v:Int))) M=_
  congr 2;omega
 refine uC (R:=fun M'=>Sub M9 M') ?_ fun M10 S10=>⟨A',_,_,_,_,rfl,st9.sub S10⟩
 rw [uV,nH,je,bp,bB (aq (bf (ai rfl) (ev rfl) (m5 hw)) (aq (iU (v:=t) (w:=3) (ai rfl) rfl) bu)),<- st9.kk _ hw]
 refine aT (lK h.m h.o h.a h.e h.k 26 sw.mo sw.ro sw.sh) ?_
 rintro _ Ma ⟨rfl,la,Sa⟩
 rw [bp,bf (ai rfl) (ev rfl) (fM (st9.sub Sa).lo hw),dW,bO]
 have lb:eR Ma (A' (1-v)).f (A' (1-v)).m (A' (1-v)).r (fun _=>True):=⟨_,_,_,Sa.get sw.lf,fun _=>⟨_,rfl,(st9.zn _ hw).fq,Sa.get sw.lq⟩,fun _=>rfl,fun _=>rfl⟩
 rw [kI h.k 35 sw.mo sw.ro la lb]
 exact ⟨true,rfl,rfl,Sa⟩
end
end LD
namespace LD
open PySem
noncomputable def uQ (c:Call):GS:=(af (aH (.one 6) (bI false 1 (.one 0) (di (aa 2)) (bH (km 40 129 c (ae (ay (aa 0) (gI 0)) (ae (aV (.list false) (ae (ay (aa 0) (gI 1)) ah)) ah)))))) (af (aH (.one 7) (bI true 1 (.one 0) (di (aa 2)) (bH (bA false (ae (ay (aa 0) (gI 1)) ah))))) (af (aH (.one 8) (bA true (ae (bA true ah) (ae (bA true ah) ah)))) (af (aH (.one 9) (bI true 1 (.one 0) (di (aa 6)) (bH (au 144 c (ae (aa 0) (ae (gI 0) ah)))))) (af (eJ (.one 10) (dB (aw false .add (gI 8) (au 31 c (ae (aa 1) (ae (gI 8) ah))))) (af (aH (.one 11) (au 31 c (ae (aa 1) (ae (gI 2) ah)))) (af (j8 (aa 7) (aa 11) 12 (au 138 c (ae (aa 1) (ae (ay (ay (aa 2) (aa 11)) (gI 0)) (ae (ay (aa 7) (aa 11)) ah))))) (af (dU (ay (aa 8) (aa 11)) (aa 12)) (af (aH (.one 13) (au 139 c (ae (ay (aa 6) (aa 11)) (ae (aa 12) ah)))) (af (aH (.one 14) (au 31 c (ae (aa 1) (ae (gI 6) ah)))) (af (cE (aa 9) (aa 11) (au 144 c (ae (ay (aa 6) (aa 11)) (ae (aa 14) ah)))) (af (aS (bP (aE (au 40 c (ae (bA false (ae (aa 13) (ae (ay (aa 9) (aa 11)) ah))) (ae (au 149 c (ae (ay (aa 2) (aa 11)) (ae (ay (aa 8) (aa 11)) (ae (aw false .add (aa 14) (gI 2)) ah)))) ah))))) rF aj) (af (aS (bP (aE (au 40 c (ae (au 144 c (ae (ay (aa 6) (aw false .sub (gI 1) (aa 11))) (ae (aw false .add (aa 14) (gI 3)) ah))) (ae (ay (aa 9) (aw false .sub (gI 1) (aa 11))) ah))))) rF aj) aj))))))))) (af (aN Ha) aj))))))
noncomputable def dZ (c:aR×List Nat):D:=.tup [c.1.d,az c.2]
theorem EL {Z:Env}{M:Mem}{a b:GE}{rest:GS}{k:Nat}{kd:D->Mem->Prop}{kf:Fl->Mem->Prop}(ha:a Z M=.ok (.cell k) M)(hb:ag (b Z M) kd)(hk:∀z M',kd z M'->∃ds,M'[k]?=some ds/\ds.length<sz/\ag (rest Z (M'.set k (ds++[z]))) kf):ag (af (dU a b) rest Z M) kf:=by
 obtain ⟨z,M',ez,q⟩:=f9.mp hb
 obtain ⟨ds,hm,hz,ok⟩:=hk z M' q
 simp only [aX]
 unfold dU
 rw [ha]
 show ag ((b Z M).bind _) _
 rw [ez]
 show ag (match M'[k]? with|some ds=>(if ds.length<sz then Res.ok (Fl.next Z) (M'.set k (ds++[z])) else .bad)|none=>.bad) _
 rw [hm]
 show ag (if ds.length<sz then _ else _) _
 rw [if_pos hz]
 exact ok
noncomputable def objs (L:Nat)(C:Nat->aR×List Nat):Mem:=[[.int 40,(C 0).1.d,az (C 0).2,.cell (L+1)],[],[.int 40,(C 1).1.d,az (C 1).2,.cell (L+3)],[]]
section
variable {P:Nat->Option Df}(h:CC P){M:Mem}{p B cc:Nat}
include h
theorem xX {x0 x3 x4 x5 x6 x7 x8 x9 x10 x11 x12 x13 x14:Option D}{cs:List (aR×List Nat)}(hB:B<=10000)(hp:aL M p B)(hc:p<cc)(hl:cs.length<=2)(ec:M[cc]?=some (cs.map dZ)) :
 ag (xY (ak P 39) [x0,some (.cell p),some (.cell cc),x3,x4,x5,x6,x7,x8,x9,x10,x11,x12,x13,x14] M) fun fl M'=>∃m r y5,fl=.next [x0,some (.cell p),some (.cell cc),x3,x4,y5,x6,x7,x8,x9,x10,x11,x12,x13,x14]/\a8 m/\bj m r/\aL M' p (B+350)/\M'[cc]?=some ((cs++[(m,r)]).map dZ):=by
 unfold xY
 refine cb (k:=fun d M'=>∃m:aR,d=m.d/\a8 m/\aL M' p (B+300)/\bc p M M') ?_ ?_
 ·rw [je,bp,bB (aq (ai (x:=.cell p) rfl) bu)]
  refine aT (Di h.p.toHasP0 38 hp) ?_
  rintro _ M1 ⟨rfl,p1,k1⟩
  show ag (ak P 39 34 [.cell p,nD 3,nD 2,nD 5] M1) _
  refine aT (u7 h.p 34 p1 (by omega) (by decide) (by decide) (by decide) (by decide) (by decide) (by decide)) ?_
  rintro d M2 ⟨m,e,hm,_,_,_,p2,k2⟩
  exact ⟨m,e,hm,p2,k1.trans k2⟩
 rintro _ M1 ⟨m,rfl,hm,p1,k1⟩
 refine EL (k:=cc) (kd:=fun d M'=>∃r,d=dZ (m,r)/\bj m r/\aL M' p (B+350)/\bc p M1 M') (ai rfl) ?_ ?_
 ·rw [iI,bp,ai (x:=m.d) rfl,dW,bp,bB (aq (ai (x:=.cell p) rfl) (aq (ai (x:=m.d) rfl) (aq (x:=nD 6) rfl bu)))]
  refine aT (Dd h.p h.row 36 hm p1 (by omega) (by decide)) ?_
  rintro d M2 ⟨r,rfl,hr,_,p2,k2⟩
  rw [bO]
  exact ⟨aG (by simp),r,rfl,hr,p2,k2⟩
 rintro _ M2 ⟨r,rfl,hr,p2,k2⟩
 have e2:M2[cc]?=some (cs.map dZ):=(k1.trans k2).get ec (Nc hc)
 refine ⟨_,e2,Mj (by simp;omega:_<2000) (aG (by decide)),m,r,_,rfl,hm,hr,p2.setq hc,?_⟩
 rw [Mn (cz e2),Nl];rfl
theorem IV (ns:List Int)(hn:ns.length<=63):∃M,ak P 40 150 [.frz (ns.map D.int)] []=.ok (.bl true) M:=by
 have goal:ag (ak P 40 150 [.frz (ns.map D.int)] []) fun d _=>d=.bl true:=by
  refine aA h.law rfl ?_
  show ag (mn (ak P 39) [some (.frz (ns.map D.int)),none,none,none,none,none,none,none,none,none,none,none,none,none,none] []) _
  unfold mn
  refine cb (k:=fun d M'=>d=.cell 1/\aL M' 1 0) ?_ ?_
  ·rw [bB (aq (ai rfl) bu)]
   exact Dg h.p.toHasP0 38 hn
  rintro _ M1 ⟨rfl,p1⟩
  have l1:=p1.lt
  refine cb (k:=fun d M'=>d=.cell M1.length/\M'=M1++[[]]) ?_ ?_
  ·rw [kr,bO]
   exact eC.mpr ⟨NJ _,rfl,rfl⟩
  rintro _ _ ⟨rfl,rfl⟩
  have p2:aL (M1++[[]]) 1 0:=p1.app
  have c2:(M1++[[]])[M1.length]?=some (([]:List (aR×List Nat)).map dZ):=by simp
  generalize M1++[[]]=M2 at p2 c2
  generalize M1.length=cc at l1 c2 ⊢
  refine du h.p.toHasP0 37 (many:=2) rfl rfl p2 (by omega) (by decide) (by decide) fun w M3 hw p3 k3=>?_
  have c3:=k3.get c2 (Nc l1)
  rw [aX,nN,hU,fo]
  refine ⟨2,rfl,⟨by decide,by decide⟩,?_⟩
  refine fN (ds:=(List.range 2).map fun (k:Nat)=>D.int (k:Int)) (fun i Z M'=>∃cs y4 y5,Z=[some (.frz (ns.map D.int)),some (.cell 1),some (.cell cc),some (nD w),y4,y5,none,none,none,none,none,none,none,none,none]/\cs.length=i/\(∀c∈cs,a8 c.1/\bj c.1 c.2)/\aL M' 1 (1+350*i)/\M'[cc]?=some (cs.map dZ)) (fun _ _ _ _=>rfl) ⟨[],_,_,rfl,rfl,(fun _ z=>nomatch z),p3,c3⟩ ?_ ?_
  ·rintro i d Z M' hd ⟨cs,y4,y5,rfl,hl,ho,hp,ec⟩
   have hi:i<2:=(LZ.mp hd).1
   refine ⟨_,rfl,?_⟩
   refine aT (xX h (by omega) hp l1 (by omega) ec) ?_
   rintro fl M4 ⟨m,r,z5,rfl,hm,hr,p4,e4⟩
   refine ⟨_,rfl,cs++[(m,r)],_,_,rfl,by simp;omega,fun c hc=>?_,p4.mono (by omega),e4⟩
   rcases MQ.mp hc with z|z
   ·exact ho c z
   ·cases NF.mp z;exact ⟨hm,hr⟩
  rintro Z M4 ⟨cs,y4,y5,rfl,hl,ho,p4,e4⟩
  rw [Md,Nv] at hl p4
  rw [dQ]
  match cs,hl,ho,e4 with
  | [a, b], _, ho, e4 =>
    have oa:=ho a (by simp)
    have ob:=ho b (by simp)
    suffices go:∀(C:Nat->aR×List Nat) (M5:Mem),aL M5 1 1000->(∀i,i<2->a8 (C i).1/\bj (C i).1 (C i).2)->M5[cc]?=some (two fun i=>dZ (C i))->ag (uQ (ak P 39) [some (.frz (ns.map D.int)),some (.cell 1),some (.cell cc),some (nD w),y4,y5,none,none,none,none,none,none,none,none,none] M5) (lg fun d _=>d=.bl true) by
     refine bS (gq (c:=0) rfl) (fun _=>?_) fun _=>?_
     ·refine h9 (i:=1) (n:=1) (z:=dZ a) (p:=cc) (ds:=[dZ a,dZ b]) (bf (d:=dZ a) (ai rfl) (y:=nD 0) rfl (fM (g:=fun i=>if i=0 then dZ a else dZ b) e4 (by decide))) (ai rfl) rfl e4 rfl ?_
      refine go (fun _=>a) _ ((p4.setq l1).mono (by omega)) (fun _ _=>oa) ?_
      rw [Mn (cz e4)];rfl
     ·refine go (fun i=>if i=0 then a else b) _ (p4.mono (by omega)) (fun i hi=>?_) e4
      match i,hi with
      |0,_=>exact oa
      |1,_=>exact ob
    clear ho oa ob e4 p4
    intro C M5 p5 hC e5
    have lc5:=cz e5
    unfold uQ
    rw [aX,hZ,eL,nA,bT]
    refine ⟨_,rfl,rfl,?_⟩
    refine comp_map (ds:=two fun i=>dZ (C i)) (fun i acc M'=>M'=M5++(objs M5.length C).take (2*i)/\acc=(two fun i=>.fn (aQ (M5.length+2*i))).take i) (aG (by simp [two])) (fun i acc M' z=>by rw [z.1];exact Sub.app.get e5) ⟨by simp,rfl⟩ ?_ ?_
    ·rintro i d acc M' hd la ⟨rfl,rfl⟩
     have hi:i<2:=(LZ.mp hd).1
     rw [nE hi] at hd
     cases hd
     obtain ⟨hm,hr⟩:=hC i hi
     have l40:=hr.1
     refine ⟨_,rfl,?_⟩
     refine ux (ds:=[(C i).1.d,az (C i).2]) (aq (bf (d:=(C i).1.d) (ai rfl) rfl rfl) (aq ?_ bu)) ?_
     ·rw [jU (aq (bf (d:=az (C i).2) (ai rfl) rfl rfl) bu)]
      exact av ((bx.l (r:=(C i).2)).list.mpr (bQ.mpr ⟨aG (by simp;omega),rfl,rfl⟩))
     ·rw [tY h.m h.o 29 (x:=az (C i).2) .l hm hr]
      refine ⟨rfl,?_,?_⟩
      ·match i,hi with
       |0,_=>simp [objs]
       |1,_=>simp [objs]
      ·match i,hi with
       |0,_=>simp [objs,two]
       |1,_=>simp [objs,two]
    rintro acc M6 _ ⟨rfl,rfl⟩
    refine bQ.mpr ⟨aG (by simp [two]),?_⟩
    show ag (af _ _ [some (.frz (ns.map D.int)),some (.cell 1),some (.cell cc),some (nD w),y4,y5,some (.lst (two fun i=>.fn (aQ (M5.length+2*i)))),none,none,none,none,none,none,none,none] (M5++objs M5.length C)) _
    have S6:Sub M5 (M5++objs M5.length C):=.app
    have n6:(M5++objs M5.length C).length=M5.length+4:=by simp [objs]
    have o6:∀i,i<2->bt (M5++objs M5.length C) (M5.length+2*i) (M5.length+2*i+1) (C i).1 (C i).2 []:=fun i hi=>by
     match i,hi with
     |0,_=>exact ⟨by simp [objs],by simp [objs]⟩
     |1,_=>exact ⟨by simp [objs],by rw [ME (by omega),show M5.length+2*1+1-M5.length=3 by omega];rfl⟩
    generalize M5++objs M5.length C=M6 at S6 n6 o6 ⊢
    generalize M5.length=L at n6 o6 lc5 ⊢
    rw [aX,hZ,eL,nA,bT]
    refine ⟨_,rfl,rfl,?_⟩
    refine fO (ds:=two fun i=>dZ (C i)) (fun d=>match d with|.tup [_,r]=>.lst [r]|d=>d) (aG (by simp [two])) (S6.get e5) (fun d hd=>?_) ?_
    ·simp only [two,MJ,Ny,or_false] at hd
     rcases hd with rfl|rfl
     ·exact ⟨_,rfl,gj (aq (bf (d:=az (C 0).2) (ai rfl) rfl rfl) bu) (by simp)⟩
     ·exact ⟨_,rfl,gj (aq (bf (d:=az (C 1).2) (ai rfl) rfl rfl) bu) (by simp)⟩
    refine eC.mpr ⟨aG (by simp [two]),?_⟩
    show ag (af _ _ [some (.frz (ns.map D.int)),some (.cell 1),some (.cell cc),some (nD w),y4,y5,some (.lst (two fun i=>.fn (aQ (L+2*i)))),some (.cell M6.length),none,none,none,none,none,none,none] (M6++[two fun i=>.lst (([]++[(C i).2]).map az)])) _
    refine cb (k:=fun d M'=>d=.cell (L+7)/\M'=M6++[two fun i=>.lst (([]++[(C i).2]).map az)]++[[],[],two fun i=>.cell (L+5+i)]) ?_ ?_
    ·rw [kr,bp,kr,bO,eC]
     refine ⟨NJ _,?_⟩
     rw [bp,kr,bO,eC]
     refine ⟨NJ _,?_⟩
     rw [bO,eC]
     refine ⟨aG (by simp),?_,?_⟩
     ·simp [n6]
     ·simp [n6,two]
    rintro _ _ ⟨rfl,rfl⟩
    have S8:Sub M6 (M6++[two fun i=>.lst (([]++[(C i).2]).map az)]++[[],[],two fun i=>.cell (L+5+i)]):=by rw [List.append_assoc];exact .app
    have n8:(M6++[two fun i=>.lst (([]++[(C i).2]).map az)]++[[],[],two fun i=>.cell (L+5+i)]).length=L+8:=by simp [n6]
    have r8:(M6++[two fun i=>.lst (([]++[(C i).2]).map az)]++[[],[],two fun i=>.cell (L+5+i)])[L+4]?=some (two fun i=>.lst (([]++[(C i).2]).map az)):=by rw [<- n6];simp
    have s8:(M6++[two fun i=>.lst (([]++[(C i).2]).map az)]++[[],[],two fun i=>.cell (L+5+i)])[L+7]?=some (two fun i=>.cell (L+5+i)):=by rw [ME (by simp [n6])];simp [n6]
    have t8:∀i,i<2->(M6++[two fun i=>.lst (([]++[(C i).2]).map az)]++[[],[],two fun i=>.cell (L+5+i)])[L+5+i]?=some []:=fun i hi=>by
     rw [ME (by simp [n6])]
     match i,hi with
     |0,_=>simp [n6]
     |1,_=>simp [n6]
    rw [n6]
    generalize M6++[two fun i=>.lst (([]++[(C i).2]).map az)]++[[],[],two fun i=>.cell (L+5+i)]=M8 at S8 n8 r8 s8 t8 ⊢
    rw [aX,hZ,eL,nA,bT]
    refine ⟨_,rfl,rfl,?_⟩
    refine comp_map (ds:=two fun i=>.fn (aQ (L+2*i))) (fun i acc M'=>Sub M8 M'/\∃F Q:Nat->Nat,acc=(two fun j=>.cell (F j)).take i/\∀j,j<i->L+8<=F j/\F j<Q j/\M'[F j]?=some [.cell (Q j),nD (gY (C j).1 (C j).2),dC (C j).1 (C j).2]/\M'[Q j]?=some ((C j).2.map nD)) (aG (by simp [two])) (fun _ _ _ _=>rfl) ⟨.refl,id,id,rfl,fun j hj=>by omega⟩ ?_ ?_
    ·rintro i d acc M' hd la ⟨S,F,Q,rfl,fq⟩
     have hi:i<2:=(LZ.mp hd).1
     rw [nE hi] at hd
     cases hd
     obtain ⟨hm,hr⟩:=hC i hi
     refine ⟨_,rfl,?_⟩
     rw [bB (aq (ai (x:=.fn (aQ (L+2*i))) rfl) (aq (x:=nD 0) rfl bu))]
     refine aT (lK h.m h.o h.a h.e h.k 26 hm hr (((o6 i hi).sub S8).sub S)) ?_
     rintro _ M2 ⟨rfl,f1,S2⟩
     obtain ⟨x0,x1,x2,ef,a0,a1,a2⟩:=f1.ex
     obtain ⟨q,rfl,lt,eq⟩:=a0 trivial
     obtain rfl:=a1 trivial
     obtain rfl:=a2 trivial
     refine ⟨S.trans S2,put2 F i M'.length,put2 Q i q,?_,fun j hj=>?_⟩
     ·match i,hi with
      |0,_=>rfl
      |1,_=>rfl
     ·by_cases z:j=i
      ·subst z
       rw [show put2 F j M'.length j=M'.length from if_pos rfl,show put2 Q j q j=q from if_pos rfl]
       exact ⟨by rw [<- n8];exact S.len,lt,ef,eq⟩
      ·rw [show put2 F i M'.length j=F j from if_neg z,show put2 Q i q j=Q j from if_neg z]
       obtain ⟨b1,b2,b3,b4⟩:=fq j (by omega)
       exact ⟨b1,b2,S2.get b3,S2.get b4⟩
    rintro acc M9 _ ⟨S9,F,Q,rfl,fq⟩
    refine eC.mpr ⟨aG (by simp [two]),?_⟩
    show ag (af _ _ [some (.frz (ns.map D.int)),some (.cell 1),some (.cell cc),some (nD w),y4,y5,some (.lst (two fun i=>.fn (aQ (L+2*i)))),some (.cell (L+4)),some (.cell (L+7)),some (.cell M9.length),none,none,none,none,none] (M9++[two fun j=>.cell (F j)])) _
    have l9:=S9.len
    have SA:Sub M8 (M9++[two fun j=>.cell (F j)]):=S9.trans .app
    have st:gB (M9++[two fun j=>.cell (F j)]) 1 1000 cc (L+4) (L+7) M9.length 0 (fun i=>L+2*i) (fun i=>⟨L+2*i,L+2*i+1,L+5+i,F i,Q i,(C i).1,(C i).2,(C i).2,[],[]⟩):=by
     refine ⟨((S6.trans S8).trans SA).pen p5,l1,by omega,by omega,by omega,fun _ _=>rfl,fun i hi=>?_,fun i j hi hj ne=>?_,fun i hi=>?_,SA.get (S8.get (S6.get e5)),SA.get r8,SA.get s8,by simp⟩
     ·obtain ⟨b1,b2,b3,b4⟩:=fq i hi
      have:=cz b3
      have:=cz b4
      exact ⟨by show cc<L+2*i;omega,by show cc<L+2*i+1;omega,by show L+2*i<L+4;omega,by show L+2*i+1<L+4;omega,by show L+4<L+5+i;omega,by show L+5+i<L+7;omega,by show L+7<F i;omega,b2,by show F i≠M9.length;omega,by show Q i≠M9.length;omega⟩
     ·dsimp only;omega
     ·obtain ⟨b1,b2,b3,b4⟩:=fq i hi
      obtain ⟨hm,hr⟩:=hC i hi
      exact ⟨hm,hr,hr,(fun _ z=>nomatch z),L7 _,L7 _,⟨fun _=>([],(C i).2),rfl,rfl,fun _ _ z=>by simp at z⟩,((o6 i hi).sub S8).sub SA,SA.get (t8 i hi),Sub.app.get b3,Sub.app.get b4⟩
    generalize (fun i=>(⟨L+2*i,L+2*i+1,L+5+i,F i,Q i,(C i).1,(C i).2,(C i).2,[],[]⟩:Sd))=A at st
    generalize M9++[two fun j=>.cell (F j)]=M10 at st ⊢
    generalize M9.length=lc at st ⊢
    generalize L+7=sc at st ⊢
    generalize L+4=rc at st ⊢
    rw [aX,nN,hU,jt,fo]
    refine aT (gr h.p.toHasP0 37 (many:=8) (p:=1) rfl rfl st.pen (by omega) (by decide) (by decide)) ?_
    rintro _ M11 ⟨v,rfl,hv,p11,k11⟩
    have st1:=st.keep k11 p11
    refine ⟨8+(v:Int),rfl,⟨by omega,by omega⟩,?_⟩
    refine fN (ds:=(List.range (8+(v:Int)).toNat).map fun (k:Nat)=>D.int (k:Int)) (fun i Z M'=>∃A y10 y11 y12 y13 y14,Z=[some (.frz (ns.map D.int)),some (.cell 1),some (.cell cc),some (nD w),y4,y5,some (.lst (two fun i=>.fn (aQ (L+2*i)))),some (.cell rc),some (.cell sc),some (.cell lc),y10,y11,y12,y13,y14]/\gB M' 1 (1001+5*i) cc rc sc lc i (fun i=>L+2*i) A) (fun _ _ _ _=>rfl) ⟨A,_,_,_,_,_,rfl,st1⟩ ?_ ?_
    ·rintro i d Z M' hd ⟨A,y10,y11,y12,y13,y14,rfl,st⟩
     have hi:i<16:=by
      have:=(LZ.mp hd).1
      rw [Md,Nv] at this
      omega
     refine ⟨_,rfl,?_⟩
     refine aT (Fg h (by omega) (by omega) st) ?_
     rintro fl M2 ⟨A2,z11,z12,z13,z14,rfl,st2⟩
     exact ⟨_,rfl,A2,_,_,_,_,_,rfl,st2⟩
    ·rintro Z M' ⟨A,y10,y11,y12,y13,y14,rfl,st⟩
     rw [dQ]
     exact c8 rfl rfl
 obtain ⟨d,M,e,rfl⟩:=f9.mp goal
 exact ⟨M,e⟩
end
end LD
set_option maxHeartbeats 0
namespace K52
open PySem PySem.Spec PyProof.Rows L2 LD
noncomputable def top (i:Nat):Stmt:=PySem.Challenge.pw_leastdeeds_k52_two_shops_by_turns.main.body.getD i (.Pass ⟨0,0,0,0⟩)
noncomputable def q0:Str×Tok:=("leastdeeds.wholes",319)
noncomputable def q1:Str×Tok:=("leastdeeds.machines",330)
noncomputable def q2:Str×Tok:=("leastdeeds.runs",507)
noncomputable def q3:Str×Tok:=("leastdeeds.alike",602)
noncomputable def q4:Str×Tok:=("leastdeeds.shop",618)
noncomputable def q5:Str×Tok:=("law_leastdeeds_k52_two_shops_by_turns",721)
noncomputable def tb:List Ent:=[⟨0,"is_between",top 10,3,["thing","low","high"],120,q0,eP,false,none⟩,
 ⟨1,"is_word",top 18,2,["words","thing"],127,q1,jv,false,none⟩,
 ⟨2,"is_place",top 19,2,["places","thing"],134,q1,iM,false,none⟩,
 ⟨3,"is_cost",top 20,1,["thing"],141,q1,jw,false,none⟩,
 ⟨4,"is_tuple_of",top 21,2,["long","thing"],148,q1,fy,false,none⟩,
 ⟨5,"is_table",top 22,2,["words","thing"],153,q1,iL,false,none⟩,
 ⟨6,"is_double_table",top 23,2,["words","thing"],158,q1,dH,false,none⟩,
 ⟨7,"is_turn",top 24,3,["words","places","parts","at","table","price"],165,q1,fP,false,none⟩,
 ⟨8,"is_join",top 25,3,["words","places","parts","at","other","table","price"],172,q1,fR,false,none⟩,
 ⟨9,"is_move",top 26,3,["words","places","parts","at","other","price"],179,q1,fQ,false,none⟩,
 ⟨10,"is_put",top 27,3,["words","places","parts","at","word","price"],186,q1,gP,false,none⟩,
 ⟨11,"is_deed",top 29,3,["words","places","thing","sort","is_sort"],194,q1,fS,false,none⟩,
 ⟨12,"is_machine",top 30,1,["thing","words","places","deeds"],199,q1,eO,false,none⟩,
 ⟨13,"need_machine",top 31,1,["thing"],206,q1,gO,true,none⟩,
 ⟨15,"beginnings",top 32,1,["machine","words","places","deeds","starts","place"],211,q1,dm,true,none⟩,
 ⟨16,"is_deed_number",top 33,2,["machine","thing"],218,q1,fF,false,none⟩,
 ⟨17,"need_numbers",top 34,2,["machine","row","place","thing"],225,q1,gM,true,none⟩,
 ⟨18,"need_row",top 35,2,["machine","row"],232,q1,kz,true,none⟩,
 ⟨47,"summed_cost",top 36,2,["machine","row"],237,q1,fx,false,none⟩,
 ⟨20,"turned",top 38,2,["deed","standing","sort","at","table","price"],244,q2,m8,false,none⟩,
 ⟨21,"joined",top 39,2,["deed","standing","sort","at","other","table","price"],251,q2,nh,false,none⟩,
 ⟨22,"moved",top 40,2,["deed","standing","sort","at","other","price"],258,q2,pq,false,none⟩,
 ⟨23,"put_in",top 41,2,["deed","standing","sort","at","word","price"],265,q2,m9,false,none⟩,
 ⟨24,"done",top 43,2,["deed","standing","new_word","at"],273,q2,sZ,false,none⟩,
 ⟨25,"all_standing",top 44,3,["machine","row","beginning","standings","number"],280,q2,gQ,false,none⟩,
 ⟨46,"ends_of",top 45,2,["machine","row"],285,q2,fT,false,none⟩,
 ⟨27,"behaviour",top 46,2,["machine","row"],292,q2,g7,true,none⟩,
 ⟨48,"parted",top 48,3,["machine","one","other","one_ends","other_ends","start","one_end","other_end"],299,q3,ng,true,none⟩,
 ⟨129,"__init__",inClass (top 50) 0,3,["self","machine","row"],313,q4,eF,true,some "Shop.__init__"⟩,
 ⟨130,"row",inClass (top 50) 1,1,["self"],320,q4,iO,false,some "Shop.row"⟩,
 ⟨131,"cost",inClass (top 50) 2,1,["self"],327,q4,hG,false,some "Shop.cost"⟩,
 ⟨132,"behaviour",inClass (top 50) 3,1,["self"],334,q4,d4,false,some "Shop.behaviour"⟩,
 ⟨133,"put",inClass (top 50) 5,3,["self","place","number"],348,q4,iP,true,some "Shop.put"⟩,
 ⟨134,"out",inClass (top 50) 6,2,["self","place"],355,q4,iQ,true,some "Shop.out"⟩,
 ⟨135,"back",inClass (top 50) 7,1,["self"],362,q4,hJ,true,some "Shop.back"⟩,
 ⟨136,"change",inClass (top 50) 8,2,["self","row"],369,q4,fB,false,some "Shop.change"⟩,
 ⟨137,"give",inClass (top 50) 9,2,["self","row","start"],376,q4,g9,true,some "Shop.give"⟩,
 ⟨28,"_law_spread",top 52,2,["cell","at","primes","one","two","three"],390,q5,fz,false,none⟩,
 ⟨29,"_law_open",top 53,1,["script","cells","k","cell"],397,q5,jE,false,none⟩,
 ⟨30,"_law_anew",top 54,1,["pen"],404,q5,jF,false,none⟩,
 ⟨31,"_law_take",top 55,2,["pen","many","at","cell","found"],411,q5,mD,false,none⟩,
 ⟨40,"_law_same",top 56,2,["found","due"],416,q5,bM,false,none⟩,
 ⟨32,"_law_tab",top 57,2,["pen","words","kind","word","other","found"],421,q5,iN,false,none⟩,
 ⟨33,"_law_deed",top 58,3,["pen","words","places","kind","price","at","other"],426,q5,g8,false,none⟩,
 ⟨34,"_law_machine",top 59,4,["pen","words","places","most","deeds","k","again","deed"],433,q5,fc,false,none⟩,
 ⟨35,"_law_row",top 60,3,["pen","machine","most","kind","many","found"],438,q5,gz,false,none⟩,
 ⟨138,"_law_change",top 61,3,["pen","machine","rows","way","row","at","number"],445,q5,fA,false,none⟩,
 ⟨139,"_law_do",top 62,2,["shop","told"],452,q5,dR,false,none⟩,
 ⟨141,"_law_orders",top 63,0,[],459,q5,iq,false,none⟩,
 ⟨144,"_law_look_by",top 64,2,["shop","turn","found","at"],466,q5,ff,false,none⟩,
 ⟨149,"_law_alone",top 65,3,["case","changes","turn","shop","found"],471,q5,gA,false,none⟩,
 ⟨150,"law",top 66,1,["script","pen","cases","same","k","machine","shops","rows","said","looks","step","at","told","found","turn"],476,q5,mn,false,none⟩]
noncomputable def rs:Rs:=⟨[Bq,wC,Fb,E5,E3,E7,E6,Fc,E2,wy,wA,Bt,Bu,Bw,Bv,JL,E8,Br,Bs,E4,wF],[vT],[Bj],[Bm,Bn,Bl,Bk,EY],[Bh,EO,Bi,ES,ET,ER,EN,wg]⟩
theorem Iu:Bc rs:=⟨⟨zd,wB,CZ,CU,CS,CW,CV,C0,CQ,wx,wz,zg,zh,zk,zj,E9,CY,ze,zf,CT,wD,trivial⟩,⟨Ie,trivial⟩,⟨yV,trivial⟩,⟨y8,y9,y7,y6,CK,trivial⟩,⟨yT,CF,yU,CH,CI,CG,CD,we,trivial⟩⟩
noncomputable def te0:List (Str×En):=List.map (fun x=>(x,En.bl)) ["all","bool","enumerate","int","isinstance","len","list","range","str","sum","tuple","zip"]
noncomputable def te1:List (Str×En):=[("LEAST_WORDS",.int 2),("LONGEST_ROW",.int 40),("MOST_COST",.int 3),("MOST_DEEDS",.int 6),("MOST_PLACES",.int 2),("MOST_WORDS",.int 4),("NEW_WORDS",.dct cj),("SORTS",.dct cf),("NoRow",.xi 0),("NoMachine",.xc 3),("TooLong",.xc 4),("NoPlace",.xc 9)]
noncomputable def te2:List (Str×En):=[("NoDeed",.xc 10),("Nothing",.xc 11),("DeedError",.de),("Shop",.cls 40 129)]
noncomputable def te:List (Str×En):=te0++te1++te2
noncomputable def tbl:kD:=⟨(tb.filter (·.q.isNone)).map (fun e=>(e.x,En.fn e.i e.r))++te,[],[],[("NEW_WORDS",cj),("SORTS",cf)],[("NoRow",0)],[(130,16,27),(154,23,25),(157,15,34),(206,12,29),(209,11,24),(252,12,30),(271,12,14),(304,12,30),(319,12,14),(327,11,40),(328,11,19),(328,12,14),(328,16,18),(329,12,53)],[],[("back",40,135),("behaviour",40,132),("change",40,136),("cost",40,131),("give",40,137),("out",40,134),("put",40,133),("row",40,130)],rs,tb⟩
noncomputable def Pg:Nat->Option Df:=tbl.Pg
theorem Iv:∀c,tb.map (tbl.rd c)=tb.map fun e=>some (e.b c):=fun c=>by kernel_rfl
theorem tab:wa tbl:=⟨Iu,Iv,by kernel_rfl,by kernel_rfl,fun _ _ _ _ _ _=>by kernel_rfl,fun _ _ _ _ _ _ _=>by kernel_rfl,fun _ _ _ _ _ _ _ _=>by kernel_rfl,fun _ _ _ _ _ _ _ _ _=>by kernel_rfl,fun _ _ _ _ _ _ _ _ _ _=>by kernel_rfl,fun _ _ _ _ _ _ _ _ _ _ _ _=>by kernel_rfl⟩
noncomputable def fa:Fa:=LD.uF (tb.map (fun e=>(e.i,e.f))++[(940,379)]) [(0,51),(3,63),(4,75),(9,87),(10,99),(11,111)] 31
end K52
namespace K52
open PySem PySem.Spec PyProof.Rows L2 LD
theorem Ax:∀ns:List Int,ns.length<=63->∃M,ak Pg 40 150 [.frz (ns.map D.int)] []=.ok (.bl true) M:=IV (by repeat' (first|rfl|constructor))
end K52
open PySem PySem.W PyProof.Rows K52
set_option maxRecDepth 100000 in
set_option maxHeartbeats 0 in
theorem PySem.Challenge.cw_leastdeeds_k52_two_shops_by_turns_holds : PySem.Challenge.rw_leastdeeds_k52_two_shops_by_turns.Holds := by
 w_on;o_law
 refine PySem.W.holds_open (r:=K52.vF) (q:=K52.kq) (loose:=K52.n5) (Xt:=fun s=>PySem.W.xlAt K52.kq [] s&&PySem.W.recOk (PySem.W.RowW.records K52.vF.toRowW) s) (XP:=PySem.W.XL K52.kq []) (Yf:=K52.kH.obs) (Ya:=K52.kH.val) (YP:=K52.kH.says) (N:=7346) K52.IW K52.kH.of K52.kH.keeps (fun s e=>PySem.W.xl_of s (NZ.mp e).1) PySem.W.XL.keeps (by rfl) (by rfl) (by rfl) (fun s e=>PySem.W.recFacts_of (NZ.mp e).2) (by rfl) (by first|assumption|decide +kernel) (by decide +kernel) ⟨rfl,rfl,rfl,rfl,rfl,by decide +kernel⟩ ?hw ?hc
 case hw=>w_witness2
 refine L2.CJ (l:=PySem.Challenge.rw_leastdeeds_k52_two_shops_by_turns) (n:=63) (k:=84) (x:="script") (CX:=fun w=>LD.fu PySem.Challenge.rw_leastdeeds_k52_two_shops_by_turns.prog w) (K:=K52.kh) (sp:=fun w=>LD.BA (K52.kh w.params)) rfl (by decide) rfl ⟨rfl,by decide,by decide,rfl⟩ (fun w h Y=>PySem.W.kIn_of Y) ?F (fun w H a ns hl hO hS=>⟨a,ns,rfl,hS,hO,hl,fun _=>rfl⟩) (fun _ _ _ _ _ z=>let ⟨_,_,_,_,_,_,_,_,_,_,q⟩:=z;q)
 case F=>
  intro w mg fa h KX G hmg
  have tk:LD.Co (K52.kh w.params) K52.tb:=⟨by kernel_rfl,by kernel_rfl,by kernel_rfl⟩
  obtain ⟨m,fd,F⟩:=LD.C5 tk KX G (e:=K52.tb[51]) (NO _) rfl
  have d_NEW_WORDS:=LD.uv (x:="NEW_WORDS") (P:=w.params) (fa:=K52.fa) (fs:=LD.cj) (ad:=266) (es:=#[{hash:=PySem.PyData.keyHash w.params (PySem.Str.ofString "turn"),key:=PySem.Value.str (PySem.Str.ofString "turn") 558,val:=PySem.Value.ref 244},{hash:=PySem.PyData.keyHash w.params (PySem.Str.ofString "join"),key:=PySem.Value.str (PySem.Str.ofString "join") 559,val:=PySem.Value.ref 251},{hash:=PySem.PyData.keyHash w.params (PySem.Str.ofString "move"),key:=PySem.Value.str (PySem.Str.ofString "move") 560,val:=PySem.Value.ref 258},{hash:=PySem.PyData.keyHash w.params (PySem.Str.ofString "put"),key:=PySem.Value.str (PySem.Str.ofString "put") 561,val:=PySem.Value.ref 265}]) (n:=4) KX G (by kernel_rfl) (by kernel_rfl) (by exact LD.fL (LD.fL (LD.fL (LD.fL (LD.yh))))) (by decide +kernel) (by decide) (by exact .cons ⟨rfl,rfl⟩ (.cons ⟨rfl,rfl⟩ (.cons ⟨rfl,rfl⟩ (.cons ⟨rfl,rfl⟩ (.nil)))))
  have d_SORTS:=LD.uv (x:="SORTS") (P:=w.params) (fa:=K52.fa) (fs:=LD.cf) (ad:=187) (es:=#[{hash:=PySem.PyData.keyHash w.params (PySem.Str.ofString "turn"),key:=PySem.Value.str (PySem.Str.ofString "turn") 436,val:=PySem.Value.ref 165},{hash:=PySem.PyData.keyHash w.params (PySem.Str.ofString "join"),key:=PySem.Value.str (PySem.Str.ofString "join") 437,val:=PySem.Value.ref 172},{hash:=PySem.PyData.keyHash w.params (PySem.Str.ofString "move"),key:=PySem.Value.str (PySem.Str.ofString "move") 438,val:=PySem.Value.ref 179},{hash:=PySem.PyData.keyHash w.params (PySem.Str.ofString "put"),key:=PySem.Value.str (PySem.Str.ofString "put") 439,val:=PySem.Value.ref 186}]) (n:=4) KX G (by kernel_rfl) (by kernel_rfl) (by exact LD.fL (LD.fL (LD.fL (LD.fL (LD.yh))))) (by decide +kernel) (by decide) (by exact .cons ⟨rfl,rfl⟩ (.cons ⟨rfl,rfl⟩ (.cons ⟨rfl,rfl⟩ (.cons ⟨rfl,rfl⟩ (.nil)))))
  have i_NoRow:=fun base=>LD.AI (fa:=K52.fa) (w:=w) (c:=0) (x:="NoRow") (qual:="NoRow.__init__") (y:="place") (z:="no deed's number at place ") (pm:="leastdeeds.errors") (t:=194) (st:=LD.inC (K52.top 3)) (C:=51) (D:=31) (fI:=48) (cd:=47) KX G (by kernel_rfl) (by kernel_rfl) rfl (by kernel_rfl) (by kernel_rfl) (by kernel_rfl) (by kernel_rfl) ⟨rfl,rfl,rfl,by decide +kernel,rfl,by decide +kernel,by decide +kernel⟩ rfl (fun _ _=>⟨_,rfl⟩) (by decide +kernel) rfl rfl rfl rfl (fun _ _=>rfl) (fun _ _ _ _ _ _ _ _=>rfl) PySem.Challenge.rw_leastdeeds_k52_two_shops_by_turns.prog base
  have TO:=fun base=>LD.C4 (base:=base) (P:=PySem.Challenge.rw_leastdeeds_k52_two_shops_by_turns.prog) (w:=w) (t:=K52.tbl) (fa:=K52.fa) KX G (by kernel_rfl) (LD.EV (by kernel_rfl)) (LD.Gq (by kernel_rfl)) (LD.AO (by kernel_rfl)) ⟨d_NEW_WORDS,d_SORTS,trivial⟩ ⟨i_NoRow base,trivial⟩
  have tw:LD.AllP (fun q=>LD.Cp K52.fa (K52.kh w.params) mg q.1 q.2.1 q.2.2.1 q.2.2.2) K52.tbl.tw:=trivial
  have xf:LD.AllP (fun f=>LD.Cn K52.fa (K52.kh w.params) f) K52.tbl.xf:=trivial
  have ms:∀q∈K52.tbl.ms,LD.oC K52.fa (K52.kh w.params) q.1 q.2.1 q.2.2:=LD.GK (by kernel_rfl)
  have e:=hmg.symm.trans m
  cases e
  exact ⟨fd,fun s v=>by
   obtain ⟨oc,od,kV,doc,pm,an,cdv,ct,osl,rfl,lk,hcd⟩:=F.ex
   exact .of_eq rfl,fun base _ _=>LD.GQ (n:=39) (f:=150) (LD.zt K52.tab tk KX G (TO base) tw.mem xf.mem ms (by kernel_rfl)) K52.Ax rfl F (LD.om (e:=K52.tb[51]) (Mp.mp K52.tab.sc K52.tb[51] (NO _))).1 rfl fun c n a b d s H E C hr=>LD.q9 (e:=K52.tb[51]) K52.tab (TO base) tw.mem xf.mem ms (NO _) c n a b d s H E C hr⟩
