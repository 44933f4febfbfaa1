import PyProof.Rows.All
import Wide.All
import OpenK.AllK
import Wide.FinOn
import Lean
import PyProof.EqAt
import PyProof.EqKinds
import PyProof.TupleCall
import PyProof.StrOps
import PyProof.MeetsStr
import PyProof.StrLawsJoin
import PySem.Challenge.RW_leastdeeds_k50_what_a_shop_tells
set_option Elab.async false
set_option linter.all false
set_option maxRecDepth 100000
set_option autoImplicit true
set_option relaxedAutoImplicit true
set_option maxHeartbeats 0
set_option bootstrap.genMatcherCode false
set_option genSizeOf false
noncomputable section
abbrev tqa:=@PySem.wpAny_bind
abbrev tqb:=@PySem.wpAny_pure
abbrev tqf:=@PySem.wpAny_field
abbrev tqo:=@PySem.wpAny_holding
abbrev tqp:=@PySem.wpAny_truthy_bool
abbrev LH:=@PySem.W.Frag
abbrev LI:=@PySem.Value
abbrev LJ:=@List.getElem?_eq_some_iff
abbrev LK:=@PySem.Heap.get?_push_of_some
abbrev LM:=@PySem.Shared
abbrev LN:=@Bool.and_eq_true
abbrev LO:=@Option.some.inj
abbrev LP:=@Nat.le_refl
abbrev LQ:=@List.size_toArray
abbrev LR:=@Nat.le_trans
abbrev LS:=@List.getElem?_set_ne
abbrev LX:=@List.length_map
abbrev LY:=@List.mem_cons_of_mem
abbrev L4:=@PySem.Heap.lt_size
abbrev L5:=@Nat.lt_of_lt_of_le
abbrev L6:=@PySem.Heap.get?_push_size
abbrev L9:=@List.all_eq_true
abbrev Ma:=@List.getElem?_append_left
abbrev Mb:=@List.getElem?_eq_getElem
abbrev Mc:=@PySem.Program
abbrev Md:=@List.getElem?_set_self
abbrev Me:=@PySem.World
abbrev Mf:=@Bool.false_ne_true
abbrev Ml:=@List.mem_cons_self
abbrev Mm:=@List.lookup_cons
abbrev Mq:=@Option.map_eq_some_iff
abbrev Mr:=@List.getElem?_map
abbrev Ms:=@List.mem_append
abbrev Mv:=@PyProof.Rows.slot_tuple_getitem
abbrev Mw:=@PySem.Env
abbrev Mx:=@beq_eq_false_iff_ne
abbrev My:=@List.mem_cons
abbrev Mz:=@List.mem_map
abbrev MA:=@Nat.ne_of_lt
abbrev MB:=@List.all_cons
abbrev MC:=@List.length_cons
abbrev MD:=@PySem.OsState
abbrev ME:=@List.length_append
abbrev MF:=@List.getElem?_append_right
abbrev MG:=@List.mem_append_right
abbrev MH:=@PySem.W.kia_one
abbrev MI:=@PySem.W.SharedT
abbrev MJ:=@List.mem_of_getElem?
abbrev MK:=@PySem.Around
abbrev MM:=@PySem.Heap.get?_update_other
abbrev MN:=@Array.getElem?_eq_some_iff
abbrev MO:=@List.map_cons
abbrev MP:=@List.mem_of_mem_take
abbrev MQ:=@PyProof.Rows.callWith_type1
abbrev MR:=@Ne.symm
abbrev MS:=@Iff.rfl
abbrev MT:=@List.getD_eq_getElem?_getD
abbrev MU:=@Nat.ne_of_gt
abbrev MV:=@List.take_of_length_le
abbrev MW:=@List.length_range
abbrev MX:=@Nat.lt_irrefl
abbrev MY:=@List.take_succ
abbrev MZ:=@List.map_append
abbrev M9:=@Int.emod_lt_of_pos
abbrev Na:=@Option.bind_eq_some_iff
abbrev Nb:=@PySem.Params
abbrev Nc:=@PySem.Obj.data_mapFields
abbrev Nd:=@PySem.W.mg_of
abbrev Nf:=@List.exists_of_findSome?_eq_some
abbrev Ng:=@Function.comp_def
abbrev Nh:=@Int.emod_nonneg
abbrev Ni:=@List.length_take
abbrev Nj:=@PySem.Heap.get?_update_self
abbrev Nk:=@Int.toNat_natCast
abbrev Nl:=@PySem.Comprehension
abbrev Nm:=@List.replicate_succ
abbrev Nn:=@List.mem_singleton
abbrev Np:=@Nat.le_of_ble_eq_true
abbrev Nq:=@List.getElem?_eq_none
abbrev Nr:=@Array.length_toList
abbrev Nt:=@Nat.le_add_right
abbrev Nu:=@Nat.add_sub_cancel_left
abbrev Nv:=@List.getElem_mem
abbrev Nw:=@List.getElem?_replicate
abbrev Nx:=@List.getElem?_cons_zero
abbrev Ny:=@List.getElem?_cons_succ
abbrev Nz:=@PySem.W.callWith_K
abbrev NA:=@Nat.lt_of_le_of_lt
abbrev NB:=@List.nil_append
abbrev NC:=@Bool.eq_iff_iff
abbrev ND:=@List.map_take
abbrev NF:=@List.reverse_cons
abbrev NG:=@List.flatten_cons
abbrev NH:=@Bool.not_eq_true'
abbrev NI:=@Nat.le_succ
abbrev NJ:=@List.mem_of_mem_drop
abbrev NK:=@List.mem_append_left
abbrev NL:=@Bool.and_eq_true_iff
abbrev NM:=@PySem.DictEntry
abbrev NN:=@PySem.Obj.isFreed_of_fields
abbrev NO:=@Option.getD_some
abbrev NP:=@List.not_mem_nil
abbrev NQ:=@Option.isNone_iff_eq_none
abbrev NR:=@PySem.mem_of_lookup
abbrev NS:=@List.filterMap_cons
abbrev NT:=@PySem.Paired
abbrev NU:=@PySem.Heap.size_push
abbrev NV:=@PySem.FuncData
abbrev NW:=@List.append_nil
abbrev NX:=@Bool.or_eq_true
abbrev NY:=@Nat.zero_le
abbrev NZ:=@List.length_eq_zero_iff
abbrev N0:=@List.findIdx?_eq_some_iff_getElem
namespace HD
open PySem PySem.W
noncomputable def gO (tb:String->Option Builtin)(p:Mc)(w:Me)(n0:Nat)(ann:Option LI):Nat->MI->Thread->Option MI
 |0,_,_=>none
 | n + 1, s, t => match through t with
   |true=>some s
   | false => match stepOk n0 ann t with
     |false=>none
     | true => match stepT (denote tb) p w s t with
       |some (s',t')=>gO tb p w n0 ann n s' t'
       |none=>none
theorem pP {tb:String->Option Builtin}{p:Mc}{w:Me}{n0:Nat}{ann:Option LI}:∀{n:Nat}{s s':MI}{t:Thread},gO tb p w n0 ann n s t=some s'->topRun tb p w n0 ann n s.abs t=some s'.abs
 |0,_,_,_,h=>by cases h
 | n + 1, s, s', t, h => by
   unfold gO at h
   unfold topRun
   cases he:through t with
   |true=>rw [he] at h;cases h;rfl
   | false =>
     rw [he] at h
     cases hk:stepOk n0 ann t with
     |false=>rw [hk] at h;cases h
     | true =>
       rw [hk] at h
       cases hs:stepT (denote tb) p w s t with
       |none=>rw [hs] at h;cases h
       |some r=>obtain ⟨s2,t2⟩:=r;rw [hs] at h;rw [stepT_spec hs];exact pP h
noncomputable def treeOf:List Obj->Nat->BT->BT
 |[],_,t=>t
 |o::r,n,t=>treeOf r (n+1) (t.ins n o)
noncomputable def vK (P:Nb)(os:MD):MI:=⟨treeOf (boot_heap P).objs.toList 0 .nil,(boot_heap P).objs.toList.length,(boot_heap P).life,#[],boot_drawn,boot_toks,os⟩
theorem boot_abs (P:Nb)(os:MD):(vK P os).abs=⟨boot_heap P,#[],boot_drawn,boot_toks,os⟩:=by kernel_rfl
noncomputable def kr (p q:Mc)(loose:List Str)(Xt:LM->Bool)(g0:Bool)(h0:Heap){α:Type}(Yf:LM->α)(s:LM):=
 ((staticsOk (importedModules p.main.body) h0 s.heap&&namesBound p s.heap&&gensDone s&&laidKept h0 s.heap),openSeen q loose (importedModules p.main.body) Xt g0 s,Yf s)
end HD
namespace HD
open PySem PySem.W
noncomputable def uu (tb:String->Option Builtin)(p:Mc)(w:Me)(n0:Nat)(ann:Option LI):Nat->MI->Thread->Option (MI×Thread)
 |0,s,t=>some (s,t)
 | n + 1, s, t => match through t with
   |true=>none
   | false => match stepOk n0 ann t with
     |false=>none
     | true => match stepT (denote tb) p w s t with
       |some (s',t')=>uu tb p w n0 ann n s' t'
       |none=>none
noncomputable def kj (tb:String->Option Builtin)(p:Mc)(w:Me)(n0:Nat)(ann:Option LI):Nat->MI->Thread->Option (Flow×MI×Code×Pos)
 |0,_,_=>none
 | n + 1, s, t => match endAt 1 t with
   |some f=>some (f,s,t.code,t.pos)
   | none => match stepOk n0 ann t with
     |false=>none
     | true => match stepT (denote tb) p w s t with
       |some (s',t')=>kj tb p w n0 ann n s' t'
       |none=>none
section
variable {tb:String->Option Builtin}{p:Mc}{w:Me}{n0:Nat}{ann:Option LI}
theorem yc:∀{n:Nat}{s s':MI}{t t':Thread},uu tb p w n0 ann n s t=some (s',t')->topGo tb p w n0 ann n s.abs t=some (s'.abs,t')
 |0,s,s',t,t',h=>by cases h;rfl
 | n + 1, s, s', t, t', h => by
   unfold uu at h
   unfold topGo
   cases he:through t with
   |true=>rw [he] at h;cases h
   | false =>
     rw [he] at h
     cases hk:stepOk n0 ann t with
     |false=>rw [hk] at h;cases h
     | true =>
       rw [hk] at h
       cases hs:stepT (denote tb) p w s t with
       |none=>rw [hs] at h;cases h
       |some q=>obtain ⟨s2,t2⟩:=q;rw [hs] at h;rw [stepT_spec hs];exact yc h
theorem oQ:∀{n:Nat}{s s':MI}{t:Thread}{f:Flow}{c:Code}{q:Pos},kj tb p w n0 ann n s t=some (f,s',c,q)->segRun tb p w n0 ann 1 n s.abs t=some (f,s'.abs,c,q)
 |0,_,_,_,_,_,_,h=>by cases h
 | n + 1, s, s', t, f, c, q, h => by
   unfold kj at h
   unfold segRun
   cases he:endAt 1 t with
   |some g=>rw [he] at h;cases h;rfl
   | none =>
     rw [he] at h
     cases hk:stepOk n0 ann t with
     |false=>rw [hk] at h;cases h
     | true =>
       rw [hk] at h
       cases hs:stepT (denote tb) p w s t with
       |none=>rw [hs] at h;cases h
       |some x=>obtain ⟨s2,t2⟩:=x;rw [hs] at h;rw [stepT_spec hs];exact oQ h
theorem sO {n3 N:Nat}{s s2:MI}{env:Env}{c:Code}{p' p2 q:Pos}{b:List Stmt}{J:Nat}{α:Type}{f:LM->α}{a:α}
 (h3:kj tb p w n0 ann n3 s (piecesOf (b.take J) env c p' [topFrame q])=some (.next,s2,c,p2))
 (h4:(topRun tb p w n0 ann N s2.abs (restOf (b.drop J) env c p2 [topFrame q])).map f=some a):(topRun tb p w n0 ann (n3+N) s.abs (restOf b env c p' [topFrame q])).map f=some a:=by
 obtain ⟨r,e3,e4⟩:=Mq.mp h4
 have k4:=piece_app (oQ h3) e3
 rw [List.take_append_drop] at k4
 rw [k4]
 exact congrArg some e4
theorem ym {N:Nat}{s2:MI}{t:Thread}{p' q:Mc}{loose:List Str}{Xt:LM->Bool}{g0:Bool}{h0:Heap}{α:Type}{Yf:LM->α}{a b c}
 (h1:(gO tb p w n0 ann N s2 t).map (fun s=>(kr p' q loose Xt g0 h0 Yf s.abs).1)=some a) (h2:(gO tb p w n0 ann N s2 t).map (fun s=>(kr p' q loose Xt g0 h0 Yf s.abs).2.1)=some b)
 (h3:(gO tb p w n0 ann N s2 t).map (fun s=>(kr p' q loose Xt g0 h0 Yf s.abs).2.2)=some c):(topRun tb p w n0 ann N s2.abs t).map (kr p' q loose Xt g0 h0 Yf)=some (a,b,c):=by
 obtain ⟨r,e3,rfl⟩:=Mq.mp h1
 rw [e3] at h2 h3
 cases h2;cases h3
 rw [pP e3]
 rfl
theorem yn {n1 n2 N:Nat}{s s':MI}{env:Env}{c:Code}{pos p' q:Pos}{t:Thread}{b:List Stmt}{J:Nat}{α:Type}{f:LM->α}{a:α}
 (h1:(uu tb p w n0 ann n1 s t).map (·.2)=some ⟨denote tb (.body b env),c,pos,[topFrame q]⟩) (h0:endAt 1 (blockOf b env c pos [topFrame q])=some .next)
 (h2:((uu tb p w n0 ann n1 s t).bind fun x=>kj tb p w n0 ann n2 x.1 (piecesOf (b.take J) env c pos [topFrame q]))=some (.next,s',c,p'))
 (h3:(topRun tb p w n0 ann N s'.abs (restOf (b.drop J) env c p' [topFrame q])).map f=some a):(topRun tb p w n0 ann (n1+(1+(n2+N))) s.abs t).map f=some a:=by
 obtain ⟨⟨s1,t1⟩,e1,e2⟩:=Mq.mp h1
 have e2:t1=⟨denote tb (.body b env),c,pos,[topFrame q]⟩:=e2
 subst e2
 rw [e1] at h2
 have h2:kj tb p w n0 ann n2 s1 (piecesOf (b.take J) env c pos [topFrame q])=some (.next,s',c,p'):=h2
 obtain ⟨r,e3,e4⟩:=Mq.mp h3
 have k3:=piece_app (oQ h2) e3
 rw [List.take_append_drop] at k3
 have hb:segRun tb p w n0 ann 1 1 s1.abs (blockOf b env c pos [topFrame q])=some (.next,s1.abs,c,pos):=by
  show (match endAt 1 (blockOf b env c pos [topFrame q]) with|some f=>some (f,s1.abs,c,pos)|none=>_)=_
  rw [h0]
 have k2:=piece_block hb k3
 rw [go_top (yc e1) k2]
 exact congrArg some e4
end
theorem tD {p q:Mc}{loose:List Str}{Xt:LM->Bool}{α:Type}{Yf:LM->α}{Ya:Me->α}{N:Nat}{g0:Bool}{m0:Nat}{ann:Option LI}
 (open_:∀w:Me,(fencedOpening treeTable p w N).map (fun s=>(s.heap,s.gens,s.drawn,s.toks))=some (boot_heap w.params,Array.mk [],boot_drawn,boot_toks))
 (size:∀w:Me,((boot_heap w.params).isNs mainGlobals&&(Array.mk ([]:List GenState)).size==0,(boot_heap w.params).objs.size,(boot_heap w.params).nsMap mainGlobals "__annotations__")=(true,m0,ann))
 (run:∀(w:Me) (os:MD),(topRun treeTable p w m0 ann N (vK w.params os).abs (topStub p)).map (kr p q loose Xt g0 (boot_heap w.params) Yf)=some (true,openGood q loose,Ya w)):LeftO p q loose Xt Yf Ya N g0:=fun w=>by
 obtain ⟨⟨h,gs,d,k,os⟩,e,e'⟩:=Mq.mp (open_ w)
 obtain ⟨rfl,rfl,rfl,rfl⟩:h=boot_heap w.params/\gs=Array.mk []/\d=boot_drawn/\k=boot_toks:=by simpa using e'
 obtain ⟨z1,z2,z3⟩:_/\_/\_:=by simpa only [Prod.mk.injEq] using size w
 obtain ⟨s1,r,l⟩:=Mq.mp (run w os)
 obtain ⟨l1,l2,l3⟩:_/\_/\_:=by simpa only [kr,Prod.mk.injEq] using l
 rw [boot_abs] at r
 have t:topFrom treeTable p w N ⟨boot_heap w.params,Array.mk [],boot_drawn,boot_toks,os⟩=some s1:=by
  unfold topFrom
  dsimp only
  rw [z1,z2,z3,r]
  show (match staticsOk (importedModules p.main.body) (boot_heap w.params) s1.heap&&namesBound p s1.heap&&gensDone s1&&laidKept (boot_heap w.params) s1.heap with|true=>_|false=>_)=_
  rw [l1]
 unfold openEnds
 rw [e]
 show (topFrom treeTable p w N _).map _=_
 rw [t]
 exact congrArg some (Prod.ext l2 l3)
end HD
namespace K50
open PySem
abbrev eN (P:Nb)(x:Str)(n:Nat)(v:LI):NM:=⟨PyData.keyHash P x,.str x n,v⟩
abbrev fF:String:="law_leastdeeds_k50_what_a_shop_tells"
noncomputable def pd (j:Nat)(s:Stmt):Stmt:=match s with
 |.ClassDef _ _ _ b _ _ _ _ _ _ _=>b.getD j s
 |_=>s
noncomputable def ir (i:Nat):Stmt:=PySem.Challenge.pw_leastdeeds_k50_what_a_shop_tells.main.body.getD i (.Pass ⟨0,0,0,0⟩)
noncomputable def qR (s:Stmt):Arguments:=match s with
 |.FunctionDef _ a _ _ _ _ _ _ _ _=>a
 |_=>⟨[],[],none,[],[],none,[]⟩
noncomputable def qQ (s:Stmt):List Stmt:=match s with
 |.FunctionDef _ _ b _ _ _ _ _ _ _=>b
 |_=>[]
noncomputable def oh (s:Stmt):Scope:=match s with
 |.FunctionDef _ _ _ _ _ _ sc _ _ _=>sc
 |_=>{kind:=.function,names:=[],isGenerator:=false,isCoroutine:=false}
noncomputable def o1:Obj:={cls:=.type "tuple" ,data:=.seq #[]}
noncomputable def o2 (a:String)(b:Nat)(c:Int)(d:Nat)(e:Int):Obj:={cls:=.type "code" ,data:=.fields #[.str (Str.ofString a) b ,.str (Str.ofString a) (b+1) ,.str ("/claim/cut.py") (b+2) ,.int c 0 ,.int 0 0 ,.int 0 0 ,.int 0 0 ,.int 0 0 ,.ref d ,.bool false ,.int 181 0 ,.ref (d+1) ,.none ,.none ,.none ,.none ,.int e 0 ,.int c 0 ,.str ("/claim/cut.py") (b+4)]}
noncomputable def o3 (a:Nat)(b:Nat)(c:String)(d:Nat):Obj:={cls:=.type "frame" ,slots:=#[some (.ref a) ,some (.ref 3) ,some (.ref b) ,none ,some (.str (Str.ofString c) d) ,none ,some (.ref 0)]}
noncomputable def o4:Obj:={cls:=.none ,data:=.fields #[]}
noncomputable def o5 (a:String)(b:Nat):Obj:={cls:=.type "tuple" ,data:=.seq #[.str (Str.ofString a) b]}
noncomputable def o6 (a:String)(b:Nat):Obj:={cls:=.none ,data:=.func {name:=Str.ofString a ,qualname:=Str.ofString a ,params:=qR (ir b) ,body:=PySem.FuncBody.stmts (qQ (ir b)) ,scope:=oh (ir b) ,globals:=0 ,closure:=[] ,defaults:=.none ,kwdefaults:=.none ,pyModule:=.none ,code:=.none}}
noncomputable def o7 (a:String)(b:Nat)(c:String)(d:Int)(e:Int)(f:Nat)(g:Int)(h:Nat):Obj:={cls:=.type "code" ,data:=.fields #[.str (Str.ofString a) b ,.str (Str.ofString c) (b+1) ,.str ("/claim/cut.py") (b+2) ,.int d 0 ,.int e 0 ,.int 0 0 ,.int 0 0 ,.int 3 0 ,.ref f ,.bool true ,.int 181 0 ,.ref (f+1) ,.none ,.ref (f+2) ,.ref (f+3) ,.ref (f+4) ,.int g 0 ,.int d 0 ,.str ("/claim/cut.py") h]}
noncomputable def o8 (a:String)(b:Nat)(c:String)(d:Nat)(e:Nat):Obj:={cls:=.type "function" ,data:=.func {name:=Str.ofString a ,qualname:=Str.ofString a ,params:=qR (ir b) ,body:=PySem.FuncBody.stmts (qQ (ir b)) ,scope:=oh (ir b) ,globals:=3 ,closure:=[] ,defaults:=.none ,kwdefaults:=.none ,pyModule:=.str (Str.ofString c) d ,code:=.ref e}}
noncomputable def o9:Obj:={cls:=.type "builtin_function_or_method" ,data:=.fields #[.builtin "type.__prepare__" ,.type "type"]}
noncomputable def ue (P:Nb)(a:Nat)(b:String)(c:Int)(d:Nat):Obj:={cls:=.type "dict" ,data:=.dict #[{hash:=PyData.keyHash P ("__module__") ,key:=.str ("__module__") a ,val:=.str ("leastdeeds.errors") 194} ,{hash:=PyData.keyHash P ("__qualname__") ,key:=.str ("__qualname__") (a+2) ,val:=.str (Str.ofString b) (a+1)} ,{hash:=PyData.keyHash P ("__firstlineno__") ,key:=.str ("__firstlineno__") (a+4) ,val:=.int c (a+3)} ,{hash:=PyData.keyHash P ("__static_attributes__") ,key:=.str ("__static_attributes__") (a+5) ,val:=.ref d}] 4}
noncomputable def JL (P:Nb)(a:Nat)(b:Int)(c:String)(d:Nat)(e:Nat)(f:String)(g:Nat)(h:Nat):Obj:={cls:=.type "dict" ,data:=.dict #[{hash:=PyData.keyHash P ("__module__") ,key:=.str ("__module__") a ,val:=.str ("leastdeeds.errors") 194} ,{hash:=PyData.keyHash P ("__firstlineno__") ,key:=.str ("__firstlineno__") (a+4) ,val:=.int b (a+3)} ,{hash:=PyData.keyHash P (Str.ofString c) ,key:=.str (Str.ofString c) d ,val:=.ref e} ,{hash:=PyData.keyHash P (Str.ofString f) ,key:=.str (Str.ofString f) (d+2) ,val:=.ref g} ,{hash:=PyData.keyHash P ("__doc__") ,key:=.str ("__doc__") (d+3) ,val:=.none}] h}
noncomputable def o12:Obj:={cls:=.type "type" ,data:=.cls {name:="DeedError" ,bases:=[.type "ValueError"] ,mro:=[.ref 31 ,.type "ValueError" ,.type "Exception" ,.type "BaseException" ,.type "object"] ,ns:=30 ,qualname:="DeedError" ,subclasses:=[.ref 51 ,.ref 63 ,.ref 75 ,.ref 87 ,.ref 99 ,.ref 111]} ,slots:=#[some (.ref 22) ,none ,some (.str ("DeedError") 196) ,some (.str ("DeedError") 204) ,some (.builtin "ValueError.__new__") ,some (.bool true)]}
noncomputable def JK (a:Nat)(b:Nat):Obj:={cls:=.type "getset_descriptor" ,data:=.fields #[.str ("__weakref__") a ,.ref b ,.builtin "ExceptionGroup.__weakref__" ,.none]}
noncomputable def qk (a:Nat):Obj:={cls:=.type "super" ,data:=.fields #[.ref a ,.ref a ,.ref a]}
noncomputable def qj (a:Nat):Obj:={cls:=.type "builtin_function_or_method" ,data:=.fields #[.builtin "object.__init_subclass__" ,.ref a]}
noncomputable def ud:Obj:={cls:=.type "tuple" ,data:=.seq #[.ref 31]}
noncomputable def mJ (a:String)(b:Nat)(c:String):Obj:={cls:=.type "tuple" ,data:=.seq #[.str (Str.ofString a) b ,.str (Str.ofString c) (b+1)]}
noncomputable def lj (a:String)(b:String)(c:Nat)(d:Nat):Obj:={cls:=.none ,data:=.func {name:=Str.ofString a ,qualname:=Str.ofString b ,params:=qR (pd c (ir d)) ,body:=PySem.FuncBody.stmts (qQ (pd c (ir d))) ,scope:=oh (pd c (ir d)) ,globals:=0 ,closure:=[] ,defaults:=.none ,kwdefaults:=.none ,pyModule:=.none ,code:=.none}}
noncomputable def lh (a:String)(b:String)(c:Nat)(d:Nat)(e:String)(f:Nat)(g:Nat):Obj:={cls:=.type "function" ,data:=.func {name:=Str.ofString a ,qualname:=Str.ofString b ,params:=qR (pd c (ir d)) ,body:=PySem.FuncBody.stmts (qQ (pd c (ir d))) ,scope:=oh (pd c (ir d)) ,globals:=3 ,closure:=[] ,defaults:=.none ,kwdefaults:=.none ,pyModule:=.str (Str.ofString e) f ,code:=.ref g}}
noncomputable def uc (a:String)(b:Nat)(c:Nat)(d:Nat)(e:Nat):Obj:={cls:=.type "type" ,data:=.cls {name:=Str.ofString a ,bases:=[.ref 31] ,mro:=[.ref b ,.ref 31 ,.type "ValueError" ,.type "Exception" ,.type "BaseException" ,.type "object"] ,ns:=c ,qualname:=Str.ofString a} ,slots:=#[some (.ref d) ,none ,some (.str (Str.ofString a) e) ,some (.str (Str.ofString a) (e+8)) ,some (.builtin "ValueError.__new__") ,some (.bool true)]}
noncomputable def xC (P:Nb)(a:Nat)(b:Int)(c:Nat):Obj:={cls:=.type "dict" ,data:=.dict #[{hash:=PyData.keyHash P ("__module__") ,key:=.str ("__module__") a ,val:=.str ("leastdeeds.errors") 194} ,{hash:=PyData.keyHash P ("__firstlineno__") ,key:=.str ("__firstlineno__") (a+4) ,val:=.int b (a+3)} ,{hash:=PyData.keyHash P ("__static_attributes__") ,key:=.str ("__static_attributes__") (a+5) ,val:=.ref c} ,{hash:=PyData.keyHash P ("__doc__") ,key:=.str ("__doc__") (a+6) ,val:=.none}] 2}
noncomputable def xB (a:String)(b:Nat)(c:String)(d:String):Obj:={cls:=.type "tuple" ,data:=.seq #[.str (Str.ofString a) b ,.str (Str.ofString c) (b+1) ,.str (Str.ofString d) (b+2)]}
noncomputable def jT (a:String)(b:Nat)(c:Int)(d:Int)(e:Nat)(f:Int):Obj:={cls:=.type "code" ,data:=.fields #[.str (Str.ofString a) b ,.str (Str.ofString a) (b+1) ,.str ("/claim/cut.py") (b+2) ,.int c 0 ,.int d 0 ,.int 0 0 ,.int 0 0 ,.int 3 0 ,.ref e ,.bool true ,.int 181 0 ,.ref (e+1) ,.none ,.none ,.none ,.ref (e+2) ,.int f 0 ,.int c 0 ,.str ("/claim/cut.py") (b+4)]}
noncomputable def n4 (a:String)(b:Nat)(c:String)(d:String)(e:String)(f:String)(g:String):Obj:={cls:=.type "tuple" ,data:=.seq #[.str (Str.ofString a) b ,.str (Str.ofString c) (b+1) ,.str (Str.ofString d) (b+2) ,.str (Str.ofString e) (b+3) ,.str (Str.ofString f) (b+4) ,.str (Str.ofString g) (b+5)]}
noncomputable def Gd (a:String)(b:Nat)(c:String)(d:String)(e:String)(f:String)(g:String)(h:String):Obj:={cls:=.type "tuple" ,data:=.seq #[.str (Str.ofString a) b ,.str (Str.ofString c) (b+1) ,.str (Str.ofString d) (b+2) ,.str (Str.ofString e) (b+3) ,.str (Str.ofString f) (b+4) ,.str (Str.ofString g) (b+5) ,.str (Str.ofString h) (b+6)]}
noncomputable def JJ (P:Nb)(a:Nat)(b:Nat):Obj:={cls:=.type "dict" ,data:=.dict #[{hash:=PyData.keyHash P ("turn") ,key:=.str ("turn") a ,val:=.ref b} ,{hash:=PyData.keyHash P ("join") ,key:=.str ("join") (a+1) ,val:=.ref (b+7)} ,{hash:=PyData.keyHash P ("move") ,key:=.str ("move") (a+2) ,val:=.ref (b+14)} ,{hash:=PyData.keyHash P ("put") ,key:=.str ("put") (a+3) ,val:=.ref (b+21)}] 4}
noncomputable def Bz (a:String)(b:Nat)(c:String)(d:String)(e:String)(f:String):Obj:={cls:=.type "tuple" ,data:=.seq #[.str (Str.ofString a) b ,.str (Str.ofString c) (b+1) ,.str (Str.ofString d) (b+2) ,.str (Str.ofString e) (b+3) ,.str (Str.ofString f) (b+4)]}
noncomputable def By (a:String)(b:Nat)(c:String)(d:String)(e:String):Obj:={cls:=.type "tuple" ,data:=.seq #[.str (Str.ofString a) b ,.str (Str.ofString c) (b+1) ,.str (Str.ofString d) (b+2) ,.str (Str.ofString e) (b+3)]}
noncomputable def JI (a:String)(b:Nat)(c:String)(d:String)(e:String)(f:String)(g:String)(h:String)(i:String):Obj:={cls:=.type "tuple" ,data:=.seq #[.str (Str.ofString a) b ,.str (Str.ofString c) (b+1) ,.str (Str.ofString d) (b+2) ,.str (Str.ofString e) (b+3) ,.str (Str.ofString f) (b+4) ,.str (Str.ofString g) (b+5) ,.str (Str.ofString h) (b+6) ,.str (Str.ofString i) (b+7)]}
noncomputable def o30 (P:Nb):Obj:={cls:=.type "dict" ,data:=.dict #[{hash:=PyData.keyHash P ("__module__") ,key:=.str ("__module__") 627 ,val:=.str ("leastdeeds.shop") 618} ,{hash:=PyData.keyHash P ("__firstlineno__") ,key:=.str ("__firstlineno__") 631 ,val:=.int 148 630} ,{hash:=PyData.keyHash P ("__init__") ,key:=.str ("__init__") 640 ,val:=.ref 313} ,{hash:=PyData.keyHash P ("row") ,key:=.str ("row") 647 ,val:=.ref 320} ,{hash:=PyData.keyHash P ("cost") ,key:=.str ("cost") 654 ,val:=.ref 327} ,{hash:=PyData.keyHash P ("behaviour") ,key:=.str ("behaviour") 661 ,val:=.ref 334} ,{hash:=PyData.keyHash P ("least") ,key:=.str ("least") 668 ,val:=.ref 341} ,{hash:=PyData.keyHash P ("put") ,key:=.str ("put") 677 ,val:=.ref 348} ,{hash:=PyData.keyHash P ("out") ,key:=.str ("out") 685 ,val:=.ref 355} ,{hash:=PyData.keyHash P ("back") ,key:=.str ("back") 692 ,val:=.ref 362} ,{hash:=PyData.keyHash P ("change") ,key:=.str ("change") 700 ,val:=.ref 369} ,{hash:=PyData.keyHash P ("give") ,key:=.str ("give") 709 ,val:=.ref 376} ,{hash:=PyData.keyHash P ("__static_attributes__") ,key:=.str ("__static_attributes__") 713 ,val:=.ref 377} ,{hash:=PyData.keyHash P ("__dict__") ,key:=.str ("__dict__") 715 ,val:=.ref 380} ,{hash:=PyData.keyHash P ("__weakref__") ,key:=.str ("__weakref__") 717 ,val:=.ref 381} ,{hash:=PyData.keyHash P ("__doc__") ,key:=.str ("__doc__") 718 ,val:=.none}] 4}
noncomputable def o31:Obj:={cls:=.type "type" ,data:=.cls {name:="Shop" ,bases:=[.type "object"] ,mro:=[.ref 379 ,.type "object"] ,ns:=378 ,qualname:="Shop"} ,slots:=#[none ,none ,some (.str ("Shop") 620) ,some (.str ("Shop") 628) ,some (.builtin "object.__new__") ,some (.bool true)]}
noncomputable def JR (P:Nb):List NM:=[eN P "__doc__" 166 (.none),eN P "__package__" 167 (.none),eN P "__loader__" 168 (.builtin "__main__.__loader__#opaque"),eN P "__spec__" 169 (.none),eN P "__annotations__" 170 (.ref 6),eN P "__builtins__" 171 (.ref 4),eN P "__file__" 173 (.str "/claim/cut.py" 172),eN P "__cached__" 174 (.none),eN P "_wall" 193 (.ref 21),eN P "DeedError" 213 (.ref 31),eN P "NoRow" 238 (.ref 51),eN P "NoMachine" 254 (.ref 63),eN P "TooLong" 270 (.ref 75),eN P "NoPlace" 286 (.ref 87),eN P "NoDeed" 302 (.ref 99),eN P "Nothing" 318 (.ref 111)]
noncomputable def JQ (P:Nb):List NM:=JR P++[eN P "is_between" 329 (.ref 120),eN P "LEAST_WORDS" 333 (.int 2 332),eN P "MOST_WORDS" 335 (.int 4 334),eN P "MOST_PLACES" 337 (.int 2 336),eN P "MOST_DEEDS" 339 (.int 6 338),eN P "MOST_COST" 341 (.int 3 340),eN P "LONGEST_ROW" 343 (.int 40 342),eN P "is_word" 351 (.ref 127),eN P "is_place" 359 (.ref 134),eN P "is_cost" 366 (.ref 141),eN P "is_tuple_of" 374 (.ref 148),eN P "is_table" 380 (.ref 153),eN P "is_double_table" 386 (.ref 158),eN P "is_turn" 398 (.ref 165),eN P "is_join" 411 (.ref 172),eN P "is_move" 423 (.ref 179),eN P "is_put" 435 (.ref 186),eN P "SORTS" 444 (.ref 187),eN P "is_deed" 455 (.ref 194),eN P "is_machine" 461 (.ref 199),eN P "need_machine" 468 (.ref 206),eN P "beginnings" 474 (.ref 211),eN P "is_deed_number" 482 (.ref 218),eN P "need_numbers" 492 (.ref 225),eN P "need_row" 500 (.ref 232),eN P "summed_cost" 506 (.ref 237),eN P "turned" 520 (.ref 244),eN P "joined" 533 (.ref 251),eN P "moved" 545 (.ref 258),eN P "put_in" 557 (.ref 265),eN P "NEW_WORDS" 566 (.ref 266),eN P "done" 576 (.ref 273),eN P "all_standing" 587 (.ref 280),eN P "ends_of" 593 (.ref 285),eN P "behaviour" 601 (.ref 292),eN P "parted" 617 (.ref 299),eN P "Shop" 720 (.ref 379)]
noncomputable def JP (P:Nb):List NM:=JQ P++[eN P "_law_spread" 734 (.ref 390),eN P "_law_open" 744 (.ref 397),eN P "_law_anew" 751 (.ref 404),eN P "_law_take" 762 (.ref 411),eN P "_law_same" 768 (.ref 416),eN P "_law_tab" 774 (.ref 421),eN P "_law_deed" 780 (.ref 426),eN P "_law_machine" 794 (.ref 433),eN P "_law_row" 800 (.ref 438),eN P "_law_after" 810 (.ref 445),eN P "_law_begins" 816 (.ref 450),eN P "_law_ends" 827 (.ref 457),eN P "_law_price" 833 (.ref 462),eN P "_law_change" 846 (.ref 469),eN P "_law_do" 854 (.ref 476),eN P "_law_parted" 866 (.ref 483),eN P "_law_orders" 872 (.ref 490),eN P "_law_right" 884 (.ref 497)]
noncomputable def kg3 (P:Nb):List NM:=JP P++[eN P "law" 890 (.ref 502)]
noncomputable def JU (P:Nb):List Obj:=[o1,
 {cls:=.none,data:=.fields #[.int 1 0,.int 0 0,.ref 20,.int 5 0,.int 0 0,.ref 27,.int 7 0,.int 0 0,.ref 40,.int 12 0,.int 0 0,.ref 59,.int 14 0,.int 0 0,.ref 71,.int 16 0,.int 0 0,.ref 83,.int 18 0,.int 0 0,.ref 95,.int 20 0,.int 0 0,.ref 107]},
 o2 "<module>" 182 1 11 185,
 o3 13 3 "__main__" 164,
 o1,
 o4,
 o5 "k" 190,
 o1,
 o6 "_wall" 0,
 o7 "_wall" 187 "_wall" 1 1 15 191 192,
 o8 "_wall" 0 "__main__" 164 20,
 {cls:=.type "tuple",data:=.seq #[.type "ValueError"]},
 o9,
 ue P 203 "DeedError" 5 29,
 o1,
 o4,
 o2 "DeedError" 198 5 25 201,
 o3 27 24 "leastdeeds.errors" 194,
 o1,
 JL P 203 5 "__static_attributes__" 208 29 "__weakref__" 32 3,
 o12,
 JK 209 31,
 qk 31,
 qj 31,
 ud,
 o9,
 {cls:=.type "dict",data:=.dict #[eN P "__module__" 221 (.str "leastdeeds.errors" 194),eN P "__qualname__" 223 (.str "NoRow" 222),eN P "__firstlineno__" 225 (.int 7 224),eN P "__init__" 233 (.ref 48),eN P "__static_attributes__" 235 (.ref 49)] 5},
 o1,
 {cls:=.none,data:=.fields #[.int 9 0,.int 4 0,.ref 47]},
 o2 "NoRow" 216 7 38 219,
 o3 40 37 "leastdeeds.errors" 194,
 o1,
 o4,
 mJ "self" 229 "place",
 o1,
 lj "__init__" "NoRow.__init__" 0 3,
 o7 "__init__" 226 "NoRow.__init__" 9 2 42 231 232,
 lh "__init__" "NoRow.__init__" 0 3 "leastdeeds.errors" 194 47,
 o5 "place" 234,
 JL P 221 7 "__init__" 233 48 "__static_attributes__" 49 2,
 uc "NoRow" 51 50 35 214,
 qk 51,
 qj 51,
 ud,
 o9,
 ue P 246 "NoMachine" 12 61,
 o1,
 o4,
 o2 "NoMachine" 241 12 57 244,
 o3 59 56 "leastdeeds.errors" 194,
 o1,
 xC P 246 12 61,
 uc "NoMachine" 63 62 54 239,
 qk 63,
 qj 63,
 ud,
 o9,
 ue P 262 "TooLong" 14 73,
 o1,
 o4,
 o2 "TooLong" 257 14 69 260,
 o3 71 68 "leastdeeds.errors" 194,
 o1,
 xC P 262 14 73,
 uc "TooLong" 75 74 66 255,
 qk 75,
 qj 75,
 ud,
 o9,
 ue P 278 "NoPlace" 16 85,
 o1,
 o4,
 o2 "NoPlace" 273 16 81 276,
 o3 83 80 "leastdeeds.errors" 194,
 o1,
 xC P 278 16 85,
 uc "NoPlace" 87 86 78 271,
 qk 87,
 qj 87,
 ud,
 o9,
 ue P 294 "NoDeed" 18 97,
 o1,
 o4,
 o2 "NoDeed" 289 18 93 292,
 o3 95 92 "leastdeeds.errors" 194,
 o1,
 xC P 294 18 97,
 uc "NoDeed" 99 98 90 287,
 qk 99,
 qj 99,
 ud,
 o9,
 ue P 310 "Nothing" 20 109,
 o1,
 o4,
 o2 "Nothing" 305 20 105 308,
 o3 107 104 "leastdeeds.errors" 194,
 o1,
 xC P 310 20 109,
 uc "Nothing" 111 110 102 303,
 qk 111,
 qj 111]
noncomputable def JT (P:Nb):List Obj:=((JU P).set 1 ({cls:=.none,data:=.fields #[.int 1 0,.int 0 0,.ref 20,.int 5 0,.int 0 0,.ref 27,.int 7 0,.int 0 0,.ref 40,.int 12 0,.int 0 0,.ref 59,.int 14 0,.int 0 0,.ref 71,.int 16 0,.int 0 0,.ref 83,.int 18 0,.int 0 0,.ref 95,.int 20 0,.int 0 0,.ref 107,.int 23 0,.int 0 0,.ref 119,.int 34 0,.int 0 0,.ref 126,.int 36 0,.int 0 0,.ref 133,.int 38 0,.int 0 0,.ref 140,.int 40 0,.int 0 0,.ref 147,.int 42 0,.int 0 0,.ref 152,.int 44 0,.int 0 0,.ref 157,.int 46 0,.int 0 0,.ref 164,.int 51 0,.int 0 0,.ref 171,.int 58 0,.int 0 0,.ref 178,.int 63 0,.int 0 0,.ref 185,.int 69 0,.int 0 0,.ref 193,.int 77 0,.int 0 0,.ref 198,.int 86 0,.int 0 0,.ref 205,.int 89 0,.int 0 0,.ref 210,.int 96 0,.int 0 0,.ref 217,.int 98 0,.int 0 0,.ref 224,.int 104 0,.int 0 0,.ref 231,.int 109 0,.int 0 0,.ref 236,.int 112 0,.int 0 0,.ref 243,.int 115 0,.int 0 0,.ref 250,.int 118 0,.int 0 0,.ref 257,.int 121 0,.int 0 0,.ref 264,.int 125 0,.int 0 0,.ref 272,.int 129 0,.int 0 0,.ref 279,.int 134 0,.int 0 0,.ref 284,.int 136 0,.int 0 0,.ref 291,.int 140 0,.int 0 0,.ref 298,.int 148 0,.int 0 0,.ref 305]}))++[o1,
 o4,
 xB "thing" 324 "low" "high",
 o1,
 o6 "is_between" 10,
 o7 "is_between" 321 "is_between" 23 3 114 327 328,
 o8 "is_between" 10 "leastdeeds.wholes" 319 119,
 o1,
 o4,
 mJ "words" 347 "thing",
 o1,
 o6 "is_word" 18,
 o7 "is_word" 344 "is_word" 34 2 121 349 350,
 o8 "is_word" 18 "leastdeeds.machines" 330 126,
 o1,
 o4,
 mJ "places" 355 "thing",
 o1,
 o6 "is_place" 19,
 o7 "is_place" 352 "is_place" 36 2 128 357 358,
 o8 "is_place" 19 "leastdeeds.machines" 330 133,
 o1,
 o4,
 o5 "thing" 363,
 o1,
 o6 "is_cost" 20,
 o7 "is_cost" 360 "is_cost" 38 1 135 364 365,
 o8 "is_cost" 20 "leastdeeds.machines" 330 140,
 o1,
 o4,
 mJ "long" 370 "thing",
 o1,
 o6 "is_tuple_of" 21,
 o7 "is_tuple_of" 367 "is_tuple_of" 40 2 142 372 373,
 o8 "is_tuple_of" 21 "leastdeeds.machines" 330 147,
 o1,
 o4,
 o6 "is_table" 22,
 jT "is_table" 375 42 2 149 378,
 o8 "is_table" 22 "leastdeeds.machines" 330 152,
 o1,
 o4,
 o6 "is_double_table" 23,
 jT "is_double_table" 381 44 2 154 384,
 o8 "is_double_table" 23 "leastdeeds.machines" 330 157,
 o1,
 o4,
 n4 "words" 390 "places" "parts" "at" "table" "price",
 o1,
 o6 "is_turn" 24,
 o7 "is_turn" 387 "is_turn" 46 3 159 396 397,
 o8 "is_turn" 24 "leastdeeds.machines" 330 164,
 o1,
 o4,
 Gd "words" 402 "places" "parts" "at" "other" "table" "price",
 o1,
 o6 "is_join" 25,
 o7 "is_join" 399 "is_join" 51 3 166 409 410,
 o8 "is_join" 25 "leastdeeds.machines" 330 171,
 o1,
 o4,
 n4 "words" 415 "places" "parts" "at" "other" "price",
 o1,
 o6 "is_move" 26,
 o7 "is_move" 412 "is_move" 58 3 173 421 422,
 o8 "is_move" 26 "leastdeeds.machines" 330 178,
 o1,
 o4,
 n4 "words" 427 "places" "parts" "at" "word" "price",
 o1,
 o6 "is_put" 27,
 o7 "is_put" 424 "is_put" 63 3 180 433 434,
 o8 "is_put" 27 "leastdeeds.machines" 330 185,
 JJ P 436 165,
 o1,
 o4,
 Bz "words" 448 "places" "thing" "sort" "is_sort",
 o1,
 o6 "is_deed" 29,
 o7 "is_deed" 445 "is_deed" 69 3 188 453 454,
 o8 "is_deed" 29 "leastdeeds.machines" 330 193,
 o1,
 o4,
 o6 "is_machine" 30,
 jT "is_machine" 456 77 1 195 459,
 o8 "is_machine" 30 "leastdeeds.machines" 330 198,
 o1,
 o4,
 o5 "thing" 465,
 o1,
 o6 "need_machine" 31,
 o7 "need_machine" 462 "need_machine" 86 1 200 466 467,
 o8 "need_machine" 31 "leastdeeds.machines" 330 205,
 o1,
 o4,
 o6 "beginnings" 32,
 jT "beginnings" 469 89 1 207 472,
 o8 "beginnings" 32 "leastdeeds.machines" 330 210,
 o1,
 o4,
 mJ "machine" 478 "thing",
 o1,
 o6 "is_deed_number" 33,
 o7 "is_deed_number" 475 "is_deed_number" 96 2 212 480 481,
 o8 "is_deed_number" 33 "leastdeeds.machines" 330 217,
 o1,
 o4,
 By "machine" 486 "row" "place" "thing",
 o1,
 o6 "need_numbers" 34,
 o7 "need_numbers" 483 "need_numbers" 98 2 219 490 491,
 o8 "need_numbers" 34 "leastdeeds.machines" 330 224,
 o1,
 o4,
 mJ "machine" 496 "row",
 o1,
 o6 "need_row" 35,
 o7 "need_row" 493 "need_row" 104 2 226 498 499,
 o8 "need_row" 35 "leastdeeds.machines" 330 231,
 o1,
 o4,
 o6 "summed_cost" 36,
 jT "summed_cost" 501 109 2 233 504,
 o8 "summed_cost" 36 "leastdeeds.machines" 330 236,
 o1,
 o4,
 n4 "deed" 512 "standing" "sort" "at" "table" "price",
 o1,
 o6 "turned" 38,
 o7 "turned" 509 "turned" 112 2 238 518 519,
 o8 "turned" 38 "leastdeeds.runs" 507 243,
 o1,
 o4,
 Gd "deed" 524 "standing" "sort" "at" "other" "table" "price",
 o1,
 o6 "joined" 39,
 o7 "joined" 521 "joined" 115 2 245 531 532,
 o8 "joined" 39 "leastdeeds.runs" 507 250,
 o1,
 o4,
 n4 "deed" 537 "standing" "sort" "at" "other" "price",
 o1,
 o6 "moved" 40,
 o7 "moved" 534 "moved" 118 2 252 543 544,
 o8 "moved" 40 "leastdeeds.runs" 507 257,
 o1,
 o4,
 n4 "deed" 549 "standing" "sort" "at" "word" "price",
 o1,
 o6 "put_in" 41,
 o7 "put_in" 546 "put_in" 121 2 259 555 556,
 o8 "put_in" 41 "leastdeeds.runs" 507 264,
 JJ P 558 244,
 o1,
 o4,
 By "deed" 570 "standing" "new_word" "at",
 o1,
 o6 "done" 43,
 o7 "done" 567 "done" 125 2 267 574 575,
 o8 "done" 43 "leastdeeds.runs" 507 272,
 o1,
 o4,
 Bz "machine" 580 "row" "beginning" "standings" "number",
 o1,
 o6 "all_standing" 44,
 o7 "all_standing" 577 "all_standing" 129 3 274 585 586,
 o8 "all_standing" 44 "leastdeeds.runs" 507 279,
 o1,
 o4,
 o6 "ends_of" 45,
 jT "ends_of" 588 134 2 281 591,
 o8 "ends_of" 45 "leastdeeds.runs" 507 284,
 o1,
 o4,
 mJ "machine" 597 "row",
 o1,
 o6 "behaviour" 46,
 o7 "behaviour" 594 "behaviour" 136 2 286 599 600,
 o8 "behaviour" 46 "leastdeeds.runs" 507 291,
 o1,
 o4,
 JI "machine" 607 "one" "other" "one_ends" "other_ends" "start" "one_end" "other_end",
 o1,
 o6 "parted" 48,
 o7 "parted" 604 "parted" 140 3 293 615 616,
 o8 "parted" 48 "leastdeeds.alike" 602 298,
 o1,
 o9,
 {cls:=.type "dict",data:=.dict #[eN P "__module__" 627 (.str "leastdeeds.shop" 618),eN P "__qualname__" 629 (.str "Shop" 628),eN P "__firstlineno__" 631 (.int 148 630),eN P "__init__" 640 (.ref 313),eN P "row" 647 (.ref 320),eN P "cost" 654 (.ref 327),eN P "behaviour" 661 (.ref 334),eN P "least" 668 (.ref 341),eN P "put" 677 (.ref 348),eN P "out" 685 (.ref 355),eN P "back" 692 (.ref 362),eN P "change" 700 (.ref 369),eN P "give" 709 (.ref 376),eN P "__static_attributes__" 713 (.ref 377)] 14},
 o1,
 {cls:=.none,data:=.fields #[.int 150 0,.int 4 0,.ref 312,.int 156 0,.int 4 0,.ref 319,.int 159 0,.int 4 0,.ref 326,.int 162 0,.int 4 0,.ref 333,.int 165 0,.int 4 0,.ref 340,.int 168 0,.int 4 0,.ref 347,.int 177 0,.int 4 0,.ref 354,.int 182 0,.int 4 0,.ref 361,.int 187 0,.int 4 0,.ref 368,.int 191 0,.int 4 0,.ref 375]},
 o2 "Shop" 622 148 303 625,
 o3 305 302 "leastdeeds.shop" 618,
 o1,
 o4,
 xB "self" 635 "machine" "row",
 o1,
 lj "__init__" "Shop.__init__" 0 50,
 o7 "__init__" 632 "Shop.__init__" 150 3 307 638 639,
 lh "__init__" "Shop.__init__" 0 50 "leastdeeds.shop" 618 312,
 o1,
 o4,
 o5 "self" 644,
 o1,
 lj "row" "Shop.row" 1 50,
 o7 "row" 641 "Shop.row" 156 1 314 645 646,
 lh "row" "Shop.row" 1 50 "leastdeeds.shop" 618 319,
 o1,
 o4,
 o5 "self" 651,
 o1,
 lj "cost" "Shop.cost" 2 50,
 o7 "cost" 648 "Shop.cost" 159 1 321 652 653,
 lh "cost" "Shop.cost" 2 50 "leastdeeds.shop" 618 326,
 o1,
 o4,
 o5 "self" 658,
 o1,
 lj "behaviour" "Shop.behaviour" 3 50,
 o7 "behaviour" 655 "Shop.behaviour" 162 1 328 659 660,
 lh "behaviour" "Shop.behaviour" 3 50 "leastdeeds.shop" 618 333,
 o1,
 o4,
 o5 "self" 665,
 o1,
 lj "least" "Shop.least" 4 50,
 o7 "least" 662 "Shop.least" 165 1 335 666 667,
 lh "least" "Shop.least" 4 50 "leastdeeds.shop" 618 340,
 o1,
 o4,
 xB "self" 672 "place" "number",
 o1,
 lj "put" "Shop.put" 5 50,
 o7 "put" 669 "Shop.put" 168 3 342 675 676,
 lh "put" "Shop.put" 5 50 "leastdeeds.shop" 618 347,
 o1,
 o4,
 mJ "self" 681 "place",
 o1,
 lj "out" "Shop.out" 6 50,
 o7 "out" 678 "Shop.out" 177 2 349 683 684,
 lh "out" "Shop.out" 6 50 "leastdeeds.shop" 618 354,
 o1,
 o4,
 o5 "self" 689,
 o1,
 lj "back" "Shop.back" 7 50,
 o7 "back" 686 "Shop.back" 182 1 356 690 691,
 lh "back" "Shop.back" 7 50 "leastdeeds.shop" 618 361,
 o1,
 o4,
 mJ "self" 696 "row",
 o1,
 lj "change" "Shop.change" 8 50,
 o7 "change" 693 "Shop.change" 187 2 363 698 699,
 lh "change" "Shop.change" 8 50 "leastdeeds.shop" 618 368,
 o1,
 o4,
 xB "self" 704 "row" "start",
 o1,
 lj "give" "Shop.give" 9 50,
 o7 "give" 701 "Shop.give" 191 2 370 707 708,
 lh "give" "Shop.give" 9 50 "leastdeeds.shop" 618 375,
 xB "earlier" 710 "machine" "standing",
 o30 P,
 o31,
 {cls:=.type "getset_descriptor",data:=.fields #[.str "__dict__" 714,.ref 379,.builtin "function.__dict__",.builtin "function.__dict__#set"]},
 JK 716 379,
 qk 379,
 qj 379]
noncomputable def JS (P:Nb):List Obj:=((JT P).set 1 ({cls:=.none,data:=.fields #[.int 1 0,.int 0 0,.ref 20,.int 5 0,.int 0 0,.ref 27,.int 7 0,.int 0 0,.ref 40,.int 12 0,.int 0 0,.ref 59,.int 14 0,.int 0 0,.ref 71,.int 16 0,.int 0 0,.ref 83,.int 18 0,.int 0 0,.ref 95,.int 20 0,.int 0 0,.ref 107,.int 23 0,.int 0 0,.ref 119,.int 34 0,.int 0 0,.ref 126,.int 36 0,.int 0 0,.ref 133,.int 38 0,.int 0 0,.ref 140,.int 40 0,.int 0 0,.ref 147,.int 42 0,.int 0 0,.ref 152,.int 44 0,.int 0 0,.ref 157,.int 46 0,.int 0 0,.ref 164,.int 51 0,.int 0 0,.ref 171,.int 58 0,.int 0 0,.ref 178,.int 63 0,.int 0 0,.ref 185,.int 69 0,.int 0 0,.ref 193,.int 77 0,.int 0 0,.ref 198,.int 86 0,.int 0 0,.ref 205,.int 89 0,.int 0 0,.ref 210,.int 96 0,.int 0 0,.ref 217,.int 98 0,.int 0 0,.ref 224,.int 104 0,.int 0 0,.ref 231,.int 109 0,.int 0 0,.ref 236,.int 112 0,.int 0 0,.ref 243,.int 115 0,.int 0 0,.ref 250,.int 118 0,.int 0 0,.ref 257,.int 121 0,.int 0 0,.ref 264,.int 125 0,.int 0 0,.ref 272,.int 129 0,.int 0 0,.ref 279,.int 134 0,.int 0 0,.ref 284,.int 136 0,.int 0 0,.ref 291,.int 140 0,.int 0 0,.ref 298,.int 148 0,.int 0 0,.ref 305,.int 196 0,.int 0 0,.ref 389,.int 205 0,.int 0 0,.ref 396,.int 210 0,.int 0 0,.ref 403,.int 213 0,.int 0 0,.ref 410,.int 226 0,.int 0 0,.ref 415,.int 240 0,.int 0 0,.ref 420,.int 256 0,.int 0 0,.ref 425,.int 268 0,.int 0 0,.ref 432,.int 279 0,.int 0 0,.ref 437,.int 286 0,.int 0 0,.ref 444,.int 298 0,.int 0 0,.ref 449,.int 302 0,.int 0 0,.ref 456,.int 309 0,.int 0 0,.ref 461,.int 311 0,.int 0 0,.ref 468,.int 322 0,.int 0 0,.ref 475,.int 326 0,.int 0 0,.ref 482,.int 331 0,.int 0 0,.ref 489,.int 333 0,.int 0 0,.ref 496]}))++[o1,
 o4,
 n4 "cell" 726 "at" "primes" "one" "two" "three",
 o1,
 o6 "_law_spread" 52,
 o7 "_law_spread" 723 "_law_spread" 196 2 384 732 733,
 o8 "_law_spread" 52 fF 721 389,
 o1,
 o4,
 By "script" 738 "cells" "k" "cell",
 o1,
 o6 "_law_open" 53,
 o7 "_law_open" 735 "_law_open" 205 1 391 742 743,
 o8 "_law_open" 53 fF 721 396,
 o1,
 o4,
 o5 "pen" 748,
 o1,
 o6 "_law_anew" 54,
 o7 "_law_anew" 745 "_law_anew" 210 1 398 749 750,
 o8 "_law_anew" 54 fF 721 403,
 o1,
 o4,
 Bz "pen" 755 "many" "at" "cell" "found",
 o1,
 o6 "_law_take" 55,
 o7 "_law_take" 752 "_law_take" 213 2 405 760 761,
 o8 "_law_take" 55 fF 721 410,
 o1,
 o4,
 o6 "_law_same" 56,
 jT "_law_same" 763 226 2 412 766,
 o8 "_law_same" 56 fF 721 415,
 o1,
 o4,
 o6 "_law_tab" 57,
 jT "_law_tab" 769 240 2 417 772,
 o8 "_law_tab" 57 fF 721 420,
 o1,
 o4,
 o6 "_law_deed" 58,
 jT "_law_deed" 775 256 3 422 778,
 o8 "_law_deed" 58 fF 721 425,
 o1,
 o4,
 JI "pen" 784 "words" "places" "most" "deeds" "k" "again" "deed",
 o1,
 o6 "_law_machine" 59,
 o7 "_law_machine" 781 "_law_machine" 268 4 427 792 793,
 o8 "_law_machine" 59 fF 721 432,
 o1,
 o4,
 o6 "_law_row" 60,
 jT "_law_row" 795 279 3 434 798,
 o8 "_law_row" 60 fF 721 437,
 o1,
 o4,
 By "deed" 804 "end" "here" "own",
 o1,
 o6 "_law_after" 61,
 o7 "_law_after" 801 "_law_after" 286 2 439 808 809,
 o8 "_law_after" 61 fF 721 444,
 o1,
 o4,
 o6 "_law_begins" 62,
 jT "_law_begins" 811 298 1 446 814,
 o8 "_law_begins" 62 fF 721 449,
 o1,
 o4,
 Bz "machine" 820 "row" "found" "end" "number",
 o1,
 o6 "_law_ends" 63,
 o7 "_law_ends" 817 "_law_ends" 302 2 451 825 826,
 o8 "_law_ends" 63 fF 721 456,
 o1,
 o4,
 o6 "_law_price" 64,
 jT "_law_price" 828 309 2 458 831,
 o8 "_law_price" 64 fF 721 461,
 o1,
 o4,
 Gd "pen" 837 "machine" "rows" "way" "row" "at" "number",
 o1,
 o6 "_law_change" 65,
 o7 "_law_change" 834 "_law_change" 311 3 463 844 845,
 o8 "_law_change" 65 fF 721 468,
 o1,
 o4,
 mJ "shop" 850 "told",
 o1,
 o6 "_law_do" 66,
 o7 "_law_do" 847 "_law_do" 322 2 470 852 853,
 o8 "_law_do" 66 fF 721 475,
 o1,
 o4,
 n4 "machine" 858 "one" "other" "begin" "here" "there",
 o1,
 o6 "_law_parted" 67,
 o7 "_law_parted" 855 "_law_parted" 326 3 477 864 865,
 o8 "_law_parted" 67 fF 721 482,
 o1,
 o4,
 o1,
 o1,
 o6 "_law_orders" 68,
 o7 "_law_orders" 867 "_law_orders" 331 0 484 870 871,
 o8 "_law_orders" 68 fF 721 489,
 o1,
 o4,
 n4 "shop" 876 "machine" "row" "turn" "at" "found",
 o1,
 o6 "_law_right" 69,
 o7 "_law_right" 873 "_law_right" 333 4 491 882 883,
 o8 "_law_right" 69 fF 721 496]
noncomputable def kh:Nb->LH:=fun P=>[(2,{cls:=.none,data:=.dict #[]}),
 (3,{cls:=.type "dict",data:=.dict (eN P "__name__" 165 (.str fF 721)::kg3 P).toArray 73}),
 (501,jT "law" 885 345 1 498 888),
 (502,o8 "law" 70 fF 721 501)]++List.map (fun a=>(a,(JS P).getD (a-11) o1)) [20,21,30,31,47,48,50,51,62,63,74,75,86,87,98,99,110,111,119,120,126,127,133,134,140,141,147,148,152,153,157,158,164,165,171,172,178,179,185,186,187,193,194,198,199,205,206,210,211,217,218,224,225,231,232,236,237,243,244,250,251,257,258,264,265,266,272,273,279,280,284,285,291,292,298,299,312,313,319,320,326,327,333,334,347,348,354,355,361,362,368,369,375,376,378,379,389,390,396,397,403,404,410,411,415,416,420,421,425,426,432,433,437,438,444,445,449,450,456,457,461,462,468,469,475,476,482,483,489,490,496,497]
noncomputable def GH:List Addr:=[2,3,501,502]++[20,21,30,31,47,48,50,51,62,63,74,75,86,87,98,99,110,111,119,120,126,127,133,134,140,141,147,148,152,153,157,158,164,165,171,172,178,179,185,186,187,193,194,198,199,205,206,210,211,217,218,224,225,231,232,236,237,243,244,250,251,257,258,264,265,266,272,273,279,280,284,285,291,292,298,299,312,313,319,320,326,327,333,334,347,348,354,355,361,362,368,369,375,376,378,379,389,390,396,397,403,404,410,411,415,416,420,421,425,426,432,433,437,438,444,445,449,450,456,457,461,462,468,469,475,476,482,483,489,490,496,497]
theorem Ky:∀P,GH=(kh P).map (·.1):=fun _=>by kernel_rfl
noncomputable def kq:Mc:=PySem.W.view PySem.Challenge.pw_leastdeeds_k50_what_a_shop_tells [0,2,3,4,5,6,7,8,10,12,13,14,15,16,17,18,19,20,21,22,23,24,25,26,27,28,29,30,31,32,33,34,35,36,38,39,40,41,42,43,44,45,46,48,50,52,53,54,55,56,57,58,59,60,61,62,63,64,65,66,67,68,69,70]
abbrev kH:PySem.W.Hook:=PySem.W.kHook kh GH Ky
noncomputable def og:List Str:=["SORTS","NEW_WORDS"]
abbrev vi:=PySem.Challenge.rw_leastdeeds_k50_what_a_shop_tells.row
abbrev kX:LM->Bool:=fun s=>PySem.W.xlAt kq [] s&&PySem.W.recOk (PySem.W.RowW.records vi.toRowW) s
noncomputable def BP (P:Nb)(os:MD):MI:=⟨HD.treeOf ((((PySem.W.boot_heap P).objs.toList.set 3 ({cls:=.type "dict",data:=.dict (eN P "__name__" 165 (.str "leastdeeds.errors" 194)::JR P).toArray 17})))++JU P) 0 .nil,114,{},#[],{},319,os⟩
noncomputable def BO (P:Nb)(os:MD):MI:=⟨HD.treeOf ((((PySem.W.boot_heap P).objs.toList.set 3 ({cls:=.type "dict",data:=.dict (eN P "__name__" 165 (.str "leastdeeds.shop" 618)::JQ P).toArray 54})))++JT P) 0 .nil,384,{},#[],{},721,os⟩
noncomputable def BN (P:Nb)(os:MD):MI:=⟨HD.treeOf ((((PySem.W.boot_heap P).objs.toList.set 3 ({cls:=.type "dict",data:=.dict (eN P "__name__" 165 (.str fF 721)::JP P).toArray 72})))++JS P) 0 .nil,498,{},#[],{},885,os⟩
noncomputable def kE:Env:={scope:=PySem.Challenge.pw_leastdeeds_k50_what_a_shop_tells.main.scope,locals:=mainNs,globals:=mainNs,cells:=[],code:=.ref 13,frame:=some 14}
noncomputable def kP (w:Me)(os:MD):=HD.uu treeTable PySem.Challenge.pw_leastdeeds_k50_what_a_shop_tells w 11 (some (.ref 6)) 12 (HD.vK w.params os) (PySem.W.topStub PySem.Challenge.pw_leastdeeds_k50_what_a_shop_tells)
noncomputable def BJ (w:Me)(os:MD):=(kP w os).bind fun x=>HD.kj treeTable PySem.Challenge.pw_leastdeeds_k50_what_a_shop_tells w 11 (some (.ref 6)) 1535 x.1 (PySem.W.piecesOf ((PySem.W.behindTheImports PySem.Challenge.pw_leastdeeds_k50_what_a_shop_tells).take 9) kE (.body (PySem.W.behindTheImports PySem.Challenge.pw_leastdeeds_k50_what_a_shop_tells) kE) ⟨0,0,0,0⟩ [PySem.W.topFrame ⟨0,0,0,0⟩])
noncomputable def BG (w:Me)(os:MD):Option (Flow×MI×Code×Pos):=some (.next,BP w.params os,(.body (PySem.W.behindTheImports PySem.Challenge.pw_leastdeeds_k50_what_a_shop_tells) kE),⟨20,0,21,8⟩)
noncomputable def BI (w:Me)(os:MD):=HD.kj treeTable PySem.Challenge.pw_leastdeeds_k50_what_a_shop_tells w 11 (some (.ref 6)) 1623 (BP w.params os) (PySem.W.piecesOf (((PySem.W.behindTheImports PySem.Challenge.pw_leastdeeds_k50_what_a_shop_tells).drop 9).take 42) kE (.body (PySem.W.behindTheImports PySem.Challenge.pw_leastdeeds_k50_what_a_shop_tells) kE) ⟨20,0,21,8⟩ [PySem.W.topFrame ⟨0,0,0,0⟩])
noncomputable def BF (w:Me)(os:MD):Option (Flow×MI×Code×Pos):=some (.next,BO w.params os,(.body (PySem.W.behindTheImports PySem.Challenge.pw_leastdeeds_k50_what_a_shop_tells) kE),⟨148,0,194,20⟩)
noncomputable def BH (w:Me)(os:MD):=HD.kj treeTable PySem.Challenge.pw_leastdeeds_k50_what_a_shop_tells w 11 (some (.ref 6)) 556 (BO w.params os) (PySem.W.piecesOf ((((PySem.W.behindTheImports PySem.Challenge.pw_leastdeeds_k50_what_a_shop_tells).drop 9).drop 42).take 19) kE (.body (PySem.W.behindTheImports PySem.Challenge.pw_leastdeeds_k50_what_a_shop_tells) kE) ⟨148,0,194,20⟩ [PySem.W.topFrame ⟨0,0,0,0⟩])
noncomputable def BE (w:Me)(os:MD):Option (Flow×MI×Code×Pos):=some (.next,BN w.params os,(.body (PySem.W.behindTheImports PySem.Challenge.pw_leastdeeds_k50_what_a_shop_tells) kE),⟨333,0,344,15⟩)
noncomputable def kR (w:Me)(os:MD):=HD.gO treeTable PySem.Challenge.pw_leastdeeds_k50_what_a_shop_tells w 11 (some (.ref 6)) 3873 (BN w.params os) (PySem.W.restOf ((((PySem.W.behindTheImports PySem.Challenge.pw_leastdeeds_k50_what_a_shop_tells).drop 9).drop 42).drop 19) kE (.body (PySem.W.behindTheImports PySem.Challenge.pw_leastdeeds_k50_what_a_shop_tells) kE) ⟨333,0,344,15⟩ [PySem.W.topFrame ⟨0,0,0,0⟩])
abbrev Gz (P:Nb)(s:MI):=HD.kr PySem.Challenge.pw_leastdeeds_k50_what_a_shop_tells kq og kX true (PySem.W.boot_heap P) (fun s=>GH.map s.heap.get?) s.abs
noncomputable def BM (w:Me)(os:MD):=(kR w os).map fun s=>(Gz w.params s).1
noncomputable def BL (w:Me)(os:MD):=(kR w os).map fun s=>(Gz w.params s).2.1
noncomputable def BK (w:Me)(os:MD):=(kR w os).map fun s=>(Gz w.params s).2.2
noncomputable def BS (w:Me):=some true
noncomputable def BR (w:Me):=some (PySem.W.openGood kq og)
noncomputable def BQ (w:Me):=some ((kh w.params).map fun p=>some p.2)
noncomputable def _root_.PySem.W.Fast.tw11431438371470094317:Mc:=PySem.Challenge.pw_leastdeeds_k50_what_a_shop_tells
theorem _root_.PySem.W.Fast.te11431438371470094317:PySem.Challenge.pw_leastdeeds_k50_what_a_shop_tells=PySem.W.Fast.tw11431438371470094317:=rfl
noncomputable def _root_.PySem.W.Fast.tw3653850643925823204:Nb->LH:=K50.kh
theorem _root_.PySem.W.Fast.te3653850643925823204:K50.kh=PySem.W.Fast.tw3653850643925823204:=rfl
noncomputable def _root_.PySem.W.Fast.tw16633730313272829391:Nb->MD->MI:=K50.BP
theorem _root_.PySem.W.Fast.te16633730313272829391:K50.BP=PySem.W.Fast.tw16633730313272829391:=rfl
noncomputable def _root_.PySem.W.Fast.tw9120732972938915132:Nb->MD->MI:=K50.BO
theorem _root_.PySem.W.Fast.te9120732972938915132:K50.BO=PySem.W.Fast.tw9120732972938915132:=rfl
noncomputable def _root_.PySem.W.Fast.tw14981296115713688120:Nb->MD->MI:=K50.BN
theorem _root_.PySem.W.Fast.te14981296115713688120:K50.BN=PySem.W.Fast.tw14981296115713688120:=rfl
theorem KN:BM=BM:=rfl
name_quick kq1_50 for BM by KN
theorem KJ:BL=BL:=rfl
name_quick kq2_50 for BL by KJ
theorem KP:BR=BR:=rfl
name_quick kg2_50 for BR by KP
theorem KI:BK=BK:=rfl
name_quick kq3_50 for BK by KI
theorem KO:BQ=BQ:=rfl
name_quick kg3_50 for BQ by KO
theorem KH:BJ=BJ:=rfl
name_quick kua50 for BJ by KH
theorem KC:BG=BG:=rfl
name_quick kva50 for BG by KC
theorem KG:BI=BI:=rfl
name_quick kub50 for BI by KG
theorem KA:BF=BF:=rfl
name_quick kvb50 for BF by KA
theorem KD:BH=BH:=rfl
name_quick kuc50 for BH by KD
theorem Kz:BE=BE:=rfl
name_quick kvc50 for BE by Kz
theorem xS:∀(w:Me) (os:MD),PySem.W.Fast.kua50 (w.withFollow "special-get-raises" false) os=PySem.W.Fast.kva50 (w.withFollow "special-get-raises" false) os:=fun w os=>by kernel_rfl
theorem Ar:∀(w:Me) (os:MD),PySem.W.Fast.kua50 (w.withFollow "special-get-raises" true) os=PySem.W.Fast.kva50 (w.withFollow "special-get-raises" true) os:=fun w os=>by kernel_rfl
theorem ka0:∀(w:Me) (os:MD),BJ w os=BG w os:=fun w os=>by
 rw [PySem.W.Fast.kua50_eq,PySem.W.Fast.kva50_eq]
 exact PySem.W.byRow2 "special-get-raises" (P:=fun w=>PySem.W.Fast.kua50 w os=PySem.W.Fast.kva50 w os) (fun w=>xS w os) (fun w=>Ar w os) w
theorem xR:∀(w:Me) (os:MD),PySem.W.Fast.kub50 (w.withFollow "special-get-raises" false) os=PySem.W.Fast.kvb50 (w.withFollow "special-get-raises" false) os:=fun w os=>by kernel_rfl
theorem Aq:∀(w:Me) (os:MD),PySem.W.Fast.kub50 (w.withFollow "special-get-raises" true) os=PySem.W.Fast.kvb50 (w.withFollow "special-get-raises" true) os:=fun w os=>by kernel_rfl
theorem ka1:∀(w:Me) (os:MD),BI w os=BF w os:=fun w os=>by
 rw [PySem.W.Fast.kub50_eq,PySem.W.Fast.kvb50_eq]
 exact PySem.W.byRow2 "special-get-raises" (P:=fun w=>PySem.W.Fast.kub50 w os=PySem.W.Fast.kvb50 w os) (fun w=>xR w os) (fun w=>Aq w os) w
theorem xQ:∀(w:Me) (os:MD),PySem.W.Fast.kuc50 (w.withFollow "special-get-raises" false) os=PySem.W.Fast.kvc50 (w.withFollow "special-get-raises" false) os:=fun w os=>by kernel_rfl
theorem Ap:∀(w:Me) (os:MD),PySem.W.Fast.kuc50 (w.withFollow "special-get-raises" true) os=PySem.W.Fast.kvc50 (w.withFollow "special-get-raises" true) os:=fun w os=>by kernel_rfl
theorem ka2:∀(w:Me) (os:MD),BH w os=BE w os:=fun w os=>by
 rw [PySem.W.Fast.kuc50_eq,PySem.W.Fast.kvc50_eq]
 exact PySem.W.byRow2 "special-get-raises" (P:=fun w=>PySem.W.Fast.kuc50 w os=PySem.W.Fast.kvc50 w os) (fun w=>xQ w os) (fun w=>Ap w os) w
theorem xO:∀(w:Me) (os:MD),PySem.W.Fast.kq1_50 (w.withFollow "special-get-raises" false) os=BS (w.withFollow "special-get-raises" false):=fun w os=>by kernel_rfl
theorem Ao:∀(w:Me) (os:MD),PySem.W.Fast.kq1_50 (w.withFollow "special-get-raises" true) os=BS (w.withFollow "special-get-raises" true):=fun w os=>by kernel_rfl
theorem kl1:∀(w:Me) (os:MD),BM w os=BS w:=fun w os=>by
 rw [PySem.W.Fast.kq1_50_eq]
 exact PySem.W.byRow2 "special-get-raises" (P:=fun w=>PySem.W.Fast.kq1_50 w os=BS w) (fun w=>xO w os) (fun w=>Ao w os) w
theorem xN:∀(w:Me) (os:MD),PySem.W.Fast.kq2_50 (w.withFollow "special-get-raises" false) os=PySem.W.Fast.kg2_50 (w.withFollow "special-get-raises" false):=fun w os=>by kernel_rfl
theorem An:∀(w:Me) (os:MD),PySem.W.Fast.kq2_50 (w.withFollow "special-get-raises" true) os=PySem.W.Fast.kg2_50 (w.withFollow "special-get-raises" true):=fun w os=>by kernel_rfl
theorem kl2:∀(w:Me) (os:MD),BL w os=BR w:=fun w os=>by
 rw [PySem.W.Fast.kq2_50_eq,PySem.W.Fast.kg2_50_eq]
 exact PySem.W.byRow2 "special-get-raises" (P:=fun w=>PySem.W.Fast.kq2_50 w os=PySem.W.Fast.kg2_50 w) (fun w=>xN w os) (fun w=>An w os) w
theorem xM:∀(w:Me) (os:MD),PySem.W.Fast.kq3_50 (w.withFollow "special-get-raises" false) os=PySem.W.Fast.kg3_50 (w.withFollow "special-get-raises" false):=fun w os=>by kernel_rfl
theorem Am:∀(w:Me) (os:MD),PySem.W.Fast.kq3_50 (w.withFollow "special-get-raises" true) os=PySem.W.Fast.kg3_50 (w.withFollow "special-get-raises" true):=fun w os=>by kernel_rfl
theorem kl3:∀(w:Me) (os:MD),BK w os=BQ w:=fun w os=>by
 rw [PySem.W.Fast.kq3_50_eq,PySem.W.Fast.kg3_50_eq]
 exact PySem.W.byRow2 "special-get-raises" (P:=fun w=>PySem.W.Fast.kq3_50 w os=PySem.W.Fast.kg3_50 w) (fun w=>xM w os) (fun w=>Am w os) w
theorem kp:∀(w:Me) (os:MD),(kP w os).map (·.2)=some ⟨denote treeTable (.body (PySem.W.behindTheImports PySem.Challenge.pw_leastdeeds_k50_what_a_shop_tells) kE),(.body (PySem.W.behindTheImports PySem.Challenge.pw_leastdeeds_k50_what_a_shop_tells) kE),⟨0,0,0,0⟩,[PySem.W.topFrame ⟨0,0,0,0⟩]⟩:=fun w os=>by kernel_rfl
theorem IF:PySem.W.LeftO vi.prog kq og kX kH.obs kH.val 7600:=HD.tD (m0:=11) (ann:=some (.ref 6)) (PySem.W.boot_open (by rfl) (by decide) (fun _=>rfl)) (fun w=>by kernel_rfl) fun w os=>HD.yn (J:=9) (kp w os) (by kernel_rfl) (ka0 w os) (HD.sO (J:=42) (ka1 w os) (HD.sO (J:=19) (ka2 w os) (HD.ym (kl1 w os) (kl2 w os) (kl3 w os))))
end K50
namespace L2
open PySem PySem.Spec PyProof.Rows
abbrev Key:=Sum Int Str
noncomputable def qP:Key->LI->Bool
 |.inl k,v=>Value.isInt k v
 |.inr x,v=>Value.isStrOf x v
noncomputable def Kx (w:Me):Key->Int
 |.inl k=>hashInt k
 |.inr x=>hashStr w x
theorem cQ:∀{k:Key}{v:LI},qP k v=true->(∃i t,k=Sum.inl i/\v=Value.int i t)\/(∃x t,k=Sum.inr x/\v=Value.str x t)
 | .inl i, v, h => by
   obtain ⟨t,e⟩:=Value.isInt_shape (k:=i) (v:=v) h
   exact .inl ⟨i,t,rfl,e⟩
 | .inr x, v, h => by
   obtain ⟨t,e⟩:=Value.isStrOf_shape (x:=x) (v:=v) h
   exact .inr ⟨x,t,rfl,e⟩
theorem jt (x:Str)(t:Tok):qP (.inr x) (.str x t)=true:=by simp [qP,Value.isStrOf]
theorem GG (a b:Int):decide ((Sum.inl a:Key)=Sum.inl b)=(a==b):=by
 by_cases e:a=b
 ·subst e;simp
 ·have h:¬ (Sum.inl a:Key)=Sum.inl b:=fun q=>e (Sum.inl.inj q)
  rw [decide_eq_false h]
  exact (Mx.mpr e).symm
theorem GC (a b:Str):decide ((Sum.inr a:Key)=Sum.inr b)=decide (a=b):=by
 by_cases e:a=b
 ·subst e;simp
 ·have h:¬ (Sum.inr a:Key)=Sum.inr b:=fun q=>e (Sum.inr.inj q)
  rw [decide_eq_false h,decide_eq_false e]
theorem GF (a:Int)(b:Str):decide ((Sum.inl a:Key)=Sum.inr b)=false:=decide_eq_false (fun q=>nomatch q)
theorem GD (a:Str)(b:Int):decide ((Sum.inr a:Key)=Sum.inl b)=false:=decide_eq_false (fun q=>nomatch q)
noncomputable def jV (prog:Mc)(w:Me):PySem.KeyKind prog w Key where
 is:=qP
 hash:=Kx w
 inj:=fun v a b ha hb=>by
  rcases cQ ha with ⟨i,t,rfl,rfl⟩|⟨x,t,rfl,rfl⟩
  ·rcases cQ hb with ⟨j,u,rfl,e⟩|⟨y,u,rfl,e⟩
   ·injection e with e1 _;rw [e1]
   ·exact nomatch e
  ·rcases cQ hb with ⟨j,u,rfl,e⟩|⟨y,u,rfl,e⟩
   ·exact nomatch e
   ·injection e with e1 _;rw [e1]
 byValue:=fun k v h=>by
  rcases cQ h with ⟨i,t,rfl,rfl⟩|⟨x,t,rfl,rfl⟩<;>rfl
 pyHash:=fun hv h=>by
  rcases cQ hv with ⟨i,t,rfl,rfl⟩|⟨x,t,rfl,rfl⟩
  ·exact wpAny_pyHash_int h
  ·exact wpAny_pyHash_str h
 eqBool:=fun hu hv h=>by
  rcases cQ hu with ⟨i,t,rfl,rfl⟩|⟨x,t,rfl,rfl⟩
  ·rcases cQ hv with ⟨j,u,rfl,rfl⟩|⟨y,u,rfl,rfl⟩
   ·rw [GG] at h;exact wpAny_eqBool_int h
   ·rw [GF] at h;exact SeqAt.EqAt.int_str i t y u _ _ _ _ h
  ·rcases cQ hv with ⟨j,u,rfl,rfl⟩|⟨y,u,rfl,rfl⟩
   ·rw [GD] at h;exact SeqAt.EqAt.str_int x t j u _ _ _ _ h
   ·rw [GC] at h;exact wpAny_eqBool_str h
 «strs»:=fun k x t v h=>by
  rcases cQ h with ⟨i,u,rfl,e⟩|⟨y,u,rfl,e⟩
  ·exact nomatch e
  ·injection e with e1 _
   subst e1
   cases v<;>rfl
end L2
namespace L2
open PySem PySem.Spec PyProof.Rows
inductive V where
 |non|bl (b:Bool)|int (i:Int)|str (x:Str)|byt (b:Array UInt8)|flt (b:UInt64)|ref (a:Addr)|ty (n:String)
 deriving DecidableEq
noncomputable def RelV:V->LI->Prop
 |.non,u=>u=Value.none
 |.bl b,u=>u=Value.bool b
 |.int i,u=>∃t,u=Value.int i t
 |.str x,u=>∃t,u=Value.str x t
 |.byt b,u=>∃t,u=Value.bytes b t
 |.flt b,u=>∃t,u=Value.float b t
 |.ref a,u=>u=Value.ref a
 |.ty n,u=>u=Value.type n
abbrev Vals:List V->List LI->Prop:=NT RelV
theorem Vals.length {xs:List V}{us:List LI}(r:Vals xs us):xs.length=us.length:=Paired.length r
theorem Vals.get:∀{xs:List V}{us:List LI}{i:Nat}{x:V},Vals xs us->xs[i]?=some x->∃u,us[i]?=some u/\RelV x u
 |_,_,_,_,.nil,e=>by simp at e
 |_,_,0,_,.cons r _,e=>by simp at e;subst e;exact ⟨_,rfl,r⟩
 | _, _, i + 1, x, .cons _ t, e => by
   obtain ⟨u,h1,h2⟩:=Vals.get (i:=i) (x:=x) t (by simpa using e)
   exact ⟨u,by simpa using h1,h2⟩
theorem Vals.set {x:V}{u:LI}(r:RelV x u):∀{xs:List V}{us:List LI} (i:Nat),Vals xs us->Vals (xs.set i x) (us.set i u)
 |_,_,_,.nil=>.nil
 |_,_,0,.cons _ t=>.cons r t
 |_,_,i+1,.cons q t=>.cons q (Vals.set r i t)
theorem Vals.append:∀{xs ys:List V}{us ws:List LI},Vals xs us->Vals ys ws->Vals (xs++ys) (us++ws)
 |_,_,_,_,.nil,s=>s
 |_,_,_,_,.cons r t,s=>.cons r (Vals.append t s)
theorem Vals.take:∀{xs:List V}{us:List LI} (n:Nat),Vals xs us->Vals (xs.take n) (us.take n)
 |_,_,0,_=>.nil
 |_,_,_+1,.nil=>.nil
 |_,_,n+1,.cons r t=>.cons r (Vals.take n t)
theorem Vals.drop:∀{xs:List V}{us:List LI} (n:Nat),Vals xs us->Vals (xs.drop n) (us.drop n)
 |_,_,0,r=>r
 |_,_,_+1,.nil=>.nil
 |_,_,n+1,.cons _ t=>Vals.drop n t
noncomputable def jK:Option V->Option LI->Prop
 |some v,some u=>RelV v u
 |none,none=>True
 |_,_=>False
noncomputable def KV {κ:Type}:List (κ×V)->List (κ×LI)->Prop:=NT fun (p:κ×V) (q:κ×LI)=>p.1=q.1/\RelV p.2 q.2
noncomputable def kV:Key->V
 |.inl i=>.int i
 |.inr x=>.str x
inductive HO where
 |lst (xs:List V)
 |tup (xs:List V)
 |dK (kvs:List (Key×V))|dT (kvs:List (List Key×V))
 |set (S:Int->Bool) (n:Nat)
 |ins (C dx:Addr) (fs:List (Str×V))
 |own (x:Addr)
 |xd (fs:List (Str×V))
 |met (f x:Addr)
 |rng (lo hi:Int)
 |frz (o:Obj) (u:HO)
 |tbl (ps:Array LI)
 |ext (φ:Heap->Prop)
abbrev Hp:=Addr->Option HO
noncomputable def upd (H:Hp)(a:Addr)(o:HO):Hp:=fun b=>if b=a then some o else H b
theorem bt {H:Hp}{a:Addr}{o:HO}:upd H a o a=some o:=by unfold upd;rw [if_pos rfl]
theorem ax {H:Hp}{a b:Addr}{o:HO}(h:b≠a):upd H a o b=H b:=by unfold upd;rw [if_neg h]
theorem aN {H:Hp}{a b:Addr}{o:HO}(h:H a=some o)(h':H b=none):a≠b:=by
 intro e;subst e;rw [h] at h';cases h'
section
variable (P:Mc)(w:Me)
noncomputable def cj (H:Hp)(h:Heap)(a:Addr):HO->Prop
 |.lst xs=>xs.length<=sizeLine/\∃(its:List LI) (n:Nat),Vals xs its/\h.get? a=some {cls:=.type "list",data:=.seq its.toArray n}
 |.tup xs=>xs.length<=sizeLine/\∃its:List LI,Vals xs its/\IsTup h a its.toArray
 |.dK kvs=>kvs.length<=sizeLine/\(a==sysModules)=false/\∃vs,KV kvs vs/\h.DictOf (jV P w) a vs
 |.dT kvs=>kvs.length<=sizeLine/\(a==sysModules)=false/\∃xs:List (List Key×Addr×LI),
  NT (fun (p:List Key×V) (q:List Key×Addr×LI)=>p.1=q.1/\H q.2.1=some (.tup (p.1.map kV))/\RelV p.2 q.2.2) kvs xs/\
  ∃o es ep,h.get? a=some o/\o.ExactDict/\o.data=.dict es ep/\es.toList=xs.map (entryOfKey (tupleKind (jV P w)))/\(xs.map (·.1)).Nodup
 |.set S n=>h.SetOf (intKind P w) a S n
 |.ins C dx fs=>H dx=some (.own a)/\fs.length<=1000/\dx≠a/\h.get? a=some (PySem.W.instObj C dx)/\
  ∃mA,h.Ns1 dx mA/\(∀f,jK (fs.lookup f) (mA f))/\PySem.Within mA (fs.map (·.1))
 |.own _=>∃o,h.get? a=some o
 |.xd fs=>∃mA,h.Ns1 a mA/\∀f,jK (fs.lookup f) (mA f)
 |.rng lo hi=>∃t u v,h.get? a=some {cls:=.type "range",data:=.fields #[.int lo t,.int hi u,.int 1 v]}
 |.frz o u=>h.get? a=some o/\cj H h a u
 |.tbl ps=>h.get? a=some {cls:=.none,data:=.fields ps}
 |.met f x=>h.get? a=some (PySem.W.methodObj (.ref f) (.ref x))
 |.ext φ=>φ h/\(∃o,h.get? a=some o)/\∀h1 h2:Heap,φ h1->(∀o,h1.get? a=some o->h2.get? a=some o)->φ h2
noncomputable def d5 (H:Hp)(h:Heap):Prop:=∀a o,H a=some o->cj P w H h a o
end
section
variable {P:Mc}{w:Me}{H H':Hp}{h h':Heap}{a:Addr}{o:HO}
theorem cj.lt (x:cj P w H h a o):a<h.objs.size:=by
 cases o with
 |lst xs=>obtain ⟨_,_,_,_,e⟩:=x;exact L4 e
 |tup xs=>obtain ⟨_,_,_,p⟩:=x;exact p.lt
 |dK kvs=>obtain ⟨_,_,_,_,o,_,_,e,_⟩:=x;exact L4 e
 |dT kvs=>obtain ⟨_,_,_,_,o,_,_,e,_⟩:=x;exact L4 e
 |set S n=>obtain ⟨o,_,_,_,e,_⟩:=x;exact L4 e
 |ins C dx fs=>obtain ⟨_,_,_,e,_⟩:=x;exact L4 e
 |own y=>obtain ⟨_,e⟩:=x;exact L4 e
 |xd fs=>obtain ⟨_,⟨_,_,_,e,_⟩,_⟩:=x;exact L4 e
 |rng lo hi=>obtain ⟨_,_,_,e⟩:=x;exact L4 e
 |frz ob u=>obtain ⟨e,_⟩:=x;exact L4 e
 |tbl ps=>exact L4 (show h.get? a=some _ from x)
 |met f y=>exact L4 (show h.get? a=some _ from x)
 |ext φ=>obtain ⟨_,⟨_,e⟩,_⟩:=x;exact L4 e
theorem NT.mapP {α β:Type}{F G:α->β->Prop}:∀{l₁:List α}{l₂:List β},NT F l₁ l₂->(∀a b,F a b->G a b)->NT G l₁ l₂
 |_,_,.nil,_=>.nil
 |_,_,.cons r t,f=>.cons (f _ _ r) (NT.mapP t f)
theorem cj.stay (x:cj P w H h a o)(k:∀b u,(b=a\/H b=some (.own a))->h.get? b=some u->h'.get? b=some u)
 (ho:∀b,H b=some (.own a)->H' b=some (.own a)) (ht:∀b xs,H b=some (.tup xs)->H' b=some (.tup xs)):cj P w H' h' a o:=by
 induction o with
 |lst xs=>obtain ⟨z,its,n,r,e⟩:=x;exact ⟨z,its,n,r,k _ _ (.inl rfl) e⟩
 |tup xs=>obtain ⟨z,its,r,ob,e,c⟩:=x;exact ⟨z,its,r,ob,k _ _ (.inl rfl) e,c⟩
 |dK kvs=>obtain ⟨z,y,vs,r,ob,es,ep,e,c⟩:=x;exact ⟨z,y,vs,r,ob,es,ep,k _ _ (.inl rfl) e,c⟩
 | dT kvs =>
   obtain ⟨z,y,xs,r,ob,es,ep,e,c⟩:=x
   exact ⟨z,y,xs,NT.mapP r fun p q z=>⟨z.1,ht _ _ z.2.1,z.2.2⟩,ob,es,ep,k _ _ (.inl rfl) e,c⟩
 |set S n=>obtain ⟨ob,es,ep,t,e,c⟩:=x;exact ⟨ob,es,ep,t,k _ _ (.inl rfl) e,c⟩
 | ins C dx fs =>
   obtain ⟨d,z,ne,e,mA,⟨od,es,ep,e2,c⟩,r⟩:=x
   exact ⟨ho _ d,z,ne,k _ _ (.inl rfl) e,mA,⟨od,es,ep,k _ _ (.inr d) e2,c⟩,r⟩
 |own y=>obtain ⟨ob,e⟩:=x;exact ⟨ob,k _ _ (.inl rfl) e⟩
 |xd fs=>obtain ⟨mA,⟨od,es,ep,e,c⟩,r⟩:=x;exact ⟨mA,⟨od,es,ep,k _ _ (.inl rfl) e,c⟩,r⟩
 |rng lo hi=>obtain ⟨t,u,v,e⟩:=x;exact ⟨t,u,v,k _ _ (.inl rfl) e⟩
 |frz ob u ih=>obtain ⟨e,q⟩:=x;exact ⟨k _ _ (.inl rfl) e,ih q⟩
 | tbl ps =>
   have e:h.get? a=some {cls:=.none,data:=.fields ps}:=x
   show h'.get? a=some {cls:=.none,data:=.fields ps}
   exact k a _ (.inl rfl) e
 | met f y =>
   have e:h.get? a=some (PySem.W.methodObj (.ref f) (.ref y)):=x
   show h'.get? a=some (PySem.W.methodObj (.ref f) (.ref y))
   exact k a _ (.inl rfl) e
 |ext φ=>obtain ⟨p,⟨o,e⟩,st⟩:=x;exact ⟨st _ _ p fun o q=>k _ _ (.inl rfl) q,⟨o,k _ _ (.inl rfl) e⟩,st⟩
theorem d5.lt (x:d5 P w H h)(e:H a=some o):a<h.objs.size:=(x a o e).lt
theorem d5.fresh (x:d5 P w H h)(e:h.objs.size<=a):H a=none:=by
 cases q:H a with
 |none=>rfl
 |some u=>exact absurd (L5 (x.lt q) e) (MX _)
theorem d5.kept (x:d5 P w H h)(k:∀b u,h.get? b=some u->h'.get? b=some u):d5 P w H h':=fun a o e=>
 (x a o e).stay (fun b u _ q=>k b u q) (fun _ q=>q) fun _ _ q=>q
theorem d5.laid (x:d5 P w H h)(k:∀b u,h.get? b=some u->h'.get? b=some u)(hp:h.objs.size<=a)(new:cj P w (upd H a o) h' a o):d5 P w (upd H a o) h':=fun b u e=>by
 have hn:=x.fresh hp
 by_cases hb:b=a
 ·subst hb;rw [bt] at e;cases e;exact new
 ·rw [ax hb] at e
  exact (x b u e).stay (fun c v _ q=>k c v q) (fun c q=>by rw [ax (aN q hn)];exact q) fun c xs q=>by rw [ax (aN q hn)];exact q
end
noncomputable def Rd (H:Hp)(a:Addr)(u:HO):Prop:=H a=some u\/∃o,H a=some (.frz o u)
theorem Rd.ok {P:Mc}{w:Me}{H:Hp}{h:Heap}{a:Addr}{u:HO}(r:Rd H a u)(x:d5 P w H h):cj P w H h a u:=by
 rcases r with r|⟨o,r⟩
 ·exact x a u r
 ·obtain ⟨_,q⟩:=x a _ r
  exact q
noncomputable def Cc:Option HO->Prop
 |some (.lst _)=>True
 |some (.dK _)=>True
 |some (.dT _)=>True
 |some (.set _ _)=>True
 |some (.ins _ _ _)=>True
 |some (.ext _)=>True
 |_=>False
section
variable {P:Mc}{w:Me}{H:Hp}{h h':Heap}{x e:Addr}{o':HO}
theorem d5.write (ok:d5 P w H h)(mu:Cc (H x))(he:e=x\/H e=some (.own x))(k:∀b u,b≠e->h.get? b=some u->h'.get? b=some u)(heo:∃u,h'.get? e=some u)
 (new:cj P w (upd H x o') h' x o'):d5 P w (upd H x o') h':=fun b u q=>by
 have nown:∀c y,H c=some (.own y)->c≠x:=fun c y r z=>by subst z;rw [r] at mu;exact mu
 have ntup:∀c xs,H c=some (.tup xs)->c≠x:=fun c xs r z=>by subst z;rw [r] at mu;exact mu
 by_cases hb:b=x
 ·subst hb;rw [bt] at q;cases q;exact new
 ·rw [ax hb] at q
  by_cases hbe:b=e
  ·have q':H b=some (.own x):=by
    rcases he with z|z
    ·exact absurd (hbe.trans z) hb
    ·rw [hbe];exact z
   rw [q] at q';cases q'
   obtain ⟨v,hv⟩:=heo
   exact ⟨v,by rw [hbe];exact hv⟩
  ·refine (ok b u q).stay (fun c v hc r=>k c v ?_ r) (fun c r=>by rw [ax (nown c b r)];exact r) fun c xs r=>by rw [ax (ntup c xs r)];exact r
   rcases hc with rfl|hc
   ·exact hbe
   ·rintro rfl
    rcases he with z|z
    ·exact nown c b hc z
    ·rw [hc] at z;cases z;exact hb rfl
end
structure Un (fs ex:List Addr) (H H':Hp) (h h':Heap):Prop where
 keep:∀b o,h.get? b=some o->H b=none->b∉fs->b∉ex->h'.get? b=some o
 slot:∀b o,h.get? b=some o->H b=none->b∈fs->b∉ex->∃sl,h'.get? b=some {o with slots:=sl}
 free:∀b o,h.get? b=some o->H b=none->b∉ex->H' b=none
 there:∀b o,h.get? b=some o->b∉ex->∃o',h'.get? b=some o'
 tups:∀b xs,H b=some (.tup xs)->H' b=some (.tup xs)
 frzs:∀b o u,H b=some (.frz o u)->H' b=some (.frz o u)
 tbls:∀b ps,H b=some (.tbl ps)->∃more,H' b=some (.tbl (ps++more))
section
variable {fs fs' ex ex':List Addr}{H H1 H2:Hp}{h h1 h2 h':Heap}{a x e:Addr}{o:HO}
theorem Un.any (u:Un fs ex H H1 h h1){b:Addr}{ob:Obj}(q:h.get? b=some ob)(n:H b=none)(hx:b∉ex):∃sl,h1.get? b=some {ob with slots:=sl}:=by
 by_cases hb:b∈fs
 ·exact u.slot b ob q n hb hx
 ·exact ⟨ob.slots,u.keep b ob q n hb hx⟩
theorem Un.kept (k:∀b u,h.get? b=some u->h'.get? b=some u):Un fs ex H H h h':=
 ⟨fun b ob q _ _ _=>k b ob q,fun b ob q _ _ _=>⟨ob.slots,k b ob q⟩,fun _ _ _ n _=>n,fun b ob q _=>⟨ob,k b ob q⟩,fun _ _ q=>q,fun _ _ _ q=>q,fun _ ps q=>⟨#[],by rw [q];simp⟩⟩
theorem Un.refl:Un fs ex H H h h:=Un.kept fun _ _ q=>q
theorem Un.laid (k:∀b u,h.get? b=some u->h'.get? b=some u)(hp:h.objs.size<=a)(hn:H a=none):Un fs ex H (upd H a o) h h' where
 keep:=fun b u q _ _ _=>k b u q
 slot:=fun b u q _ _ _=>⟨u.slots,k b u q⟩
 free:=fun b u q n _=>by rw [ax (MA (L5 (L4 q) hp))];exact n
 there:=fun b u q _=>⟨u,k b u q⟩
 tups:=fun b xs q=>by rw [ax (aN q hn)];exact q
 frzs:=fun b u xs q=>by rw [ax (aN q hn)];exact q
 tbls:=fun b ps q=>⟨#[],by rw [ax (aN q hn),q];simp⟩
theorem Un.write (mu:Cc (H x))(he:e=x\/H e=some (.own x))(k:∀b u,b≠e->h.get? b=some u->h'.get? b=some u)(heo:∃u,h'.get? e=some u):Un fs ex H (upd H x o) h h':=by
 have hx:∀b,H b=none->b≠x:=fun b n z=>by subst z;rw [n] at mu;exact mu
 have hb:∀b,H b=none->b≠e:=fun b n z=>by
  subst z
  rcases he with r|r
  ·exact hx b n r
  ·rw [n] at r;cases r
 have hm:∀b u,H b=some u->¬ Cc (some u)->b≠x:=fun b u q nm z=>by subst z;rw [q] at mu;exact nm mu
 refine ⟨fun b u q n _ _=>k b u (hb b n) q,fun b u q n _ _=>⟨u.slots,k b u (hb b n) q⟩,fun b u q n _=>by rw [ax (hx b n)];exact n,fun b u q _=>?_,
  fun b xs q=>by rw [ax (hm b _ q fun z=>z)];exact q,fun b u xs q=>by rw [ax (hm b _ q fun z=>z)];exact q,fun b ps q=>⟨#[],by rw [ax (hm b _ q fun z=>z),q];simp⟩⟩
 by_cases hbe:b=e
 ·subst hbe;exact heo
 ·exact ⟨u,k b u hbe q⟩
end
noncomputable def Bk (h:Heap)(H:Hp):List Addr:=(List.range h.objs.size).filter fun a=>(H a).isSome
noncomputable def ky (h:Heap)(H:Hp):Heap:=PySem.W.hideAll h (Bk h H)
theorem ya (h:Heap)(H:Hp):(ky h H).objs.size=h.objs.size:=PySem.W.hideAll_size _ _
theorem Ax {h:Heap}{H:Hp}{b:Addr}{o:Obj}(e:h.get? b=some o)(n:H b=none):(ky h H).get? b=some o:=
 PySem.W.hideAll_get _ e fun hm=>by
  have q:(H b).isSome=true:=(List.mem_filter.mp hm).2
  rw [n] at q;simp at q
theorem DG {h:Heap}{H:Hp}{b:Addr}{o:Obj}(e:(ky h H).get? b=some o):h.get? b=some o/\H b=none:=by
 have e':h.get? b=some o:=PySem.W.of_hideAll (Bk h H) e
 refine ⟨e',?_⟩
 cases q:H b with
 |none=>rfl
 | some x =>
   have hm:b∈Bk h H:=List.mem_filter.mpr ⟨List.mem_range.mpr (L4 e'),by simp [q]⟩
   have z:(ky h H).get? b=none:=PySem.W.hideAll_none (Bk h H) hm
   rw [z] at e;cases e
end L2
namespace L2
open PySem PySem.Spec PyProof.Rows
structure Mod (K:LH) (mg:Str->Option LI) (base:Heap):Prop where
 kin:K.In base
 glob:base.Ns mainGlobals mg
 blt:∃mb,base.Ns builtinsNs mb/\∀x:Str,x≠"__name__"->mb x=bootBuiltins x
 nolimit:base.NoLimit
structure Cx where
 prog:Mc
 w:Me
 K:LH
 mg:Str->Option LI
 base:Heap
 A:MK
 N:List Str
 s₀:LM
 H₀:Hp
 env:Env
 outer:List Env
 stack:List Env
 ex:List Addr
 fn:Str->Bool
 calm:Bool
 pn:List (Addr×Obj)
 xe:LI->LM->Prop
noncomputable def fG (l:List Env):List Addr:=l.filterMap (·.frame)
abbrev Cx.fs (X:Cx):List Addr:=fG X.outer
noncomputable def qC (sc:Scope)(x:Str):Prop:=sc.names.lookup x=some .local\/sc.names.lookup x=some .cell\/sc.names.lookup x=some .free
noncomputable def Loc (sc:Scope)(x:Str):Prop:=sc.names.lookup x=some .local\/sc.names.lookup x=some .cell
noncomputable def Look (env:Env)(h:Heap)(m:Str->Option LI)(x:Str)(u:LI):Prop:=
 (env.kindOf x=some .local/\m x=some u)\/((env.kindOf x=some .cell\/env.kindOf x=some .free)/\∃c,env.cells.lookup x=some c/\h.IsCell c (some u))
structure Cx.Ok (X:Cx):Prop where
 mod:Mod X.K X.mg X.base
 kind:X.env.scope.kind=.function
 glob:X.env.globals=mainGlobals
 blt:X.env.builtins=builtinsNs
 above:X.s₀.heap.objs.size<=X.env.locals
 inj:∀x y c,X.env.cells.lookup x=some c->X.env.cells.lookup y=some c->x=y
 has:∀x,(X.env.kindOf x=some .cell\/X.env.kindOf x=some .free)->∃c,X.env.cells.lookup x=some c
 cab:∀x c,X.fn x=true->X.env.cells.lookup x=some c->X.s₀.heap.objs.size<=c
 hd:X.calm=true->X.A.handled=none
 frames:X.A.frames=some X.stack
 stk:X.stack=X.outer\/(X.stack=X.env::X.outer/\X.env.frame=some X.env.locals)
 exf:∀b∈X.ex,b≠X.env.locals/\∀x c,X.env.cells.lookup x=some c->c≠b
 bs:∀b o,X.base.get? b=some o->X.s₀.heap.get? b=some o/\X.H₀ b=none
 bsz:X.base.objs.size<=X.s₀.heap.objs.size
 noex:∀b o,X.base.get? b=some o->b∉X.ex
 exfs:∀b∈X.ex,b∉X.fs
 funs:X.s₀.heap.FunFrames X.base X.outer
 frf:∀b∈X.fs,X.H₀ b=none
structure Inv (X:Cx) (pins:List (Addr×Obj)) (σ:List (Option V)) (H:Hp) (s:LM):Prop where
 ok:X.Ok
 os:s.os=X.s₀.os
 bare:AllBare s.gens
 base:Un X.fs X.ex X.H₀ H X.s₀.heap s.heap
 loc:∃m,s.heap.Ns X.env.locals m/\∀(i:Nat) (x:Str) (v:V),X.N[i]?=some x->σ[i]?=some (some v)->qC X.env.scope x->∃u,RelV v u/\Look X.env s.heap m x u
 cell:∀x c,X.env.cells.lookup x=some c->∃v,s.heap.IsCell c v
 free:H X.env.locals=none
 freeC:∀x c,X.env.cells.lookup x=some c->H c=none
 pin:∀p∈X.pn++pins,s.heap.get? p.1=some p.2/\H p.1=none/\p.1≠X.env.locals/\p.1∉X.fs/\∀v,p.2.data≠.cell v
 hok:d5 X.prog X.w H s.heap
 len:σ.length=X.N.length
section
variable {X:Cx}{pins:List (Addr×Obj)}{σ:List (Option V)}{H H':Hp}{s:LM}{h':Heap}
theorem Cx.Ok.nofr (ok:X.Ok){b:Addr}{o:Obj}(e:X.base.get? b=some o):b∉X.fs:=fun hb=>by
 have:=(ok.funs.mem hb).1
 rw [e] at this;cases this
theorem Inv.bs (I:Inv X pins σ H s):∀b o,X.base.get? b=some o->s.heap.get? b=some o/\H b=none:=fun b o e=>
 ⟨I.base.keep b o (I.ok.bs b o e).1 (I.ok.bs b o e).2 (I.ok.nofr e) (I.ok.noex b o e),I.base.free b o (I.ok.bs b o e).1 (I.ok.bs b o e).2 (I.ok.noex b o e)⟩
theorem Inv.bk (I:Inv X pins σ H s):∀b o,X.base.get? b=some o->s.heap.get? b=some o:=fun b o e=>(I.bs b o e).1
theorem Inv.mod (I:Inv X pins σ H s):Mod X.K X.mg X.base:=I.ok.mod
theorem Inv.kIn (I:Inv X pins σ H s):X.K.In s.heap:=I.ok.mod.kin.keeps I.bk
theorem Inv.lt (I:Inv X pins σ H s):X.env.locals<s.heap.objs.size:=let ⟨_,hn,_⟩:=I.loc;hn.lt
theorem Inv.sz (I:Inv X pins σ H s):X.s₀.heap.objs.size<=s.heap.objs.size:=LR I.ok.above (Nat.le_of_lt I.lt)
theorem Inv.nofs (I:Inv X pins σ H s){a:Addr}(h:s.heap.objs.size<=a):a∉X.fs:=fun hb=>by
 obtain ⟨_,o,ho,_⟩:=I.ok.funs.mem hb
 exact absurd (L5 (L4 ho) (LR I.sz h)) (MX _)
theorem Inv.cne (I:Inv X pins σ H s):∀x c,X.env.cells.lookup x=some c->c≠X.env.locals:=fun x c e z=>by
 obtain ⟨v,o,ho,hd⟩:=I.cell x c e
 obtain ⟨m,⟨o',es,ep,ho',hd',_⟩,_⟩:=I.loc
 rw [z,ho'] at ho;cases ho;rw [hd'] at hd;cases hd
theorem Inv.funs (I:Inv X pins σ H s):s.heap.FunFrames X.base X.outer:=by
 have all:∀(l:List Env),(∀b∈fG l,b∈X.fs)->X.s₀.heap.FunFrames X.base l->s.heap.FunFrames X.base l:=by
  intro l
  induction l with
  |nil=>intro _ _;trivial
  | cons env r ih =>
    intro hs hl
    obtain ⟨hk,⟨L,o,hf,hn,ho,hd⟩,hr⟩:=hl
    have hL:L∈X.fs:=hs L (by unfold fG;rw [NS,hf];exact Ml)
    obtain ⟨sl,e⟩:=I.base.slot L o ho (I.ok.frf L hL) hL fun z=>I.ok.exfs L z hL
    exact ⟨hk,⟨L,_,hf,hn,e,hd⟩,ih (fun b hb=>hs b (by unfold fG;rw [NS,hf];exact LY _ hb)) hr⟩
 exact all X.outer (fun _ hb=>hb) I.ok.funs
theorem Inv.stack (I:Inv X pins σ H s):s.heap.FunFrames X.base X.stack:=by
 rcases I.ok.stk with e|⟨e,hf⟩
 ·rw [e];exact I.funs
 ·rw [e]
  obtain ⟨m,hn,_⟩:=I.loc
  refine .cons (by rw [I.ok.kind];decide) hf hn ?_ I.funs
  exact Heap.get?_none_of_le (LR I.ok.bsz I.ok.above)
theorem Inv.stkSub (I:Inv X pins σ H s):∀b∈fG X.stack,b∈X.env.locals::X.fs:=fun b hb=>by
 rcases I.ok.stk with e|⟨e,hf⟩
 ·rw [e] at hb;exact LY _ hb
 ·rw [e] at hb
  unfold fG at hb
  rw [NS,hf] at hb
  exact hb
theorem Inv.stkFree (I:Inv X pins σ H s):∀b∈fG X.stack,H b=none:=fun b hb=>by
 rcases My.mp (I.stkSub b hb) with e|hb
 ·rw [e];exact I.free
 ·obtain ⟨_,o,ho,_⟩:=I.ok.funs.mem hb
  exact I.base.free b o ho (I.ok.frf b hb) fun z=>I.ok.exfs b z hb
theorem Inv.step {g':Array GenState}{t':Nat}{d':Drawn}{ch:List Addr}(I:Inv X pins σ H s)
 (hch:∀b∈ch,(b∈X.ex\/X.s₀.heap.objs.size<=b)/\b≠X.env.locals/\(∀x c,X.env.cells.lookup x=some c->c≠b)/\∀p∈X.pn++pins,p.1≠b)
 (keep:∀b o,b≠X.env.locals->b∉X.fs->b∉ch->s.heap.get? b=some o->H b=none->h'.get? b=some o)
 (slot:∀b o,b≠X.env.locals->b∈X.fs->b∉ch->s.heap.get? b=some o->H b=none->∃sl,h'.get? b=some {o with slots:=sl}) (free:∀b o,b∉ch->s.heap.get? b=some o->H b=none->H' b=none)
 (there:∀b o,b∉ch->s.heap.get? b=some o->∃o',h'.get? b=some o')
 (tups:∀b xs,H b=some (.tup xs)->H' b=some (.tup xs)) (frzs:∀b o u,H b=some (.frz o u)->H' b=some (.frz o u)) (tbls:∀b ps,H b=some (.tbl ps)->∃more,H' b=some (.tbl (ps++more)))
 (ns:∀m,s.heap.Ns X.env.locals m->h'.Ns X.env.locals m) (hok:d5 X.prog X.w H' h') (hg:AllBare g') :
 Inv X pins σ H' {s with heap:=h',gens:=g',drawn:=d',toks:=t'}:=by
 have neL:∀b o,X.s₀.heap.get? b=some o->b≠X.env.locals:=fun b o e=>MA (L5 (L4 e) I.ok.above)
 have neC:∀b o,X.s₀.heap.get? b=some o->b∉X.ex->b∉ch:=fun b o e hx hb=>by
  rcases (hch b hb).1 with z|z
  ·exact hx z
  ·exact absurd (L5 (L4 e) z) (MX _)
 have cellK:∀x c,X.env.cells.lookup x=some c->∀v,s.heap.IsCell c v->h'.IsCell c v:=fun x c e v ⟨o,ho,hd⟩=>by
  have nch:c∉ch:=fun z=>(hch c z).2.2.1 x c e rfl
  by_cases hc:c∈X.fs
  ·obtain ⟨sl,q⟩:=slot c o (I.cne x c e) hc nch ho (I.freeC x c e)
   exact ⟨_,q,hd⟩
  ·exact ⟨o,keep c o (I.cne x c e) hc nch ho (I.freeC x c e),hd⟩
 refine ⟨I.ok,I.os,hg,⟨fun b o e n hb hx=>?_,fun b o e n hb hx=>?_,fun b o e n hx=>?_,fun b o e hx=>?_,fun b xs e=>tups b xs (I.base.tups b xs e),fun b o xs e=>frzs b o xs (I.base.frzs b o xs e),fun b ps e=>?_⟩,?_,fun x c e=>?_,?_,fun x c e=>?_,fun p hp=>?_,hok,I.len⟩
 ·exact keep b o (neL b o e) hb (neC b o e hx) (I.base.keep b o e n hb hx) (I.base.free b o e n hx)
 ·obtain ⟨sl,e1⟩:=I.base.slot b o e n hb hx
  obtain ⟨sl',e2⟩:=slot b _ (neL b o e) hb (neC b o e hx) e1 (I.base.free b o e n hx)
  exact ⟨sl',e2⟩
 ·obtain ⟨o',e1⟩:=I.base.there b o e hx
  exact free b o' (neC b o e hx) e1 (I.base.free b o e n hx)
 ·obtain ⟨o',e1⟩:=I.base.there b o e hx
  exact there b o' (neC b o e hx) e1
 ·obtain ⟨m1,e1⟩:=I.base.tbls b ps e
  obtain ⟨m2,e2⟩:=tbls b _ e1
  exact ⟨m1++m2,by rw [e2,Array.append_assoc]⟩
 ·obtain ⟨m,hn,hl⟩:=I.loc
  refine ⟨m,ns m hn,fun i x v e1 e2 e3=>?_⟩
  obtain ⟨u,r,l⟩:=hl i x v e1 e2 e3
  refine ⟨u,r,?_⟩
  rcases l with l|⟨k,c,e,z⟩
  ·exact .inl l
  ·exact .inr ⟨k,c,e,cellK x c e _ z⟩
 ·obtain ⟨v,z⟩:=I.cell x c e
  exact ⟨v,cellK x c e v z⟩
 ·obtain ⟨m,⟨o,_,_,ho,_⟩,_⟩:=I.loc
  exact free _ o (fun z=>(hch _ z).2.1 rfl) ho I.free
 ·obtain ⟨v,o,ho,hd⟩:=I.cell x c e
  exact free c o (fun z=>(hch c z).2.2.1 x c e rfl) ho (I.freeC x c e)
 ·obtain ⟨e,n,ne,nf,d⟩:=I.pin p hp
  have nch:p.1∉ch:=fun z=>(hch p.1 z).2.2.2 p hp rfl
  exact ⟨keep p.1 p.2 ne nf nch e n,free p.1 p.2 nch e n,ne,nf,d⟩
theorem Inv.un {t':Nat}(I:Inv X pins σ H s)(u:Un X.fs [] H H' s.heap h')(hok:d5 X.prog X.w H' h'):Inv X pins σ H' {s with heap:=h',toks:=t'}:=by
 obtain ⟨m,⟨o,es,ep,ho,r⟩,_⟩:=id I.loc
 obtain ⟨sl,hL⟩:=u.any ho I.free (by simp)
 exact I.step (g':=s.gens) (d':=s.drawn) (ch:=[]) (fun _ z=>nomatch z) (fun b o _ hb _ e n=>u.keep b o e n hb (by simp)) (fun b o _ hb _ e n=>u.slot b o e n hb (by simp)) (fun b o _ e n=>u.free b o e n (by simp)) (fun b o _ e=>u.there b o e (by simp)) u.tups u.frzs u.tbls (fun m' hm=>by
  obtain ⟨o',es',ep',ho',r'⟩:=hm
  rw [ho] at ho';cases ho'
  exact ⟨_,es',ep',hL,r'⟩) hok I.bare
theorem Inv.call {g':Array GenState}{t':Nat}{d':Drawn}{ch:List Addr}(I:Inv X pins σ H s)(u:Un (fG X.stack) ch H H' s.heap h')(hok:d5 X.prog X.w H' h')(hg:AllBare g')
 (hch:∀b∈ch,(b∈X.ex\/X.s₀.heap.objs.size<=b)/\b≠X.env.locals/\(∀x c,X.env.cells.lookup x=some c->c≠b)/\∀p∈X.pn++pins,p.1≠b) :
 Inv X pins σ H' {s with heap:=h',gens:=g',drawn:=d',toks:=t'}:=by
 obtain ⟨m,⟨o,es,ep,ho,r⟩,_⟩:=id I.loc
 obtain ⟨sl,hL⟩:=u.any ho I.free fun z=>(hch _ z).2.1 rfl
 exact I.step (ch:=ch) hch (fun b o hL hb hc e n=>u.keep b o e n (fun z=>(My.mp (I.stkSub b z)).elim hL hb) hc) (fun b o _ _ hc e n=>u.any e n hc) (fun b o hc e n=>u.free b o e n hc) (fun b o hc e=>u.there b o e hc) u.tups u.frzs u.tbls (fun m' hm=>by
  obtain ⟨o',es',ep',ho',r'⟩:=hm
  rw [ho] at ho';cases ho'
  exact ⟨_,es',ep',hL,r'⟩) hok hg
theorem Inv.turned {t':Nat}{it:Addr}(I:Inv X pins σ H s)(k:∀b o,b≠it->s.heap.get? b=some o->h'.get? b=some o)(hn:H it=none)(hL:it≠X.env.locals)
 (h1:it∈X.ex\/X.s₀.heap.objs.size<=it) (h2:∀x c,X.env.cells.lookup x=some c->c≠it) (h3:∀p∈X.pn++pins,p.1≠it):Inv X pins σ H {s with heap:=h',toks:=t'}:=by
 have nit:∀b u,H b=some u->b≠it:=fun b u e z=>by rw [z,hn] at e;cases e
 refine I.step (g':=s.gens) (d':=s.drawn) (ch:=[it]) (fun b hb=>?_) (fun b o _ _ hc e _=>k b o (fun z=>hc (by simp [z])) e) (fun b o _ _ hc e _=>⟨o.slots,k b o (fun z=>hc (by simp [z])) e⟩) (fun _ _ _ _ n=>n)
  (fun b o hc e=>⟨o,k b o (fun z=>hc (by simp [z])) e⟩) (fun _ _ e=>e) (fun _ _ _ e=>e) (fun b ps e=>⟨#[],by rw [e];simp⟩) (fun m hm=>?_) (fun b u e=>?_) I.bare
 ·have e:b=it:=by simpa using hb
  subst e
  exact ⟨h1,hL,h2,h3⟩
 ·obtain ⟨o,es,ep,ho,r⟩:=hm
  exact ⟨o,es,ep,k _ o (MR hL) ho,r⟩
 ·refine (I.hok b u e).stay (fun c v hc q=>k c v ?_ q) (fun _ q=>q) fun _ _ q=>q
  rcases hc with z|z
  ·rw [z];exact nit b u e
  ·exact nit c _ z
theorem Inv.tok (I:Inv X pins σ H s)(t:Nat):Inv X pins σ H {s with toks:=t}:=I.un (h':=s.heap) (t':=t) Un.refl I.hok
theorem Inv.kept {t':Nat}(I:Inv X pins σ H s)(k:∀b u,s.heap.get? b=some u->h'.get? b=some u):Inv X pins σ H {s with heap:=h',toks:=t'}:=I.un (Un.kept k) (I.hok.kept k)
theorem Inv.laid {a:Addr}{o:HO}{t':Nat}(I:Inv X pins σ H s)(k:∀b u,s.heap.get? b=some u->h'.get? b=some u)(hp:s.heap.objs.size<=a)(new:cj X.prog X.w (upd H a o) h' a o) :
 Inv X pins σ (upd H a o) {s with heap:=h',toks:=t'}:=I.un (Un.laid k hp (I.hok.fresh hp)) (I.hok.laid k hp new)
theorem Inv.write {x e:Addr}{o:HO}{t':Nat}(I:Inv X pins σ H s)(mu:Cc (H x))(he:e=x\/H e=some (.own x))(k:∀b u,b≠e->s.heap.get? b=some u->h'.get? b=some u)(heo:∃u,h'.get? e=some u)
 (new:cj X.prog X.w (upd H x o) h' x o):Inv X pins σ (upd H x o) {s with heap:=h',toks:=t'}:=I.un (Un.write mu he k heo) (I.hok.write mu he k heo new)
theorem Inv.pins_of {pins':List (Addr×Obj)}(I:Inv X pins σ H s)(h:∀p∈pins',s.heap.get? p.1=some p.2/\H p.1=none/\p.1≠X.env.locals/\p.1∉X.fs/\∀v,p.2.data≠.cell v):Inv X pins' σ H s:=
 ⟨I.ok,I.os,I.bare,I.base,I.loc,I.cell,I.free,I.freeC,fun p hp=>(Ms.mp hp).elim (fun z=>I.pin p (NK _ z)) (h p),I.hok,I.len⟩
theorem si {N:List Str}(hN:N.Nodup){i j:Nat}{x:Str}(a:N[i]?=some x)(b:N[j]?=some x):i=j:=by
 obtain ⟨h1,e1⟩:=LJ.mp a
 obtain ⟨h2,e2⟩:=LJ.mp b
 exact (List.getElem_inj hN).mp (e1.trans e2.symm)
theorem pS {M:Model}{A:MK}{E:LI->LM->Prop}{i:Nat}{x:Str}{v:V}{u:LI}{Q:Unit->LM->Prop}(I:Inv X pins σ H s)(hN:X.N.Nodup)(hi:X.N[i]?=some x)(hx:Loc X.env.scope x)(r:RelV v u)
 (h:∀s',Inv X pins (σ.set i (some v)) H s'->(∃a,Heap.SameBut a s.heap s'.heap/\(a=X.env.locals\/X.env.cells.lookup x=some a))->Q () s') (hf:X.fn x=true\/X.env.scope.names.lookup x=some .local:=by first|exact .inl rfl|exact .inr rfl|assumption):wpAny M A (storeName X.env x u) Q E s:=by
 obtain ⟨m,hn,hl⟩:=id I.loc
 have hcls:(X.env.scope.kind==.class||(X.env.scope.kind==.module&&X.env.locals != X.env.globals))=false:=by rw [I.ok.kind];rfl
 have hiσ:i<σ.length:=by rw [I.len];exact (LJ.mp hi).1
 have cne:=I.cne
 have tracked:∀{a:Addr}{h':Heap},(∃o,s.heap.get? a=some o/\H a=none)->Heap.SameBut a s.heap h'->d5 X.prog X.w H h':=fun {a h'} ha hs b ob e=>by
  obtain ⟨_,_,hfree⟩:=ha
  refine (I.hok b ob e).stay (fun c w' hc q=>(hs.2 c ?_).trans q) (fun _ q=>q) fun _ _ q=>q
  rintro rfl
  rcases hc with rfl|hc
  ·rw [hfree] at e;cases e
  ·rw [hfree] at hc;cases hc
 rcases hx with hk|hk
 ·refine wpAny_storeName_local hk hn (fun h' hn' hs=>?_) hcls
  obtain ⟨oL,_,_,hoL,_⟩:=id hn
  refine h _ ⟨I.ok,I.os,I.bare,⟨fun b o e n hb hx=>?_,fun b o e n hb hx=>?_,I.base.free,fun b o e hx=>?_,I.base.tups,I.base.frzs,I.base.tbls⟩,⟨_,hn',fun j y v' e1 e2 e3=>?_⟩,fun y c e=>?_,I.free,I.freeC,fun p hp=>?_,tracked ⟨oL,hoL,I.free⟩ hs,by simpa using I.len⟩ ⟨_,hs,.inl rfl⟩
  ·exact (hs.2 b (MA (L5 (L4 e) I.ok.above))).trans (I.base.keep b o e n hb hx)
  ·obtain ⟨sl,e1⟩:=I.base.slot b o e n hb hx
   exact ⟨sl,(hs.2 b (MA (L5 (L4 e) I.ok.above))).trans e1⟩
  ·obtain ⟨o',e1⟩:=I.base.there b o e hx
   exact ⟨o',(hs.2 b (MA (L5 (L4 e) I.ok.above))).trans e1⟩
  ·by_cases hj:j=i
   ·subst hj
    rw [hi] at e1;cases e1
    rw [Md hiσ] at e2
    cases e2
    exact ⟨u,r,.inl ⟨hk,by simp⟩⟩
   ·rw [LS (MR hj)] at e2
    obtain ⟨u',r',q⟩:=hl j y v' e1 e2 e3
    refine ⟨u',r',?_⟩
    rcases q with ⟨k,e⟩|⟨k,c,e,z⟩
    ·refine .inl ⟨k,?_⟩
     have:y≠x:=fun e=>hj (si hN e1 (e ▸ hi))
     simp [this,e]
    ·exact .inr ⟨k,c,e,z.sameBut hs (cne y c e)⟩
  ·obtain ⟨w',z⟩:=I.cell y c e
   exact ⟨w',z.sameBut hs (cne y c e)⟩
  ·obtain ⟨e,n,ne,nf,d⟩:=I.pin p hp
   exact ⟨(hs.2 p.1 ne).trans e,n,ne,nf,d⟩
 ·have hfn:X.fn x=true:=by
   rcases hf with z|z
   ·exact z
   ·rw [z] at hk;cases hk
  obtain ⟨c,hc⟩:=I.ok.has x (.inl hk)
  obtain ⟨w',z⟩:=I.cell x c hc
  refine wpAny_storeName_cell I.ok.kind hk hc z (fun h' hc' hs=>?_)
  obtain ⟨oc,hoc,hocd⟩:=id z
  refine h {s with heap:=h'} ⟨I.ok,I.os,I.bare,⟨fun b o e n hb hx=>?_,fun b o e n hb hx=>?_,I.base.free,fun b o e hx=>?_,I.base.tups,I.base.frzs,I.base.tbls⟩,⟨m,hn.sameBut hs (MR (cne x c hc)),fun j y v' e1 e2 e3=>?_⟩,fun y c' e=>?_,I.free,I.freeC,fun p hp=>?_,tracked ⟨oc,hoc,I.freeC x c hc⟩ hs,by simpa using I.len⟩ ⟨c,hs,.inr hc⟩
  ·exact (hs.2 b (MA (L5 (L4 e) (I.ok.cab x c hfn hc)))).trans (I.base.keep b o e n hb hx)
  ·obtain ⟨sl,e1⟩:=I.base.slot b o e n hb hx
   exact ⟨sl,(hs.2 b (MA (L5 (L4 e) (I.ok.cab x c hfn hc)))).trans e1⟩
  ·obtain ⟨o',e1⟩:=I.base.there b o e hx
   exact ⟨o',(hs.2 b (MA (L5 (L4 e) (I.ok.cab x c hfn hc)))).trans e1⟩
  ·by_cases hj:j=i
   ·subst hj
    rw [hi] at e1;cases e1
    rw [Md hiσ] at e2
    cases e2
    exact ⟨u,r,.inr ⟨.inl hk,c,hc,hc'⟩⟩
   ·rw [LS (MR hj)] at e2
    obtain ⟨u',r',q⟩:=hl j y v' e1 e2 e3
    refine ⟨u',r',?_⟩
    rcases q with q|⟨k,c',e,z'⟩
    ·exact .inl q
    ·refine .inr ⟨k,c',e,z'.sameBut hs ?_⟩
     rintro rfl
     exact hj (si hN e1 (I.ok.inj _ _ _ e hc ▸ hi))
  ·by_cases hcc:c'=c
   ·subst hcc;exact ⟨_,hc'⟩
   ·obtain ⟨w2,z2⟩:=I.cell y c' e
    exact ⟨w2,z2.sameBut hs hcc⟩
  ·obtain ⟨e,n,ne,nf,d⟩:=I.pin p hp
   refine ⟨(hs.2 p.1 ?_).trans e,n,ne,nf,d⟩
   intro q
   rw [q,hoc] at e
   have q':oc=p.2:=LO e
   exact d w' (by rw [<- q'];exact hocd)
theorem zj {M:Model}{A:MK}{E:LI->LM->Prop}{i:Nat}{x:Str}{v:V}{u:LI}{Q:Unit->LM->Prop}(I:Inv X pins σ H s)(hN:X.N.Nodup)(hi:X.N[i]?=some x)(hx:Loc X.env.scope x)(r:RelV v u)
 (h:∀s',Inv X pins (σ.set i (some v)) H s'->Q () s') (hf:X.fn x=true\/X.env.scope.names.lookup x=some .local:=by first|exact .inl rfl|exact .inr rfl|assumption):wpAny M A (storeName X.env x u) Q E s:=
 pS I hN hi hx r (fun s' I' _=>h s' I') hf
theorem Inv.call' {s':LM}{ch:List Addr}(I:Inv X pins σ H s)(ho:s'.os=s.os)(u:Un (fG X.stack) ch H H' s.heap s'.heap)(hok:d5 X.prog X.w H' s'.heap)(hg:AllBare s'.gens)
 (hch:∀b∈ch,(b∈X.ex\/X.s₀.heap.objs.size<=b)/\b≠X.env.locals/\(∀x c,X.env.cells.lookup x=some c->c≠b)/\∀p∈X.pn++pins,p.1≠b):Inv X pins σ H' s':=by
 obtain ⟨h',g',d',t',o'⟩:=s'
 have e:o'=s.os:=ho
 subst e
 exact I.call (g':=g') (t':=t') (d':=d') u hok hg hch
end
abbrev XK:=LI->Option Addr->Hp->Prop
abbrev St:=List (Option V)
abbrev VK:=V->Hp->Prop
abbrev TE:=St->Hp->VK->Prop
abbrev TT:=St->Hp->(Bool->Hp->Prop)->Prop
abbrev TA:=St->Hp->(List V->Hp->Prop)->Prop
structure Ends where
 nx:St->Hp->Prop
 rt:VK
 bk:St->Hp->Prop:=fun _ _=>False
 ct:St->Hp->Prop:=fun _ _=>False
abbrev TS:=Ends->St->Hp->Prop
noncomputable def EP (X:Cx)(pins:List (Addr×Obj))(σ:St)(Q:VK)(u:LI)(s':LM):Prop:=∃v H',Inv X pins σ H' s'/\RelV v u/\Q v H'
noncomputable def TP (X:Cx)(pins:List (Addr×Obj))(σ:St)(Q:Bool->Hp->Prop)(b:Bool)(s':LM):Prop:=∃H',Inv X pins σ H' s'/\Q b H'
noncomputable def AP (X:Cx)(pins:List (Addr×Obj))(σ:St)(Q:List V->Hp->Prop)(us:List LI)(s':LM):Prop:=∃vs H',Inv X pins σ H' s'/\Vals vs us/\Q vs H'
noncomputable def SP (X:Cx)(pins:List (Addr×Obj))(D:Ends)(f:Flow)(s':LM):Prop:=
 match f with
 |.next=>∃σ' H',Inv X pins σ' H' s'/\D.nx σ' H'
 |.brk=>∃σ' H',Inv X pins σ' H' s'/\D.bk σ' H'
 |.cont=>∃σ' H',Inv X pins σ' H' s'/\D.ct σ' H'
 |.ret u=>∃v σ' H',Inv X pins σ' H' s'/\RelV v u/\D.rt v H'
noncomputable def PE (X:Cx)(e:Expr)(t:TE):Prop:=
 ∀(pins:List (Addr×Obj)) (s:LM) (σ:St) (H:Hp) (Q:VK),Inv X pins σ H s->t σ H Q->wpAny (model X.prog X.w) X.A (eval e X.env) (EP X pins σ Q) X.xe s
noncomputable def PT (X:Cx)(e:Expr)(t:TT):Prop:=
 ∀(pins:List (Addr×Obj)) (s:LM) (σ:St) (H:Hp) (Q:Bool->Hp->Prop),Inv X pins σ H s->t σ H Q->wpAny (model X.prog X.w) X.A (isTrue e X.env (eval e X.env)) (TP X pins σ Q) X.xe s
noncomputable def PW (X:Cx)(e:Expr)(t:TT):Prop:=
 ∀(whole:Sem LI) (pins:List (Addr×Obj)) (s:LM) (σ:St) (H:Hp) (Q:Bool->Hp->Prop),Inv X pins σ H s->t σ H Q->wpAny (model X.prog X.w) X.A (isTrue e X.env whole) (TP X pins σ Q) X.xe s
theorem PW.pt {X:Cx}{e:Expr}{t:TT}(h:PW X e t):PT X e t:=h _
noncomputable def PA (X:Cx)(es:List Expr)(t:TA):Prop:=
 ∀(pos:Pos) (pins:List (Addr×Obj)) (s:LM) (σ:St) (H:Hp) (Q:List V->Hp->Prop),Inv X pins σ H s->t σ H Q->wpAny (model X.prog X.w) X.A (spliced (backTo pos (starEach es X.env))) (AP X pins σ Q) X.xe s
noncomputable def PS (X:Cx)(st:Stmt)(t:TS):Prop:=
 ∀(pins:List (Addr×Obj)) (s:LM) (σ:St) (H:Hp) (D:Ends),Inv X pins σ H s->t D σ H->wpAny (model X.prog X.w) X.A (exec st X.env) (SP X pins D) X.xe s
noncomputable def lQ (X:Cx)(st:List Stmt)(t:TS):Prop:=
 ∀(pins:List (Addr×Obj)) (s:LM) (σ:St) (H:Hp) (D:Ends),Inv X pins σ H s->t D σ H->wpAny (model X.prog X.w) X.A (execs st X.env) (SP X pins D) X.xe s
theorem aO {α:Type}{t:Sem α}{Q Q':α->LM->Prop}{M:Model}{A:MK}{E:LI->LM->Prop}{s:LM}(h:wpAny M A t Q E s)(hQ:∀a s,Q a s->Q' a s):wpAny M A t Q' E s:=wpAny_mono h hQ fun _ _ x=>x
end L2
namespace L2
open PySem PySem.Spec PyProof.Rows
section
variable {X:Cx}
theorem bin {a b:Expr}{ta tb:TE}(ha:PE X a ta)(hb:PE X b tb){pins:List (Addr×Obj)}{s:LM}{σ:St}{H:Hp}{R:V->V->Hp->Prop}(I:Inv X pins σ H s)(h:ta σ H fun x H1=>tb σ H1 fun y H2=>R x y H2)
 {α:Type}{Q:α->LM->Prop}{f:LI->LI->Sem α}
 (hf:∀v u s2 x y H2,Inv X pins σ H2 s2->RelV x v->RelV y u->R x y H2->wpAny (model X.prog X.w) X.A (f v u) Q X.xe s2) :
 wpAny (model X.prog X.w) X.A (eval a X.env) (fun v s₁=>wpAny (model X.prog X.w) X.A (eval b X.env) (fun u s₂=>wpAny (model X.prog X.w) X.A (f v u) Q X.xe s₂) X.xe s₁) X.xe s:=by
 refine aO (ha pins s σ H _ I h) fun v s1 ⟨x,H1,I1,r1,q1⟩=>?_
 refine aO (hb pins s1 σ H1 _ I1 q1) fun u s2 ⟨y,H2,I2,r2,q2⟩=>?_
 exact hf v u s2 x y H2 I2 r1 r2 q2
noncomputable def zg (i:Nat):TE:=fun σ H Q=>∃v,σ[i]?=some (some v)/\Q v H
noncomputable def tC (v:V):TE:=fun _ H Q=>Q v H
theorem nV {i:Nat}{x:Str}{pos:Pos}(hN:X.N[i]?=some x)(hv:qC X.env.scope x)(hd:(x==("__debug__":Str))=false:=by decide)(hcd:(x==("__classdict__":Str))=false:=by decide):PE X (.Name x pos) (zg i):=by
 intro pins s σ H Q I h
 obtain ⟨v,e,h⟩:=h
 obtain ⟨m,hn,hl⟩:=I.loc
 obtain ⟨u,r,l⟩:=hl i x v hN e hv
 have fin:EP X pins σ Q u s:=⟨v,H,I,r,h⟩
 rcases l with ⟨hk,hm⟩|⟨hk,c,hc,hcell⟩
 ·exact wpAny_Name (wpAny_loadName_local I.ok.kind hk hn hm fin) hd
 ·rcases hk with hk|hk
  ·exact wpAny_Name (wpAny_loadName_cell I.ok.kind hk hc hcell fin) hd
  ·exact wpAny_Name (wpAny_loadName_free I.ok.kind hk hc hcell fin hcd) hd
theorem xl {i j pos}:PE X (.Constant (.int i) j pos) (tC (.int i)):=fun _ _ _ H _ I h=>wpAny_Constant_int ⟨.int i,H,I.tok _,⟨_,rfl⟩,h⟩
theorem Iq {b j pos}:PE X (.Constant (.bool b) j pos) (tC (.bl b)):=fun _ _ _ H _ I h=>Constant_bool ⟨.bl b,H,I,rfl,h⟩
theorem FT {j pos}:PE X (.Constant .none j pos) (tC .non):=fun _ _ _ H _ I h=>Constant_none ⟨.non,H,I,rfl,h⟩
theorem FO {x j pos}:PE X (.Constant (.str x) j pos) (tC (.str x)):=fun _ _ _ H _ I h=>Calls.Constant_str ⟨.str x,H,I.tok _,⟨_,rfl⟩,h⟩
noncomputable def Gl (X:Cx)(x:Str):Prop:=X.env.kindOf x=some .globalImplicit
theorem fW {E:LI->LM->Prop}{pins:List (Addr×Obj)}{s:LM}{σ:St}{H:Hp}{x:Str}{u:LI}{pos:Pos}{Q:LI->LM->Prop}(I:Inv X pins σ H s)(hg:Gl X x)(hm:X.mg x=some u)(h:Q u s)
 (hd:(x==("__debug__":Str))=false:=by decide):wpAny (model X.prog X.w) X.A (eval (.Name x pos) X.env) Q E s:=
 Calls.Name_function_global I.ok.kind hg (Calls.loadGlobal_global (by rw [I.ok.glob];exact I.mod.glob.keeps I.bk) hm h) hd
theorem gz {E:LI->LM->Prop}{pins:List (Addr×Obj)}{s:LM}{σ:St}{H:Hp}{x:Str}{u:LI}{pos:Pos}{Q:LI->LM->Prop}(I:Inv X pins σ H s)(hg:Gl X x)(hm:X.mg x=none)(hv:bootBuiltins x=some u)(h:Q u s)
 (hn:x≠"__name__":=by decide) (hd:(x==("__debug__":Str))=false:=by decide):wpAny (model X.prog X.w) X.A (eval (.Name x pos) X.env) Q E s:=by
 obtain ⟨mb,h1,h2⟩:=I.mod.blt
 exact Calls.Name_function_global I.ok.kind hg (Calls.loadGlobal_builtin (by rw [I.ok.glob];exact I.mod.glob.keeps I.bk) hm (by rw [I.ok.blt];exact h1.keeps I.bk) ((h2 x hn).trans hv) h) hd
theorem jQ {x:Str}{v:V}{u:LI}{pos:Pos}(hg:Gl X x)(hm:X.mg x=some u)(r:RelV v u)(hd:(x==("__debug__":Str))=false:=by decide):PE X (.Name x pos) (tC v):=
 fun _ _ _ H _ I h=>fW I hg hm ⟨v,H,I,r,h⟩ hd
theorem Dw {x:Str}{v:V}{u:LI}{pos:Pos}(hg:Gl X x)(hm:X.mg x=none)(hv:bootBuiltins x=some u)(r:RelV v u)(hn:x≠"__name__":=by decide)(hd:(x==("__debug__":Str))=false:=by decide):PE X (.Name x pos) (tC v):=
 fun _ _ _ H _ I h=>gz I hg hm hv ⟨v,H,I,r,h⟩ hn hd
variable {a b:Expr}{ta tb:TE}{pos:Pos}
variable {tA tB':TT}{rest:List Expr}
noncomputable def eU (t u:TT):TT:=fun σ H Q=>t σ H fun c H1=>if c=true then u σ H1 Q else Q false H1
noncomputable def ib (t u:TT):TT:=fun σ H Q=>t σ H fun c H1=>if c=true then Q true H1 else u σ H1 Q
noncomputable def bN (t:TT):TT:=fun σ H Q=>t σ H fun c H1=>Q (!c) H1
theorem Dj (ha:PT X a tA):PW X (.BoolOp .And [a] pos) tA:=by
 intro wh pins s σ H Q I h
 refine isTrue_and (aO (ha pins s σ H Q I h) fun c s1 e=>?_)
 cases c with
 |true=>exact isTrue_and_nil e
 |false=>exact e
theorem FC (ha:PT X a tA):PW X (.BoolOp .Or [a] pos) tA:=by
 intro wh pins s σ H Q I h
 refine isTrue_or (aO (ha pins s σ H Q I h) fun c s1 e=>?_)
 cases c with
 |false=>exact isTrue_or_nil e
 |true=>exact e
theorem FD (ha:PT X a tA)(hb:PW X (.BoolOp .And (b::rest) pos) tB'):PW X (.BoolOp .And (a::b::rest) pos) (eU tA tB'):=by
 intro wh pins s σ H Q I h
 refine isTrue_and (aO (ha pins s σ H _ I h) fun c s1 ⟨H1,I1,q1⟩=>?_)
 cases c with
 |true=>exact hb wh pins s1 σ H1 Q I1 q1
 |false=>exact ⟨H1,I1,q1⟩
theorem Ii (ha:PT X a tA)(hb:PW X (.BoolOp .Or (b::rest) pos) tB'):PW X (.BoolOp .Or (a::b::rest) pos) (ib tA tB'):=by
 intro wh pins s σ H Q I h
 refine isTrue_or (aO (ha pins s σ H _ I h) fun c s1 ⟨H1,I1,q1⟩=>?_)
 cases c with
 |true=>exact ⟨H1,I1,q1⟩
 |false=>exact hb wh pins s1 σ H1 Q I1 q1
theorem FE (ha:PT X a tA):PT X (.UnaryOp .Not a pos) (bN tA):=by
 intro pins s σ H Q I h
 exact isTrue_not (ha pins s σ H (fun c H1=>Q (!c) H1) I h)
noncomputable def H8 (ta tb:TE):TE:=fun σ H Q=>ta σ H fun x H1=>∃c,x=.bl c/\if c=true then tb σ H1 Q else Q (.bl false) H1
noncomputable def J8 (ta tb:TE):TE:=fun σ H Q=>ta σ H fun x H1=>∃c,x=.bl c/\if c=true then Q (.bl true) H1 else tb σ H1 Q
noncomputable def HW (ta:TE):TE:=fun σ H Q=>ta σ H fun x H1=>∃c,x=.bl c/\Q (.bl (!c)) H1
theorem FQ {op}{t:TE}(h:PE X a t):PE X (.BoolOp op [a] pos) t:=fun pins s σ H Q I hw=>BoolOp_one (h pins s σ H Q I hw)
theorem FX (ha:PE X a ta)(hb:PE X (.BoolOp .And (b::rest) pos) tb):PE X (.BoolOp .And (a::b::rest) pos) (H8 ta tb):=by
 intro pins s σ H Q I h
 refine BoolOp_and (aO (ha pins s σ H _ I h) fun v s1 ⟨x,H1,I1,r1,q1⟩=>?_)
 obtain ⟨c,rfl,q1⟩:=q1
 cases r1
 refine tqp ?_
 cases c with
 |true=>exact hb pins s1 σ H1 Q I1 q1
 |false=>exact ⟨.bl false,H1,I1,rfl,q1⟩
theorem Ik (ha:PE X a ta)(hb:PE X (.BoolOp .Or (b::rest) pos) tb):PE X (.BoolOp .Or (a::b::rest) pos) (J8 ta tb):=by
 intro pins s σ H Q I h
 refine BoolOp_or (aO (ha pins s σ H _ I h) fun v s1 ⟨x,H1,I1,r1,q1⟩=>?_)
 obtain ⟨c,rfl,q1⟩:=q1
 cases r1
 refine tqp ?_
 cases c with
 |false=>exact hb pins s1 σ H1 Q I1 q1
 |true=>exact ⟨.bl true,H1,I1,rfl,q1⟩
theorem FR (ha:PE X a ta):PE X (.UnaryOp .Not a pos) (HW ta):=by
 intro pins s σ H Q I h
 refine UnaryOp_ (aO (ha pins s σ H _ I h) fun v s1 ⟨x,H1,I1,r1,q1⟩=>?_)
 obtain ⟨c,rfl,q1⟩:=q1
 cases r1
 exact not_of (tqp ⟨.bl (!c),H1,I1,rfl,q1⟩)
noncomputable def tIf (t:TT)(ta tb:TE):TE:=fun σ H Q=>t σ H fun c H1=>if c=true then ta σ H1 Q else tb σ H1 Q
theorem rX {c:Expr}(hc:PT X c tA)(ha:PE X a ta)(hb:PE X b tb):PE X (.IfExp c a b pos) (tIf tA ta tb):=by
 intro pins s σ H Q I h
 refine wpAny_IfExp (aO (hc pins s σ H _ I h) fun d s1 ⟨H1,I1,q1⟩=>?_)
 cases d with
 |true=>exact ha pins s1 σ H1 Q I1 q1
 |false=>exact hb pins s1 σ H1 Q I1 q1
end
end L2
namespace L2
open PySem PySem.Spec PyProof.Rows
noncomputable def b9 (K:LH)(H:Hp)(a:Addr)(xs:List V):Prop:=
 Rd H a (.lst xs)\/
  ∃(o:Obj) (its:Array LI) (n:Nat),K.lookup a=some o/\o.cls=.type "list"/\o.dict=none/\o.data=.seq its n/\its.size<=sizeLine/\Vals xs its.toList
noncomputable def c9 (K:LH)(H:Hp)(a:Addr)(xs:List V):Prop:=
 Rd H a (.tup xs)\/
  ∃(o:Obj) (its:Array LI) (n:Nat),K.lookup a=some o/\o.cls=.type "tuple"/\o.data=.seq its n/\its.size<=sizeLine/\Vals xs its.toList
noncomputable def Lf:LI->Option V
 |.none=>some .non
 |.bool b=>some (.bl b)
 |.int i _=>some (.int i)
 |.str x _=>some (.str x)
 |.bytes b _=>some (.byt b)
 |.float b _=>some (.flt b)
 |.ref a=>some (.ref a)
 |.type n=>some (.ty n)
 |_=>none
theorem RelV.abs {x:V}{u:LI}(r:RelV x u):Lf u=some x:=by
 cases x with
 |non=>cases r;rfl
 |bl _=>cases r;rfl
 |int _=>obtain ⟨t,rfl⟩:=r;rfl
 |str _=>obtain ⟨t,rfl⟩:=r;rfl
 |byt _=>obtain ⟨t,rfl⟩:=r;rfl
 |flt _=>obtain ⟨t,rfl⟩:=r;rfl
 |ref _=>cases r;rfl
 |ty _=>cases r;rfl
theorem RelV.inj {x y:V}{u:LI}(r:RelV x u)(q:RelV y u):x=y:=LO (r.abs.symm.trans q.abs)
theorem Vals.inj:∀{xs ys:List V}{us:List LI},Vals xs us->Vals ys us->xs=ys
 |_,_,_,.nil,.nil=>rfl
 |_,_,_,.cons r t,.cons r' t'=>by rw [r.inj r',Vals.inj t t']
section
variable {X:Cx}{pins:List (Addr×Obj)}{σ:St}{H:Hp}{s:LM}{a:Addr}{xs ys:List V}
theorem b9.of {K:LH}(h:H a=some (.lst xs)):b9 K H a xs:=.inl (.inl h)
theorem c9.of {K:LH}(h:H a=some (.tup xs)):c9 K H a xs:=.inl (.inl h)
theorem Inv.list (I:Inv X pins σ H s)(h:b9 X.K H a xs):∃its:List LI,Vals xs its/\PlainL s.heap a its.toArray/\xs.length<=sizeLine:=by
 rcases h with h|⟨o,its,n,hk,hc,hd,hs,hz,r⟩
 ·obtain ⟨z,its,n,r,e⟩:=h.ok I.hok
  exact ⟨its,r,⟨_,n,e,rfl,rfl,rfl⟩,z⟩
 ·refine ⟨its.toList,r,⟨o,n,I.kIn a o hk,hc,hd,by simpa using hs⟩,?_⟩
  have e:=r.length
  simp only [Nr] at e
  omega
theorem Inv.tuple (I:Inv X pins σ H s)(h:c9 X.K H a xs):∃its:List LI,Vals xs its/\IsTup s.heap a its.toArray/\xs.length<=sizeLine:=by
 rcases h with h|⟨o,its,n,hk,hc,hs,hz,r⟩
 ·obtain ⟨z,its,r,p⟩:=h.ok I.hok
  exact ⟨its,r,p,z⟩
 ·refine ⟨its.toList,r,⟨o,I.kIn a o hk,hc,n,by simpa using hs⟩,?_⟩
  have e:=r.length
  simp only [Nr] at e
  omega
theorem Inv.list_inj (I:Inv X pins σ H s)(h:b9 X.K H a xs)(h':b9 X.K H a ys):xs=ys:=by
 obtain ⟨its,r,⟨o,n,e,_,_,d⟩,_⟩:=I.list h
 obtain ⟨its',r',⟨o',n',e',_,_,d'⟩,_⟩:=I.list h'
 rw [e] at e';cases e'
 rw [d] at d'
 injection d' with d1 _
 have:its=its':=by simpa using congrArg Array.toList d1
 subst this
 exact r.inj r'
theorem Inv.tuple_inj (I:Inv X pins σ H s)(h:c9 X.K H a xs)(h':c9 X.K H a ys):xs=ys:=by
 obtain ⟨its,r,⟨o,e,_,n,d⟩,_⟩:=I.tuple h
 obtain ⟨its',r',⟨o',e',_,n',d'⟩,_⟩:=I.tuple h'
 rw [e] at e';cases e'
 rw [d] at d'
 injection d' with d1 _
 have:its=its':=by simpa using congrArg Array.toList d1
 subst this
 exact r.inj r'
end
section
variable {X:Cx}{st:Stmt}{rest:List Stmt}{t u:TS}{e:Expr}{te:TE}{pos:Pos}
noncomputable def Bm:TS:=fun D σ H=>D.nx σ H
noncomputable def J6 (t u:TS):TS:=fun D σ H=>t {D with nx:=u D} σ H
theorem t7:lQ X [] Bm:=fun _ _ σ H _ I h=>wpAny_execs_nil ⟨σ,H,I,h⟩
theorem m8 (h1:PS X st t)(h2:lQ X rest u):lQ X (st::rest) (J6 t u):=by
 intro pins s σ H D I h
 refine wpAny_execs_cons (aO (h1 pins s σ H {D with nx:=u D} I h) fun f s1 q=>?_)
 cases f with
 | next =>
   obtain ⟨σ',H',I',q⟩:=q
   exact h2 pins s1 σ' H' D I' q
 |ret v=>exact q
 |brk=>exact q
 |cont=>exact q
theorem Dn:PS X (.Pass pos) Bm:=fun _ _ σ H _ I h=>wpAny_Pass ⟨σ,H,I,h⟩
theorem Inv.quiet {pins:List (Addr×Obj)}{σ:St}{H:Hp}{s:LM}(I:Inv X pins σ H s):interactive X.env=false:=by simp [interactive,I.ok.kind]
noncomputable def HY (te:TE):TS:=fun D σ H=>te σ H fun _ H1=>D.nx σ H1
theorem lW (he:PE X e te)(hs:swapsWith e none pos.line X.env=pure false:=by rfl):PS X (.Expr e pos) (HY te):=by
 intro pins s σ H D I h
 exact wpAny_Expr_any (aO (he pins s σ H _ I h) fun v s1 ⟨x,H1,I1,r1,q1⟩=>⟨σ,H1,I1,q1⟩) I.quiet hs
noncomputable def J7 (te:TE):TS:=fun D σ H=>te σ H D.rt
theorem xa (he:PE X e te):PS X (.Return (some e) pos) (J7 te):=by
 intro pins s σ H D I h
 exact wpAny_Return_some (aO (he pins s σ H _ I h) fun v s1 ⟨x,H1,I1,r1,q1⟩=>⟨x,σ,H1,I1,r1,q1⟩)
noncomputable def HU:TS:=fun D _ H=>D.rt .non H
theorem Dm:PS X (.Return none pos) HU:=fun _ _ σ H _ I h=>wpAny_Return_none ⟨.non,σ,H,I,rfl,h⟩
noncomputable def Kb (c:TT)(t u:TS):TS:=fun D σ H=>c σ H fun b H1=>if b=true then t D σ H1 else u D σ H1
theorem Ij {c:Expr}{a b:List Stmt}{tc:TT}(hc:PT X c tc)(ha:lQ X a t)(hb:lQ X b u):PS X (.If c a b pos) (Kb tc t u):=by
 intro pins s σ H D I h
 refine wpAny_If (aO (hc pins s σ H _ I h) fun d s1 ⟨H1,I1,q1⟩=>?_)
 cases d with
 |true=>exact ha pins s1 σ H1 D I1 q1
 |false=>exact hb pins s1 σ H1 D I1 q1
end
abbrev TG:=V->St->Hp->(St->Hp->Prop)->Prop
abbrev oG:=List V->St->Hp->(St->Hp->Prop)->Prop
noncomputable def PG (X:Cx)(target:Expr)(t:TG):Prop:=
 ∀(pins:List (Addr×Obj)) (s:LM) (σ:St) (H:Hp) (v:V) (u:LI) (Q:St->Hp->Prop),Inv X pins σ H s->RelV v u->t v σ H Q->
  wpAny (model X.prog X.w) X.A (assign target X.env u) (fun _ s'=>∃σ' H',Inv X pins σ' H' s'/\Q σ' H') X.xe s
noncomputable def tf (X:Cx)(ts:List Expr)(t:oG):Prop:=
 ∀(pins:List (Addr×Obj)) (s:LM) (σ:St) (H:Hp) (vs:List V) (us:List LI) (Q:St->Hp->Prop),Inv X pins σ H s->Vals vs us->t vs σ H Q->
  wpAny (model X.prog X.w) X.A (assignInOrder ((assignEach ts X.env).map (·.2)) us) (fun _ s'=>∃σ' H',Inv X pins σ' H' s'/\Q σ' H') X.xe s
abbrev AY:=V->V->V->Hp->(Hp->Prop)->Prop
noncomputable def HC (X:Cx)(t:AY):Prop:=
 ∀(pins:List (Addr×Obj)) (s:LM) (σ:St) (H:Hp) (o i v:V) (ov iv u:LI) (Q:Hp->Prop),Inv X pins σ H s->RelV o ov->RelV i iv->RelV v u->t o i v H Q->
  wpAny (model X.prog X.w) X.A (setItem ov iv u) (fun _ s'=>∃H',Inv X pins σ H' s'/\Q H') X.xe s
section
variable {X:Cx}{pos:Pos}
noncomputable def IK (i:Nat):TG:=fun v σ H Q=>Q (σ.set i (some v)) H
theorem ua {i:Nat}{x:Str}(hN:X.N.Nodup)(hi:X.N[i]?=some x)(hx:Loc X.env.scope x)(hf:X.fn x=true\/X.env.scope.names.lookup x=some .local:=by first|exact .inl rfl|exact .inr rfl|assumption):PG X (.Name x pos) (IK i):=by
 intro pins s σ H v u Q I r h
 exact wpAny_assign_Name (zj I hN hi hx r (fun s' I'=>⟨_,H,I',h⟩) hf)
noncomputable def ai:oG:=fun vs σ H Q=>vs=[]/\Q σ H
noncomputable def ae (t:TG)(u:oG):oG:=fun vs σ H Q=>∃v r,vs=v::r/\t v σ H fun σ' H'=>u r σ' H' Q
theorem Ds:tf X [] ai:=by
 intro pins s σ H vs us Q I r h
 obtain ⟨e,h⟩:=h
 subst e
 cases r
 exact assignInOrder_nil ⟨σ,H,I,h⟩
theorem zQ {e:Expr}{es:List Expr}{t:TG}{u:oG}(h1:PG X e t)(h2:tf X es u)
 (hs:(assignEach (e::es) X.env).map (·.2)=assign e X.env::(assignEach es X.env).map (·.2):=by rfl):tf X (e::es) (ae t u):=by
 intro pins s σ H vs us Q I r h
 obtain ⟨v,vr,e1,h⟩:=h
 subst e1
 cases r with
 | cons r rr =>
   rw [hs]
   refine assignInOrder_cons (aO (h1 pins s σ H _ _ _ I r h) fun _ s1 ⟨σ1,H1,I1,q1⟩=>?_)
   exact h2 pins s1 σ1 H1 _ _ Q I1 rr q1
noncomputable def cp (K:LH)(n:Nat)(t:oG):TG:=fun v σ H Q=>∃a xs,v=.ref a/\c9 K H a xs/\xs.length=n/\t xs σ H Q
theorem FK {es:List Expr}{k:Nat}{t:oG}{n:Nat}(hc:X.calm=true)(h:tf X es t)
 (hn:(assignEach es X.env).length=n:=by rfl) (hst:(assignEach es X.env).findIdx? (·.1)=none:=by rfl):PG X (.Tuple es k pos) (cp X.K n t):=by
 intro pins s σ H v u Q I r hw
 obtain ⟨a,xs,e1,hq,hl,hw⟩:=hw
 subst e1
 cases r
 obtain ⟨its,rv,ht,hz⟩:=I.tuple hq
 refine assign_Tuple_tuple (I.ok.hd hc) ht (by simp [hn,<- hl,rv.length]) hst fun h' hx=>?_
 have I1:Inv X pins σ H {s with heap:=h'}:=I.kept (t':=s.toks) fun b o e=>hx b o (MA (L4 e)) e
 exact h pins _ σ H xs _ Q I1 (by simpa using rv) hw
noncomputable def KU (to ti:TE)(t:AY):TG:=fun v σ H Q=>to σ H fun o H1=>ti σ H1 fun i H2=>t o i v H2 fun H3=>Q σ H3
theorem FL {o i:Expr}{to ti:TE}{t:AY}(ho:PE X o to)(hi:PE X i ti)(hs:HC X t)
 (ha:∀v,assign (.Subscript o i pos) X.env v=(do
  let ov <- holding [v] (eval o X.env)
  let iv <- holding [v,ov] (eval i X.env)
  standAt pos
  holding [v,ov,iv] (setItem ov iv v)
  release [v,ov,iv] []):=by intro _;rfl):PG X (.Subscript o i pos) (KU to ti t):=by
 intro pins s σ H v u Q I r h
 rw [ha]
 refine tqa (tqo (aO (ho pins s σ H _ I h) fun ov s1 ⟨x,H1,I1,r1,q1⟩=>?_))
 refine tqa (tqo (aO (hi pins s1 σ H1 _ I1 q1) fun iv s2 ⟨y,H2,I2,r2,q2⟩=>?_))
 refine tqa (wpAny_standAt (tqa (tqo (aO (hs pins s2 σ H2 x y v ov iv u _ I2 r1 r2 r q2) fun _ s3 ⟨H3,I3,q3⟩=>?_))))
 exact wpAny_release ⟨σ,H3,I3,q3⟩
noncomputable def Kf (te:TE)(g:TG):TS:=fun D σ H=>te σ H fun x H1=>g x σ H1 D.nx
theorem rS {tg e:Expr}{te:TE}{g:TG}(he:PE X e te)(hg:PG X tg g)(hs:swapsWithSole [tg] e pos.line X.env=pure false:=by rfl)(hw:swappedStores [tg] e X.env=pure none:=by rfl)
 (h1:(assignEach [tg] X.env).map (·.2)=[assign tg X.env]:=by rfl):PS X (.Assign [tg] e pos) (Kf te g):=by
 intro pins s σ H D I h
 refine wpAny_Assign_stores (aO (he pins s σ H _ I h) fun v s1 ⟨x,H1,I1,r1,q1⟩=>?_) hs hw
 rw [h1]
 exact aO (hg pins s1 σ H1 x v _ I1 r1 q1) fun _ s2 q=>q
end
structure It where
 go:Nat->Hp->Prop
 yld:Nat->Hp->V->Hp->Prop
 stop:Nat->Hp->Prop
noncomputable def fC (X:Cx)(pins:List (Addr×Obj))(H:Hp)(b:Addr):Prop:=
 H b=none/\b≠X.env.locals/\b∉X.fs/\(b∈X.ex\/X.s₀.heap.objs.size<=b)/\(∀x c,X.env.cells.lookup x=some c->c≠b)/\∀p∈X.pn++pins,p.1≠b
theorem Inv.fpOk {X:Cx}{pins:List (Addr×Obj)}{σ:St}{H H':Hp}{s:LM}{b:Addr}(I:Inv X pins σ H s)(hb:s.heap.objs.size<=b)(hn:H' b=none):fC X pins H' b:=by
 refine ⟨hn,MU (L5 I.lt hb),I.nofs hb,.inr (LR I.sz hb),fun x c e z=>?_,fun p hp z=>?_⟩
 ·obtain ⟨v,q⟩:=I.cell x c e
  exact absurd (L5 q.lt (by rw [z];exact hb)) (MX _)
 ·exact absurd (L5 (L4 (I.pin p hp).1) (by rw [z];exact hb)) (MX _)
structure Turn (P:Mc) (w:Me) (K:LH) (tg:Expr) (J:It) (fp:List Addr) (it:Addr) (tn:Nat->Heap->Prop):Prop where
 mem:it∈fp
 obj:∀i h,tn i h->∀b∈fp,∃o,h.get? b=some o/\∀v,o.data≠.cell v
 keep:∀i h h',tn i h->(∀b∈fp,∀o,h.get? b=some o->h'.get? b=some o)->tn i h'
 item:∀(X:Cx),X.prog=P->X.w=w->X.K=K->X.calm=true->∀(i:Nat) (pins:List (Addr×Obj)) (s:LM) (σ:St) (H:Hp) (E:LI->LM->Prop),Inv X pins σ H s->(∀b∈fp,fC X pins H b)->tn i s.heap->J.go i H->
  wpAny (model P w) X.A (pyNext (.ref it)) (fun r s1=>∃u,r=some u/\
   wpAny (model P w) X.A (letOwnedTupleGo tg (.ref it) u) (fun _ s2=>∃x H',Inv X pins σ H' s2/\RelV x u/\J.yld i H x H'/\tn (i+1) s2.heap/\∀b∈fp,H' b=none) E s1) E s
 done:∀(X:Cx),X.prog=P->X.w=w->X.K=K->X.calm=true->∀(i:Nat) (pins:List (Addr×Obj)) (s:LM) (σ:St) (H:Hp) (E:LI->LM->Prop),Inv X pins σ H s->(∀b∈fp,fC X pins H b)->tn i s.heap->J.stop i H->
  wpAny (model P w) X.A (pyNext (.ref it)) (fun r s1=>r=none/\Inv X pins σ H s1) E s
 self:∀(A:MK) (i:Nat) (s:LM) (Q:LI->LM->Prop) (E:LI->LM->Prop),tn i s.heap->Q (.ref it) s->wpAny (model P w) A (pyIter (.ref it)) Q E s
abbrev TI:=St->Hp->(It->Hp->Prop)->Prop
noncomputable def Cb (X:Cx)(pins:List (Addr×Obj))(σ:St)(tg:Expr)(R:It->Hp->Prop)(itv:LI)(s2:LM):Prop:=
 ∃(it:Addr) (fp:List Addr) (tn:Nat->Heap->Prop) (J:It) (H':Hp),itv=.ref it/\Inv X pins σ H' s2/\Turn X.prog X.w X.K tg J fp it tn/\tn 0 s2.heap/\(∀b∈fp,fC X pins H' b)/\R J H'
noncomputable def PI (X:Cx)(tg iter:Expr)(wi:TI):Prop:=
 ∀(pins:List (Addr×Obj)) (s:LM) (σ:St) (H:Hp) (R:It->Hp->Prop),Inv X pins σ H s->wi σ H R->
  wpAny (model X.prog X.w) X.A (eval iter X.env) (fun v s1=>wpAny (model X.prog X.w) X.A (pyIter v) (Cb X pins σ tg R) X.xe s1) X.xe s
theorem qT {M:Model}{A:MK}{E:LI->LM->Prop}{s:LM}{tg:Expr}{it:Addr}{u:LI}{o:Obj}{n:String}{vs:Array LI}{Q:Unit->LM->Prop}(ho:s.heap.get? it=some o)(hc:o.cls=.type n)(hd:o.data=.fields vs)
 (hn:["enumerate","zip","dict_itemiterator","dict_reverseitemiterator","odict_iterator","itertools.zip_longest","itertools.pairwise"].contains n=false) (hQ:Q () s):wpAny M A (letOwnedTupleGo tg (.ref it) u) Q E s:=by
 unfold letOwnedTupleGo
 cases tg<;>first
  |exact tqb hQ
  |(cases u<;>first
   |exact tqb hQ
   | (refine tqa (wpAny_load ho ?_)
      rw [hc,hd]
      show wpAny M A (if (["enumerate","zip","dict_itemiterator","dict_reverseitemiterator","odict_iterator","itertools.zip_longest","itertools.pairwise"].contains n&&vs[0]?==some (rawInt _))=true then _ else _) Q E s
      rw [if_neg (by intro h;rw [hn,Bool.false_and] at h;cases h)]
      exact tqb hQ))
noncomputable def HG (K:LH)(a:Addr):It:=
 ⟨fun i H=>∃xs x,b9 K H a xs/\xs[i]?=some x,fun i H x H'=>H'=H/\∀xs,b9 K H a xs->xs[i]?=some x,fun i H=>∃xs,b9 K H a xs/\xs.length<=i⟩
noncomputable def HE (K:LH)(a:Addr):It:=
 ⟨fun i H=>∃xs x,c9 K H a xs/\xs[i]?=some x,fun i H x H'=>H'=H/\∀xs,c9 K H a xs->xs[i]?=some x,fun i H=>∃xs,c9 K H a xs/\xs.length<=i⟩
noncomputable def Cf (lo:Int)(n:Nat):It:=⟨fun i _=>i<n,fun i H x H'=>H'=H/\x=.int (lo+i),fun i _=>n<=i⟩
theorem wu {P:Mc}{w:Me}{K:LH}{tg:Expr}(a it:Addr):Turn P w K tg (HG K a) [it] it (fun i h=>h.IsListIter it a i) where
 mem:=by simp
 obj:=fun i h st b hb=>by
  have e:b=it:=by simpa using hb
  subst e
  obtain ⟨o,e,c,d⟩:=st
  exact ⟨o,e,fun v z=>by rw [d] at z;cases z⟩
 keep:=fun i h h' st k=>st.at fun o e=>k it (by simp) o e
 item:=by
  intro X hP hw hK hc i pins s σ H E I hf st hg
  subst hP hw hK
  obtain ⟨xs,x,hq,hx⟩:=hg
  obtain ⟨its,rv,p,hz⟩:=I.list hq
  obtain ⟨u,hu,ru⟩:=rv.get hx
  obtain ⟨f0,f1,f2,f3,f4,f5⟩:=hf it (by simp)
  refine wpAny_pyNext_list_item st p.isList (x:=u) (by simpa using hu) fun h' st' sb=>?_
  have I1:Inv X pins σ H {s with heap:=h'}:=I.turned (t':=s.toks) (fun b o hb e=>(sb.2 b hb).trans e) f0 f1 f3 f4 f5
  obtain ⟨o,e,c,d⟩:=id st'
  exact ⟨u,rfl,qT (s:={s with heap:=h'}) e c d (by decide) ⟨x,H,I1,ru,⟨rfl,fun ys hy=>by rw [I.list_inj hy hq];exact hx⟩,st',fun b hb=>(hf b hb).1⟩⟩
 done:=by
  intro X hP hw hK hc i pins s σ H E I hf st hg
  subst hP hw hK
  obtain ⟨xs,hq,hx⟩:=hg
  obtain ⟨its,rv,p,hz⟩:=I.list hq
  obtain ⟨f0,f1,f2,f3,f4,f5⟩:=hf it (by simp)
  have hl:=rv.length
  exact wpAny_pyNext_list_end (I.ok.hd hc) st p.isList (by simp;omega) fun h' eb=>⟨rfl,I.turned (t':=s.toks) (fun b o hb e=>eb b o hb e) f0 f1 f3 f4 f5⟩
 self:=fun _ _ _ _ _ st h=>wpAny_pyIter_listiter st h
theorem uI {P:Mc}{w:Me}{K:LH}{tg:Expr}(a it:Addr):Turn P w K tg (HE K a) [it] it (fun i h=>h.IsTupleIter it a i) where
 mem:=by simp
 obj:=fun i h st b hb=>by
  have e:b=it:=by simpa using hb
  subst e
  obtain ⟨o,e,c,d⟩:=st
  exact ⟨o,e,fun v z=>by rw [d] at z;cases z⟩
 keep:=fun i h h' st k=>st.at fun o e=>k it (by simp) o e
 item:=by
  intro X hP hw hK hc i pins s σ H E I hf st hg
  subst hP hw hK
  obtain ⟨xs,x,hq,hx⟩:=hg
  obtain ⟨its,rv,p,hz⟩:=I.tuple hq
  obtain ⟨u,hu,ru⟩:=rv.get hx
  obtain ⟨f0,f1,f2,f3,f4,f5⟩:=hf it (by simp)
  refine wpAny_pyNext_tuple_item st (show s.heap.IsTuple a its.toArray from p) (x:=u) (by simpa using hu) fun h' st' sb=>?_
  have I1:Inv X pins σ H {s with heap:=h'}:=I.turned (t':=s.toks) (fun b o hb e=>(sb.2 b hb).trans e) f0 f1 f3 f4 f5
  obtain ⟨o,e,c,d⟩:=id st'
  exact ⟨u,rfl,qT (s:={s with heap:=h'}) e c d (by decide) ⟨x,H,I1,ru,⟨rfl,fun ys hy=>by rw [I.tuple_inj hy hq];exact hx⟩,st',fun b hb=>(hf b hb).1⟩⟩
 done:=by
  intro X hP hw hK hc i pins s σ H E I hf st hg
  subst hP hw hK
  obtain ⟨xs,hq,hx⟩:=hg
  obtain ⟨its,rv,p,hz⟩:=I.tuple hq
  obtain ⟨f0,f1,f2,f3,f4,f5⟩:=hf it (by simp)
  have hl:=rv.length
  exact wpAny_pyNext_tuple_end (I.ok.hd hc) st (show s.heap.IsTuple a its.toArray from p) (by simp;omega) fun h' eb=>⟨rfl,I.turned (t':=s.toks) (fun b o hb e=>eb b o hb e) f0 f1 f3 f4 f5⟩
 self:=fun _ _ _ _ _ st h=>wpAny_pyIter_tupleiter st h
theorem uJ {P:Mc}{w:Me}{K:LH}{tg:Expr}(it:Addr)(lo:Int)(n:Nat):Turn P w K tg (Cf lo n) [it] it (fun i h=>IsRangeIter h it (lo+(i:Nat)*1) ((n:Int)-(i:Nat)) 1) where
 mem:=by simp
 obj:=fun i h st b hb=>by
  have e:b=it:=by simpa using hb
  subst e
  exact ⟨_,st,fun v z=>by
   have z':Data.fields _=Data.cell v:=z
   cases z'⟩
 keep:=fun i h h' st k=>k it (by simp) _ st
 item:=by
  intro X hP hw hK hc i pins s σ H E I hf st hg
  subst hP hw hK
  obtain ⟨f0,f1,f2,f3,f4,f5⟩:=hf it (by simp)
  have W:=Walks.range (prog:=X.prog) (w:=X.w) (I.ok.hd hc) it lo 1 n
  refine W.item i s _ _ hg st fun v h' tk hv st' kk=>?_
  obtain ⟨t,rfl⟩:=hv
  have I1:Inv X pins σ H {s with heap:=h',toks:=tk}:=I.turned (fun b o hb e=>kk b o (by simpa using hb) e) f0 f1 f3 f4 f5
  refine ⟨_,rfl,qT (s:={s with heap:=h',toks:=tk}) (n:="range_iterator") st' rfl rfl (by decide) ⟨.int (lo+i),H,I1,⟨t,?_⟩,⟨rfl,rfl⟩,st',fun b hb=>(hf b hb).1⟩⟩
  rw [Int.mul_one]
 done:=by
  intro X hP hw hK hc i pins s σ H E I hf st hg
  subst hP hw hK
  obtain ⟨f0,f1,f2,f3,f4,f5⟩:=hf it (by simp)
  exact wpAny_pyNext_range_end (I.ok.hd hc) st (by have:n<=i:=hg;omega) fun h' eb=>⟨rfl,I.turned (t':=s.toks) (fun b o hb e=>eb b o hb e) f0 f1 f3 f4 f5⟩
 self:=fun _ _ _ _ _ st h=>wpAny_pyIter_rangeiter st h
end L2
namespace L2
open PySem PySem.Spec PyProof.Rows
section
variable {X:Cx}{tg:Expr}
noncomputable def IJ (K:LH)(tl:TE):TI:=fun σ H R=>tl σ H fun x H1=>∃a,x=.ref a/\(∃xs,b9 K H1 a xs)/\R (HG K a) H1
noncomputable def KS (K:LH)(tl:TE):TI:=fun σ H R=>tl σ H fun x H1=>∃a,x=.ref a/\(∃xs,c9 K H1 a xs)/\R (HE K a) H1
theorem Dr {l:Expr}{tl:TE}(hl:PE X l tl):PI X tg l (IJ X.K tl):=by
 intro pins s σ H R I h
 refine aO (hl pins s σ H _ I h) fun v s1 ⟨x,H1,I1,r1,q1⟩=>?_
 obtain ⟨a,e,⟨xs,hq⟩,q⟩:=q1
 subst e
 cases r1
 obtain ⟨its,rv,p,hz⟩:=I1.list hq
 refine wpAny_pyIter_list p.isList ?_
 refine ⟨s1.heap.objs.size,[s1.heap.objs.size],_,_,H1,rfl,I1.kept (t':=s1.toks) fun b o e=>LK _ e,wu a _,⟨_,L6 _ rfl,rfl,rfl⟩,fun b hb=>?_,q⟩
 have e:b=s1.heap.objs.size:=by simpa using hb
 subst e
 exact I1.fpOk (LP _) (I1.hok.fresh (LP _))
theorem FI {l:Expr}{tl:TE}(hl:PE X l tl):PI X tg l (KS X.K tl):=by
 intro pins s σ H R I h
 refine aO (hl pins s σ H _ I h) fun v s1 ⟨x,H1,I1,r1,q1⟩=>?_
 obtain ⟨a,e,⟨xs,hq⟩,q⟩:=q1
 subst e
 cases r1
 obtain ⟨its,rv,p,hz⟩:=I1.tuple hq
 refine wpAny_pyIter_tuple (show s1.heap.IsTuple a its.toArray from p) ?_
 refine ⟨s1.heap.objs.size,[s1.heap.objs.size],_,_,H1,rfl,I1.kept (t':=s1.toks) fun b o e=>LK _ e,uI a _,⟨_,L6 _ rfl,rfl,rfl⟩,fun b hb=>?_,q⟩
 have e:b=s1.heap.objs.size:=by simpa using hb
 subst e
 exact I1.fpOk (LP _) (I1.hok.fresh (LP _))
theorem zK {pins:List (Addr×Obj)}{σ:St}{H:Hp}{s:LM}{R:It->Hp->Prop}{E:LI->LM->Prop}{lo hi:Int}{t u v:Tok}{tk:Nat}(I:Inv X pins σ H s)(h1:-(2^62)<=lo)(h2:lo<2^62)(h3:-(2^62)<=hi)(h4:hi<2^62)
 (q:R (Cf lo (hi-lo).toNat) H):wpAny (model X.prog X.w) X.A (pyIter (.ref s.heap.objs.size)) (Cb X pins σ tg R) E {s with heap:=s.heap.push {cls:=.type "range",data:=.fields #[.int lo t,.int hi u,.int 1 v]},toks:=tk}:=by
 refine wpAny_pyIter_range (IsRange.new ..) (small_one h1 h2 h3 h4) ?_
 have I1:Inv X pins σ H {s with heap:=s.heap.push {cls:=.type "range",data:=.fields #[.int lo t,.int hi u,.int 1 v]},toks:=tk}:=I.kept fun b o e=>LK _ e
 refine ⟨(s.heap.push {cls:=.type "range",data:=.fields #[.int lo t,.int hi u,.int 1 v]}).objs.size,[(s.heap.push {cls:=.type "range",data:=.fields #[.int lo t,.int hi u,.int 1 v]}).objs.size],_,_,H,rfl,
  I1.kept (t':=tk) fun b o e=>LK _ e,uJ _ lo (hi-lo).toNat,?_,fun b hb=>?_,q⟩
 ·have e1:lo+((0:Nat):Int)*1=lo:=by simp
  have e2:(((hi-lo).toNat:Nat):Int)-((0:Nat):Int)=Builtin.Range.rangeSize lo hi 1:=by rw [rangeSize_one];split<;>omega
  show IsRangeIter _ _ (lo+((0:Nat):Int)*1) ((((hi-lo).toNat:Nat):Int)-((0:Nat):Int)) 1
  rw [e1,e2]
  exact L6 _ rfl
 ·have e:b=(s.heap.push {cls:=.type "range",data:=.fields #[.int lo t,.int hi u,.int 1 v]}).objs.size:=by simpa using hb
  subst e
  exact I1.fpOk (LP _) (I1.hok.fresh (LP _))
noncomputable def II (ta:TA):TI:=fun σ H R=>ta σ H fun vs H1=>∃j:Int,vs=[.int j]/\-(2^62)<=j/\j<2^62/\R (Cf 0 j.toNat) H1
theorem xh {a:Expr}{ta:TA}{p pos:Pos}(hg:Gl X "range")(hm:X.mg "range"=none)(ha:PA X [a] ta)(hs:starEach [a] X.env=[(false,eval a X.env)]:=by rfl):PI X tg (.Call (.Name "range" p) [a] [] pos) (II ta):=by
 intro pins s σ H R I h
 refine Call_ (gz I hg hm boot_range (MQ (aO (ha pos pins s σ H _ I h) fun us s1 ⟨vs,H1,I1,r1,q1⟩=>?_) hs rfl))
 obtain ⟨j,e,q1,q2,q⟩:=q1
 subst e
 cases r1 with
 | cons r rr =>
   cases rr
   obtain ⟨t,rfl⟩:=r
   exact call_range_1 (zK I1 (by omega) (by omega) q1 q2 (by simpa using q))
noncomputable def Kc (wi:TI)(g:TG)(tb:TS):TS:=fun D σ H=>wi σ H fun J H1=>∃W:Nat->Nat->St->Hp->Prop,(∃m,W 0 m σ H1)/\∀i m σ H,W i m σ H->
 (J.stop i H/\D.nx σ H)\/(J.go i H/\∃N:St->Hp->Prop,(∀σ' H',N σ' H'->∃m',m'<m/\W (i+1) m' σ' H')/\∀x H',J.yld i H x H'->g x σ H' fun σ2 H2=>tb {D with nx:=N,ct:=N,bk:=D.nx} σ2 H2)
noncomputable def nU (fp:List Addr)(h:Heap):List (Addr×Obj):=fp.filterMap fun b=>(h.get? b).map fun o=>(b,o)
theorem iH {fp:List Addr}{h:Heap}{b:Addr}{o:Obj}(hb:b∈fp)(e:h.get? b=some o):(b,o)∈nU fp h:=List.mem_filterMap.mpr ⟨b,hb,by rw [e];rfl⟩
theorem xy {fp:List Addr}{h:Heap}{p:Addr×Obj}(hp:p∈nU fp h):p.1∈fp/\h.get? p.1=some p.2:=by
 obtain ⟨b,hb,e⟩:=List.mem_filterMap.mp hp
 cases q:h.get? b with
 |none=>rw [q] at e;cases e
 | some o =>
   rw [q] at e
   have e':(b,o)=p:=LO e
   subst e'
   exact ⟨hb,q⟩
theorem Inv.pinned {pins:List (Addr×Obj)}{σ:St}{H:Hp}{s:LM}{fp:List Addr}(I:Inv X pins σ H s)(hf:∀b∈fp,fC X pins H b)(ho:∀b∈fp,∃o,s.heap.get? b=some o/\∀v,o.data≠.cell v):Inv X (pins++nU fp s.heap) σ H s:=
 I.pins_of fun p hp=>(Ms.mp hp).elim (fun z=>I.pin p (MG _ z)) fun z=>by
  obtain ⟨hb,e⟩:=xy z
  obtain ⟨f0,f1,f2,_⟩:=hf p.1 hb
  obtain ⟨o,e',d⟩:=ho p.1 hb
  rw [e] at e';cases e'
  exact ⟨e,f0,f1,f2,d⟩
theorem Inv.unpinned {pins pl:List (Addr×Obj)}{σ:St}{H:Hp}{s:LM}(I:Inv X (pins++pl) σ H s):Inv X pins σ H s:=I.pins_of fun p hp=>I.pin p (MG _ (NK _ hp))
theorem FG {iter:Expr}{body:List Stmt}{wi:TI}{g:TG}{tb:TS}{pos:Pos}(hp:PassesOwn (model X.prog X.w) X.A X.env X.xe)(hc:X.calm=true)(hi:PI X tg iter wi)(hg:PG X tg g)(hb:lQ X body tb)
 (hs:∀x,foldedSetIterable iter X.env x=pure x:=by intro _;rfl):PS X (.For tg iter body [] pos) (Kc wi g tb):=by
 intro pins s σ H D I h
 refine wpAny_For (aO (hi pins s σ H _ I h) fun v s1 h1=>aO h1 fun itv s2 h2=>?_) hs
 obtain ⟨it,fp,tn,J,H2,e,I2,T,st2,f2,W,⟨m0,w0⟩,turn⟩:=h2
 subst e
 have stat:∀{H':Hp},(∀b∈fp,H' b=none)->∀b∈fp,fC X pins H' b:=fun hn b hb=>⟨hn b hb,(f2 b hb).2⟩
 refine codeAny_forLoop_any (fun n s'=>∃i σ' H',Inv X pins σ' H' s'/\tn i s'.heap/\(∀b∈fp,H' b=none)/\W i n σ' H') ?_ m0 ⟨0,σ,H2,I2,st2,fun b hb=>(f2 b hb).1,w0⟩
 rintro n s3 ⟨i,σ3,H3,I3,st3,fr3,w3⟩
 rcases turn i n σ3 H3 w3 with ⟨stop,qn⟩|⟨go,N,hN,step⟩
 ·refine wpAny_passesOwn hp (aO (T.done X rfl rfl rfl hc i pins s3 σ3 H3 X.xe I3 (stat fr3) st3 stop) fun r s4 ⟨hr,I4⟩=>?_)
  subst hr
  exact wpAny_execs_nil ⟨σ3,H3,I4,qn⟩
 ·refine wpAny_passesOwn hp (aO (T.item X rfl rfl rfl hc i pins s3 σ3 H3 X.xe I3 (stat fr3) st3 go) fun r s4 ⟨u,hr,h4⟩=>?_)
  subst hr
  refine wpAny_passesOwn hp (aO h4 fun _ s5 ⟨x,H5,I5,r5,y5,st5,fr5⟩=>?_)
  have I5':=I5.pinned (stat fr5) (T.obj _ _ st5)
  refine wpAny_passesOwn hp (aO (hg _ s5 σ3 H5 x u _ I5' r5 (step x H5 y5)) fun _ s6 ⟨σ6,H6,I6,q6⟩=>?_)
  refine wpAny_passesOwn hp (aO (hb _ s6 σ6 H6 _ I6 q6) fun f s7 q7=>?_)
  have again:∀{σ7:St}{H7:Hp},Inv X (pins++nU fp s5.heap) σ7 H7 s7->N σ7 H7->∃m,m<n/\∃i σ' H',Inv X pins σ' H' s7/\tn i s7.heap/\(∀b∈fp,H' b=none)/\W i m σ' H':=fun {σ7 H7} I7 n7=>by
   obtain ⟨m',hm,w7⟩:=hN σ7 H7 n7
   refine ⟨m',hm,i+1,σ7,H7,I7.unpinned,T.keep _ _ _ st5 fun b hb o e=>(I7.pin (b,o) (MG _ (MG _ (iH hb e)))).1,fun b hb=>?_,w7⟩
   obtain ⟨o,e,d⟩:=T.obj _ _ st5 b hb
   exact (I7.pin (b,o) (MG _ (MG _ (iH hb e)))).2.1
  cases f with
  |next=>obtain ⟨σ7,H7,I7,n7⟩:=q7;exact again I7 n7
  |cont=>obtain ⟨σ7,H7,I7,n7⟩:=q7;exact again I7 n7
  |brk=>obtain ⟨σ7,H7,I7,q7⟩:=q7;exact ⟨σ7,H7,I7.unpinned,q7⟩
  |ret v=>obtain ⟨x7,σ7,H7,I7,r7,q7⟩:=q7;exact ⟨x7,σ7,H7,I7.unpinned,r7,q7⟩
end
end L2
namespace L2
open PySem PySem.Spec PyProof.Rows
abbrev R2:=V->V->Hp->VK->Prop
noncomputable def bz (X:Cx)(f:LI->LI->Sem LI)(r:R2):Prop:=
 ∀(pins:List (Addr×Obj)) (s:LM) (σ:St) (H:Hp) (x y:V) (v u:LI) (Q:VK),Inv X pins σ H s->RelV x v->RelV y u->r x y H Q->
  wpAny (model X.prog X.w) X.A (f v u) (EP X pins σ Q) X.xe s
noncomputable def Hz (X:Cx)(f:LI->Sem LI)(r:V->Hp->VK->Prop):Prop:=
 ∀(pins:List (Addr×Obj)) (s:LM) (σ:St) (H:Hp) (x:V) (v:LI) (Q:VK),Inv X pins σ H s->RelV x v->r x H Q->
  wpAny (model X.prog X.w) X.A (f v) (EP X pins σ Q) X.xe s
noncomputable def cF (X:Cx)(f:LI)(r:List V->Hp->VK->Prop):Prop:=
 ∀(pins:List (Addr×Obj)) (s:LM) (σ:St) (H:Hp) (xs:List V) (us:List LI) (Q:VK),Inv X pins σ H s->Vals xs us->r xs H Q->
  wpAny (model X.prog X.w) X.A (call f us) (EP X pins σ Q) X.xe s
noncomputable def Lh (X:Cx)(r:V->Hp->(Bool->Hp->Prop)->Prop):Prop:=
 ∀(pins:List (Addr×Obj)) (s:LM) (σ:St) (H:Hp) (x:V) (v:LI) (Q:Bool->Hp->Prop),Inv X pins σ H s->RelV x v->r x H Q->
  wpAny (model X.prog X.w) X.A (truthy v) (TP X pins σ Q) X.xe s
noncomputable def wD (r:R2)(ta tb:TE):TE:=fun σ H Q=>ta σ H fun x H1=>tb σ H1 fun y H2=>r x y H2 Q
noncomputable def tUn (r:V->Hp->VK->Prop)(ta:TE):TE:=fun σ H Q=>ta σ H fun x H1=>r x H1 Q
noncomputable def rI (C:Int->Int->Prop)(g:Int->Int->V):R2:=fun x y H Q=>∃i j,x=.int i/\y=.int j/\C i j/\Q (g i j) H
noncomputable def qf (g:Int->Int->V):R2:=fun x y H Q=>∃i j,x=.int i/\y=.int j/\Q (g i j) H
noncomputable def rU (g:Int->V):V->Hp->VK->Prop:=fun x H Q=>∃i,x=.int i/\Q (g i) H
section
variable {X:Cx}{a b c:Expr}{ta tb tc:TE}{pos:Pos}
theorem AV (ha:PE X a ta)(hb:PE X b tb){pins:List (Addr×Obj)}{s:LM}{σ:St}{H:Hp}{R:V->V->Hp->Prop}(I:Inv X pins σ H s)
 (h:ta σ H fun x H1=>tb σ H1 fun y H2=>R x y H2) {Q:LI->LM->Prop}{f:LI->LI->Sem LI}
 (hf:∀v u s2 x y H2,Inv X pins σ H2 s2->RelV x v->RelV y u->R x y H2->wpAny (model X.prog X.w) X.A (f v u) Q X.xe s2) :
 wpAny (model X.prog X.w) X.A (eval a X.env) (fun v s₁=>wpAny (model X.prog X.w) X.A (eval b X.env) (fun u s₂=>wpAny (model X.prog X.w) X.A (f v u) Q X.xe s₂) X.xe s₁) X.xe s:=by
 refine aO (ha pins s σ H _ I h) fun v s1 ⟨x,H1,I1,r1,q1⟩=>?_
 refine aO (hb pins s1 σ H1 _ I1 q1) fun u s2 ⟨y,H2,I2,r2,q2⟩=>?_
 exact hf v u s2 x y H2 I2 r1 r2 q2
theorem Il {op:Operator}{r:R2}(ho:bz X (binaryOp op) r)(ha:PE X a ta)(hb:PE X b tb):PE X (.BinOp a op b pos) (wD r ta tb):=by
 intro pins s σ H Q I h
 exact wpAny_BinOp (AV ha hb I h fun v u s2 x y H2 I2 rx ry q=>ho pins s2 σ H2 x y v u Q I2 rx ry q)
theorem Bu {op:UnaryOp}{r:V->Hp->VK->Prop}(ho:Hz X (unaryOp op) r)(ha:PE X a ta):PE X (.UnaryOp op a pos) (tUn r ta):=by
 intro pins s σ H Q I h
 exact UnaryOp_ (aO (ha pins s σ H _ I h) fun v s1 ⟨x,H1,I1,r1,q1⟩=>ho pins s1 σ H1 x v Q I1 r1 q1)
theorem Bx {f:LI->LI->Sem LI}{C:Int->Int->Prop}{g:Int->Int->Int}
 (rule:∀(i j:Int) (t u:Tok) (s:LM) (Q:LI->LM->Prop) (E:LI->LM->Prop),C i j->Q (.int (g i j) s.toks) {s with toks:=s.toks+1}->wpAny (model X.prog X.w) X.A (f (.int i t) (.int j u)) Q E s) :
 bz X f (rI C fun i j=>.int (g i j)):=by
 intro pins s σ H x y v u Q I rx ry h
 obtain ⟨i,j,rfl,rfl,hc,q⟩:=h
 obtain ⟨t,rfl⟩:=rx
 obtain ⟨t',rfl⟩:=ry
 exact rule i j t t' s _ _ hc ⟨.int (g i j),H,I.tok _,⟨_,rfl⟩,q⟩
theorem F8 {f:LI->LI->Sem LI}{g:Int->Int->Int}
 (rule:∀(i j:Int) (t u:Tok) (s:LM) (Q:LI->LM->Prop) (E:LI->LM->Prop),Q (.int (g i j) s.toks) {s with toks:=s.toks+1}->wpAny (model X.prog X.w) X.A (f (.int i t) (.int j u)) Q E s) :
 bz X f (qf fun i j=>.int (g i j)):=by
 intro pins s σ H x y v u Q I rx ry h
 obtain ⟨i,j,rfl,rfl,q⟩:=h
 obtain ⟨t,rfl⟩:=rx
 obtain ⟨t',rfl⟩:=ry
 exact rule i j t t' s _ _ ⟨.int (g i j),H,I.tok _,⟨_,rfl⟩,q⟩
theorem uZ {f:LI->LI->Sem LI}{g:Int->Int->Bool}
 (rule:∀(i j:Int) (t u:Tok) (s:LM) (Q:LI->LM->Prop) (E:LI->LM->Prop),Q (.bool (g i j)) s->wpAny (model X.prog X.w) X.A (f (.int i t) (.int j u)) Q E s) :
 bz X f (qf fun i j=>.bl (g i j)):=by
 intro pins s σ H x y v u Q I rx ry h
 obtain ⟨i,j,rfl,rfl,q⟩:=h
 obtain ⟨t,rfl⟩:=rx
 obtain ⟨t',rfl⟩:=ry
 exact rule i j t t' s _ _ ⟨.bl (g i j),H,I,rfl,q⟩
noncomputable def HL (i j:Int):Prop:=0<j/\j<1073741824
noncomputable def HK (i j:Int):Prop:=0<=j/\j<=1000000/\i.natAbs<2^64
noncomputable def A1 (i j:Int):Prop:=(-(2^64)<i/\i<2^64)\/(-(2^64)<j/\j<2^64)
theorem A1.ok {i j:Int}(h:A1 i j):IntMulOk i j:=by
 rcases h with ⟨h1,h2⟩|⟨h1,h2⟩
 ·exact .of_left (intBits_le_64 h1 h2)
 ·exact .of_right (intBits_le_64 h1 h2)
theorem F7:bz X (binaryOp .Add) (qf fun i j=>.int (i+j)):=F8 fun _ _ _ _ _ _ _ q=>add_int q
theorem F0:bz X (binaryOp .Sub) (qf fun i j=>.int (i-j)):=F8 fun _ _ _ _ _ _ _ q=>sub_int q
theorem F3:bz X (binaryOp .Mult) (rI A1 fun i j=>.int (i*j)):=Bx fun _ _ _ _ _ _ _ hc q=>mul_int q hc.ok
theorem DD:bz X (binaryOp .FloorDiv) (rI HL fun i j=>.int (i / j)):=Bx fun i j _ _ _ _ _ hc q=>by
 have h1:(0:Int)<j:=hc.1
 have h2:j<1073741824:=hc.2
 exact floordiv_int (by omega) (by rw [Int.fdiv_eq_ediv_of_nonneg i (by omega)];exact q) (.inl (PyProof.noPylong_small (by omega)))
theorem F4:bz X (binaryOp .Mod) (rI (fun _ j=>0<j) fun i j=>.int (i % j)):=Bx fun i j _ _ _ _ _ hc q=>by
 have h1:(0:Int)<j:=hc
 exact mod_int' (by omega) (by rw [Int.fmod_eq_emod_of_nonneg i (by omega)];exact q)
theorem F2:bz X (binaryOp .Pow) (rI HK fun i j=>.int (i^j.toNat)):=Bx fun _ _ _ _ _ _ _ hc q=>pow_int_small hc.1 hc.2.1 hc.2.2 q
theorem unI {f:LI->Sem LI}{g:Int->Int}
 (rule:∀(i:Int) (t:Tok) (s:LM) (Q:LI->LM->Prop) (E:LI->LM->Prop),Q (.int (g i) s.toks) {s with toks:=s.toks+1}->wpAny (model X.prog X.w) X.A (f (.int i t)) Q E s) :
 Hz X f (rU fun i=>.int (g i)):=by
 intro pins s σ H x v Q I rx h
 obtain ⟨i,rfl,q⟩:=h
 obtain ⟨t,rfl⟩:=rx
 exact rule i t s _ _ ⟨.int (g i),H,I.tok _,⟨_,rfl⟩,q⟩
theorem wb:Hz X (unaryOp .USub) (rU fun i=>.int (-i)):=unI fun _ _ _ _ _ q=>neg_int q
end
noncomputable def E7:V->V->Bool
 |.non,.non=>true|.non,.int _=>true|.int _,.non=>true|.non,.bl _=>true|.bl _,.non=>true|.non,.str _=>true|.str _,.non=>true
 |.int _,.int _=>true|.bl _,.bl _=>true|.str _,.str _=>true|.byt _,.byt _=>true
 |.int _,.str _=>true|.str _,.int _=>true|.bl _,.str _=>true|.str _,.bl _=>true
 |_,_=>false
noncomputable def rEq:R2:=fun x y H Q=>E7 x y=true/\Q (.bl (decide (x=y))) H
noncomputable def rNe:R2:=fun x y H Q=>E7 x y=true/\Q (.bl (!decide (x=y))) H
theorem uz {i j:Int}:decide (V.int i=V.int j)=(i==j):=by
 rw [NC]
 simp
theorem yj {i j:Bool}:decide (V.bl i=V.bl j)=(i==j):=by
 rw [NC]
 simp
theorem mw {i j:Str}:decide (V.str i=V.str j)=(i==j):=by
 rw [NC]
 simp
theorem uA {i j:Array UInt8}:decide (V.byt i=V.byt j)=(i.toList==j.toList):=by
 rw [NC]
 cases i
 cases j
 simp
section
variable {X:Cx}{a b c:Expr}{ta tb tc:TE}{pos:Pos}
theorem bc {pins:List (Addr×Obj)}{σ:St}{H:Hp}{s:LM}{Q:VK}{k k':Bool}(I:Inv X pins σ H s)(q:Q (.bl k) H)(e:k=k'):EP X pins σ Q (.bool k') s:=by
 subst e
 exact ⟨.bl k,H,I,rfl,q⟩
theorem IB:bz X (compareOp .Eq) rEq:=by
 intro pins s σ H x y v u Q I rx ry h
 obtain ⟨hs,q⟩:=h
 cases x with
 | non =>
   cases rx
   cases y with
   |non=>cases ry;exact PySem.EqNone.eq_none_none (bc I q (by simp))
   |bl j=>cases ry;exact PySem.EqNone.eq_none_bool (bc I q (by simp))
   |int j=>obtain ⟨t',rfl⟩:=ry;exact PySem.EqNone.eq_none_int (bc I q (by simp))
   |str j=>obtain ⟨t',rfl⟩:=ry;exact PySem.EqNone.eq_none_str (bc I q (by simp))
   |_=>exact absurd (show false=true from hs) Mf
 | bl i =>
   cases rx
   cases y with
   |non=>cases ry;exact PySem.EqNone.eq_bool_none (bc I q (by simp))
   |bl j=>cases ry;exact eq_bool (bc I q yj)
   |str j=>obtain ⟨t',rfl⟩:=ry;exact PySem.EqMixed.eq_bool_str (bc I q (by simp))
   |_=>exact absurd (show false=true from hs) Mf
 | int i =>
   obtain ⟨t,rfl⟩:=rx
   cases y with
   |non=>cases ry;exact PySem.EqNone.eq_int_none (bc I q (by simp))
   |int j=>obtain ⟨t',rfl⟩:=ry;exact eq_int (bc I q uz)
   |str j=>obtain ⟨t',rfl⟩:=ry;exact PySem.EqMixed.eq_int_str (bc I q (by simp))
   |_=>exact absurd (show false=true from hs) Mf
 | str i =>
   obtain ⟨t,rfl⟩:=rx
   cases y with
   |non=>cases ry;exact PySem.EqNone.eq_str_none (bc I q (by simp))
   |bl j=>cases ry;exact PySem.EqMixed.eq_str_bool (bc I q (by simp))
   |int j=>obtain ⟨t',rfl⟩:=ry;exact PySem.EqMixed.eq_str_int (bc I q (by simp))
   |str j=>obtain ⟨t',rfl⟩:=ry;exact eq_str (bc I q mw)
   |_=>exact absurd (show false=true from hs) Mf
 | byt i =>
   obtain ⟨t,rfl⟩:=rx
   cases y with
   |byt j=>obtain ⟨t',rfl⟩:=ry;exact PySem.W.eq_bytes (bc I q uA)
   |_=>exact absurd (show false=true from hs) Mf
 |_=>cases y<;>exact absurd (show false=true from hs) Mf
theorem Iu:bz X (compareOp .NotEq) rNe:=by
 intro pins s σ H x y v u Q I rx ry h
 obtain ⟨hs,q⟩:=h
 cases x with
 | non =>
   cases rx
   cases y with
   |non=>cases ry;exact PySem.EqNone.ne_none_none (bc I q (by simp))
   |bl j=>cases ry;exact PySem.EqNone.ne_none_bool (bc I q (by simp))
   |int j=>obtain ⟨t',rfl⟩:=ry;exact PySem.EqNone.ne_none_int (bc I q (by simp))
   |str j=>obtain ⟨t',rfl⟩:=ry;exact PySem.EqNone.ne_none_str (bc I q (by simp))
   |_=>exact absurd (show false=true from hs) Mf
 | bl i =>
   cases rx
   cases y with
   |non=>cases ry;exact PySem.EqNone.ne_bool_none (bc I q (by simp))
   |bl j=>cases ry;exact ne_bool (bc I q (congrArg not yj))
   |str j=>obtain ⟨t',rfl⟩:=ry;exact PySem.EqMixed.ne_bool_str (bc I q (by simp))
   |_=>exact absurd (show false=true from hs) Mf
 | int i =>
   obtain ⟨t,rfl⟩:=rx
   cases y with
   |non=>cases ry;exact PySem.EqNone.ne_int_none (bc I q (by simp))
   |int j=>obtain ⟨t',rfl⟩:=ry;exact ne_int (bc I q (congrArg not uz))
   |str j=>obtain ⟨t',rfl⟩:=ry;exact PySem.EqMixed.ne_int_str (bc I q (by simp))
   |_=>exact absurd (show false=true from hs) Mf
 | str i =>
   obtain ⟨t,rfl⟩:=rx
   cases y with
   |non=>cases ry;exact PySem.EqNone.ne_str_none (bc I q (by simp))
   |bl j=>cases ry;exact PySem.EqMixed.ne_str_bool (bc I q (by simp))
   |int j=>obtain ⟨t',rfl⟩:=ry;exact PySem.EqMixed.ne_str_int (bc I q (by simp))
   |str j=>obtain ⟨t',rfl⟩:=ry;exact ne_str (bc I q (congrArg not mw))
   |_=>exact absurd (show false=true from hs) Mf
 | byt i =>
   obtain ⟨t,rfl⟩:=rx
   cases y with
   |byt j=>obtain ⟨t',rfl⟩:=ry;exact PySem.W.ne_bytes (bc I q (congrArg not uA))
   |_=>exact absurd (show false=true from hs) Mf
 |_=>cases y<;>exact absurd (show false=true from hs) Mf
theorem Iv:bz X (compareOp .Lt) (qf fun i j=>.bl (decide (i<j))):=uZ fun _ _ _ _ _ _ _ q=>lt_int q
theorem Iw:bz X (compareOp .LtE) (qf fun i j=>.bl (decide (i<=j))):=uZ fun _ _ _ _ _ _ _ q=>le_int q
theorem Iy:bz X (compareOp .Gt) (qf fun i j=>.bl (decide (j<i))):=uZ fun _ _ _ _ _ _ _ q=>gt_int q
theorem Iz:bz X (compareOp .GtE) (qf fun i j=>.bl (decide (j<=i))):=uZ fun _ _ _ _ _ _ _ q=>ge_int q
theorem xu:bz X (compareOp .In) (fun x y H Q=>∃i j,x=.str i/\y=.str j/\Q (.bl (!(Builtin.Str.occurrences j i 0 j.length 1).isEmpty)) H):=by
 intro pins s σ H x y v u Q I rx ry h
 obtain ⟨i,j,rfl,rfl,q⟩:=h
 obtain ⟨t,rfl⟩:=rx
 obtain ⟨t',rfl⟩:=ry
 exact in_str (bc I q rfl)
theorem F5:bz X (compareOp .Is) (fun x y H Q=>y=.non/\Q (.bl (decide (x=.non))) H):=by
 intro pins s σ H x y v u Q I rx ry h
 obtain ⟨rfl,q⟩:=h
 cases ry
 refine is_none_gen (bc I q ?_)
 cases x<;>first
  |(cases rx;rfl)
  |(obtain ⟨t,rfl⟩:=rx;rfl)
theorem DC:bz X (compareOp .IsNot) (fun x y H Q=>y=.non/\Q (.bl (!decide (x=.non))) H):=by
 intro pins s σ H x y v u Q I rx ry h
 obtain ⟨rfl,q⟩:=h
 cases ry
 refine isnot_none_gen (bc I q ?_)
 cases x<;>first
  |(cases rx;rfl)
  |(obtain ⟨t,rfl⟩:=rx;rfl)
theorem r8:bz X (compareOp .NotIn) (fun x y H Q=>∃i j,x=.str i/\y=.str j/\Q (.bl (!(!(Builtin.Str.occurrences j i 0 j.length 1).isEmpty))) H):=by
 intro pins s σ H x y v u Q I rx ry h
 obtain ⟨i,j,rfl,rfl,q⟩:=h
 obtain ⟨t,rfl⟩:=rx
 obtain ⟨t',rfl⟩:=ry
 exact notIn_str (bc I q rfl)
theorem ub {op:CmpOp}{r:R2}(ho:bz X (compareOp op) r)(ha:PE X a ta)(hb:PE X b tb)(hm:behindInMarks op b=false):PE X (.Compare a [op] [b] pos) (wD r ta tb):=by
 intro pins s σ H Q I h
 exact wpAny_Compare1 (AV ha hb I h fun v u s2 x y H2 I2 rx ry q=>ho pins s2 σ H2 x y v u Q I2 rx ry q) hm
noncomputable def Bl (t:TE):TT:=fun σ H Q=>t σ H fun x H'=>∃k,x=.bl k/\Q k H'
theorem oU {op:CmpOp}{r:R2}(ho:bz X (compareOp op) r)(ha:PE X a ta)(hb:PE X b tb)(hm:behindInMarks op b=false):PT X (.Compare a [op] [b] pos) (Bl (wD r ta tb)):=by
 intro pins s σ H Q I h
 refine wpAny_isTrue_Compare1 (aO (ha pins s σ H _ I h) fun v s1 ⟨x,H1,I1,r1,q1⟩=>aO (hb pins s1 σ H1 _ I1 q1) fun u s2 ⟨y,H2,I2,r2,q2⟩=>
  aO (ho pins s2 σ H2 x y v u _ I2 r1 r2 q2) fun c s3 ⟨z,H3,I3,r3,k,e,q3⟩=>?_) hm
 subst e
 cases r3
 exact tqp ⟨H3,I3,q3⟩
noncomputable def rA (r r':R2)(ta tb tc:TE):TE:=fun σ H Q=>ta σ H fun x H1=>tb σ H1 fun y H2=>r x y H2 fun z H3=>∃k,z=.bl k/\
 (if k=true then tc σ H3 fun w' H4=>r' y w' H4 Q else Q (.bl false) H3)
theorem zS {op op':CmpOp}{r r':R2}(ho:bz X (compareOp op) r)(ho':bz X (compareOp op') r')(ha:PE X a ta)(hb:PE X b tb)(hc:PE X c tc)
 (hm:lastMarks [op,op'] [b,c]=false:=by with_unfolding_all rfl):PE X (.Compare a [op,op'] [b,c] pos) (rA r r' ta tb tc):=by
 intro pins s σ H Q I h
 refine Compare_chain (aO (ha pins s σ H _ I h) fun v s1 ⟨x,H1,I1,r1,q1⟩=>chain_link (aO (hb pins s1 σ H1 _ I1 q1) fun u s2 ⟨y,H2,I2,r2,q2⟩=>
  aO (ho pins s2 σ H2 x y v u _ I2 r1 r2 q2) fun d s3 ⟨z,H3,I3,r3,k,e,q3⟩=>?_)) hm
 subst e
 cases r3
 refine tqp ?_
 cases k with
 |false=>exact ite_ff ⟨.bl false,H3,I3,rfl,q3⟩
 |true=>exact ite_tt (chain_last (aO (hc pins s3 σ H3 _ I3 q3) fun w' s4 ⟨z',H4,I4,r4,q4⟩=>ho' pins s4 σ H4 y z' u w' Q I4 r2 r4 q4))
theorem zN {op op':CmpOp}{r r':R2}(ho:bz X (compareOp op) r)(ho':bz X (compareOp op') r')(ha:PE X a ta)(hb:PE X b tb)(hc:PE X c tc)
 (hm:lastMarks [op,op'] [b,c]=false:=by with_unfolding_all rfl):PT X (.Compare a [op,op'] [b,c] pos) (Bl (rA r r' ta tb tc)):=by
 intro pins s σ H Q I h
 refine isTrue_chain (aO (ha pins s σ H _ I h) fun v s1 ⟨x,H1,I1,r1,q1⟩=>test_link (aO (hb pins s1 σ H1 _ I1 q1) fun u s2 ⟨y,H2,I2,r2,q2⟩=>
  aO (ho pins s2 σ H2 x y v u _ I2 r1 r2 q2) fun d s3 ⟨z,H3,I3,r3,k,e,q3⟩=>?_)) hm
 subst e
 cases r3
 refine tqp ?_
 cases k with
 | false =>
   obtain ⟨k',e',q'⟩:=q3
   cases e'
   exact ite_ff ⟨H3,I3,q'⟩
 | true =>
   refine ite_tt (test_last (aO (hc pins s3 σ H3 _ I3 q3) fun w' s4 ⟨z',H4,I4,r4,q4⟩=>aO (ho' pins s4 σ H4 y z' u w' _ I4 r2 r4 q4) fun d' s5 ⟨z2,H5,I5,r5,k2,e2,q5⟩=>?_))
   subst e2
   cases r5
   exact tqp ⟨H5,I5,q5⟩
noncomputable def AX (K:LH)(x:V)(H:Hp)(k:Bool):Prop:=
 match x with
 |.non=>k=false
 |.bl b=>k=b
 |.int i=>k=(i != 0)
 |.str y=>y.length<=sizeLine/\k=((y.length:Int) != 0)
 |.byt y=>y.size<=sizeLine/\k=((y.size:Int) != 0)
 |.ref p=>(∃xs,b9 K H p xs/\k=!xs.isEmpty)\/(∃xs,c9 K H p xs/\k=!xs.isEmpty)\/∃kvs,H p=some (.dK kvs)/\k=!kvs.isEmpty
 |_=>False
theorem vm {κ:Type}{kvs:List (κ×V)}{vs:List (κ×LI)}(r:KV kvs vs):(!vs.isEmpty)=!kvs.isEmpty:=by
 cases r<;>rfl
theorem oj {xs:List V}{its:List LI}(r:Vals xs its):(!its.toArray.isEmpty)=!xs.isEmpty:=by
 cases r<;>simp
theorem jd:(sizeLine:Nat)<2^63:=by rw [sizeLine_eq];decide
theorem EX:Lh X (fun x H Q=>∃k,AX X.K x H k/\Q k H):=by
 intro pins s σ H x v Q I rx h
 obtain ⟨k,e,q⟩:=h
 have hl:=jd
 have hs:sizeLine=16777216:=sizeLine_eq
 cases x with
 | non =>
   cases rx
   have e':k=false:=e
   subst e'
   exact truthy_none ⟨H,I,q⟩
 | bl b =>
   cases rx
   have e':k=b:=e
   subst e'
   exact tqp ⟨H,I,q⟩
 | int i =>
   obtain ⟨t,rfl⟩:=rx
   have e':k=(i != 0):=e
   subst e'
   exact PySem.P.truthy_int ⟨H,I,q⟩
 | str y =>
   obtain ⟨t,rfl⟩:=rx
   obtain ⟨hy,e'⟩:y.length<=sizeLine/\k=((y.length:Int) != 0):=e
   subst e'
   exact PySem.P.truthy_str (by omega) ⟨H,I.tok _,q⟩
 | byt y =>
   obtain ⟨t,rfl⟩:=rx
   obtain ⟨hy,e'⟩:y.size<=sizeLine/\k=((y.size:Int) != 0):=e
   subst e'
   exact PySem.W.truthy_bytes (by omega) ⟨H,I.tok _,q⟩
 | ref p =>
   cases rx
   have e':(∃xs,b9 X.K H p xs/\k=!xs.isEmpty)\/(∃xs,c9 X.K H p xs/\k=!xs.isEmpty)\/∃kvs,H p=some (.dK kvs)/\k=!kvs.isEmpty:=e
   rcases e' with ⟨xs,hx,e'⟩|⟨xs,hx,e'⟩|⟨kvs,hx,e'⟩
   ·subst e'
    obtain ⟨its,r,pl,hz⟩:=I.list hx
    have hlen:=r.length
    exact wpAny_truthy_list pl.isList (by simp only [LQ];omega) ⟨H,I.tok _,by rw [oj r];exact q⟩
   ·subst e'
    obtain ⟨its,r,pl,hz⟩:=I.tuple hx
    have hlen:=r.length
    exact truthy_tuple pl (by simp only [LQ];omega) ⟨H,I.tok _,by rw [oj r];exact q⟩
   ·subst e'
    obtain ⟨hz,hS,vs,r,m⟩:kvs.length<=sizeLine/\(p==sysModules)=false/\∃vs,KV kvs vs/\s.heap.DictOf (jV X.prog X.w) p vs:=I.hok p _ hx
    have hlen:kvs.length=vs.length:=Paired.length r
    exact wpAny_truthy_dict hS m (by omega) ⟨H,I.tok _,by rw [vm r];exact q⟩
 |_=>exact (show False from e).elim
theorem zM (ha:PE X a ta)(he:∀whole,isTrue a X.env whole=(do let v <- whole;standAt a.pos;holding [v] (truthy v))) :
 PT X a (fun σ H Q=>ta σ H fun x H'=>∃k,AX X.K x H' k/\Q k H'):=by
 intro pins s σ H Q I h
 exact isTrue_plain (aO (ha pins s σ H _ I h) fun v s1 ⟨x,H1,I1,r1,q1⟩=>EX pins s1 σ H1 x v Q I1 r1 q1) (he _)
theorem uY:bz X (binaryOp .Add) (fun x y H Q=>∃i j,x=.str i/\y=.str j/\i.length+j.length<=sizeLine/\Q (.str (i++j)) H):=by
 intro pins s σ H x y v u Q I rx ry h
 obtain ⟨i,j,rfl,rfl,hz,q⟩:=h
 obtain ⟨t,rfl⟩:=rx
 obtain ⟨t',rfl⟩:=ry
 exact add_str (fun t' tk=>⟨.str (i++j),H,I.tok _,⟨_,rfl⟩,q⟩) hz
theorem vals1 {x:V}{us:List LI}(r:Vals [x] us):∃u,us=[u]/\RelV x u:=by
 cases r with
 |cons r1 r2=>cases r2;exact ⟨_,rfl,r1⟩
theorem vals2 {x y:V}{us:List LI}(r:Vals [x,y] us):∃u w',us=[u,w']/\RelV x u/\RelV y w':=by
 cases r with
 | cons r1 r2 =>
   cases r2 with
   |cons r3 r4=>cases r4;exact ⟨_,_,rfl,r1,r3⟩
end
end L2
namespace L2
open PySem PySem.Spec PyProof.Rows
structure nF (h:Heap) (x dx C:Addr) (mA:Str->Option LI):Prop where
 obj:h.get? x=some (PySem.W.instObj C dx)
 ns:h.Ns1 dx mA
 ne:dx≠x
theorem xJ {h:Heap}{dx:Addr}{mA:Str->Option LI}(n:h.Ns1 dx mA):∃od,h.get? dx=some od/\∀name,PySem.W.lookIn name od=some (mA name):=by
 obtain ⟨o,es,ep,ho,hd,hk,_,hm⟩:=n
 refine ⟨o,ho,fun name=>?_⟩
 have e:=hm name
 unfold nsFind findBy at e
 rw [<- Array.find?_toList] at e
 unfold PySem.W.lookIn
 rw [hd]
 dsimp only
 split
 ·rename_i y q
  rw [q] at e
  exact congrArg some e
 ·rename_i q
  rw [q] at e
  have a:es.toList.any (·.refKey)=false:=by
   rw [List.any_eq_false]
   intro y hy
   obtain ⟨z,t,hkey⟩:=hk y (Array.mem_toList_iff.mp hy)
   simp [DictEntry.refKey,hkey]
  have a':¬ es.toList.any (·.refKey)=true:=by rw [a];exact Mf
  rw [if_neg a']
  exact congrArg some e
theorem nF.look {h:Heap}{x dx C:Addr}{mA:Str->Option LI}(I:nF h x dx C mA):∃od,PySem.W.InstAt h x (PySem.W.instObj C dx) C (some od)/\∀name,PySem.W.lookIn name od=some (mA name):=
 let ⟨od,ho,hl⟩:=xJ I.ns
 ⟨od,⟨I.obj,rfl,rfl,ho⟩,hl⟩
section
variable {prog:Mc}{w:Me}{A:MK}{E:LI->LM->Prop}{s:LM}{K:LH}{x dx C f:Addr}{mA:Str->Option LI}{name:Str}{v:LI}
theorem get_map {expr:Bool}{Q:LI->LM->Prop}(X:K.In s.heap)(I:nF s.heap x dx C mA)(hg:PySem.W.plainGet K C name=true)(hh:PySem.W.hasDictIn K C=true)
 (ha:PySem.W.findIn K (.ref C) name=some none) (hv:mA name=some v) (hv':PySem.W.handedIn v=true) (h:Q v {s with toks:=s.toks+1}) :
 wpAny (model prog w) A (getAttr (.ref x) name expr) Q E s:=by
 obtain ⟨od,J,hl⟩:=I.look
 exact PySem.W.get_value X J (PySem.W.plainGet_of hg).1 (PySem.W.findObj_own hh ha rfl (by rw [hl,hv])) hv' h
theorem Ay {pl:Sem Bool}{Q:LI×List LI->LM->Prop}(X:K.In s.heap)(I:nF s.heap x dx C mA)(hg:PySem.W.plainGet K C name=true)
 (hf:PySem.W.findIn K (.ref C) name=some (some (.ref f))) (ht:PySem.W.isFn K (.ref f)=true) (hv:mA name=none) (h:Q (.ref f,[.ref x]) s) :
 wpAny (model prog w) A (getMethod (.ref x) name pl) Q E s:=by
 obtain ⟨od,J,hl⟩:=I.look
 exact PySem.W.method_fn X J (PySem.W.plainGet_of hg).1 (PySem.W.plainGet_of hg).2 hf (beq_iff_eq.mp ht) (by show (PySem.W.lookIn name od).map (·.isSome)=some false;rw [hl,hv];rfl) h
theorem C5 {ns:List Str}{Q:Unit->LM->Prop}(X:K.In s.heap)(I:nF s.heap x dx C mA)
 (hs:PySem.W.findIn K (.ref C) "__setattr__"=some (some (.builtin "object.__setattr__"))) (hp:PySem.W.plainOver K C=true) (ht:PySem.W.takerIn K C name=some none) (hh:PySem.W.hasDictIn K C=true)
 (hw:PySem.Within mA ns) (hsz:ns.length<=sizeLine)
 (h:∀h',nF h' x dx C (fun y=>if y=name then some v else mA y)->Heap.SameBut dx s.heap h'->Q () {s with heap:=h',toks:=s.toks+2}) :
 wpAny (model prog w) A (setAttr (.ref x) name v) Q E s:=by
 obtain ⟨od,J,hl⟩:=I.look
 refine PySem.W.set_plain X J hs (PySem.W.osa_open (s:={s with toks:=s.toks+1}) (r:=none) X J hp ht fun b=>?_)
 obtain ⟨cd,hc,hd'⟩:=PySem.W.any_some hh
 have hx:s.heap.get? x=some ⟨.ref C,some dx,.plain,#[]⟩:=I.obj
 refine tqa (tqb (tqa (tqa (wpAny_loadPart hx (tqa (PySem.W.Looks.here (s:={s with toks:=s.toks+1}) (PySem.W.looks_clsIn X hc) ?_))))))
 rw [hd']
 refine tqb (a:=some dx) (tqa (tqb (tqa ?_)))
 refine wpAny_nsSet1 (s:={s with toks:=s.toks+1}) I.ns fun h' hn2 hs2=>?_
 obtain ⟨oD,esD,epD,hoD,hdD,hcD⟩:=hn2.count (PySem.Within.cons name v hw)
 refine tqa (wpAny_lookBehind hoD (by rw [hdD];exact pastItsLine_dict (LR hcD (by rw [MC];omega))) ?_)
 exact tqb (h _ ⟨(hs2.2 _ (MR I.ne)).trans I.obj,hn2,I.ne⟩ hs2)
theorem Ad {R:Result->LM->Prop}{vs:List LI}{kw:List (Str×LI)}(X:K.In s.heap)(hm:PySem.W.makesIn K C=true)
 (hi:PySem.W.findIn K (.ref C) "__init__"=some (some (.ref f))) (hf:PySem.W.typeIn K (.ref f)=some (.type "function"))
 (h:codeAny (model prog w) (A.under (.builtin "type.__call__" ⟨.ref C::vs,kw⟩)) (.call (.ref f) ⟨.ref (s.heap.objs.size+1)::vs,kw⟩) (PySem.W.InitBack (s.heap.objs.size+1) R)
  {s with heap:=(s.heap.push PySem.W.emptyDict).push (PySem.W.instObj C s.heap.objs.size)}) :
 codeAny (model prog w) A (.call (.ref C) ⟨vs,kw⟩) R s:=by
 obtain ⟨hh,g,d,t,os⟩:=s
 exact PySem.W.make_core (PySem.W.makes_of X hm) (PySem.W.looks_findIn X hi) (fun self=>PySem.W.bind_fn X self hf) (.inl rfl) h
end
noncomputable def cH (f:Str)(v:V):List (Str×V)->List (Str×V)
 |[]=>[(f,v)]
 |(g,x)::r=>if g=f then (g,v)::r else (g,x)::cH f v r
theorem mK (f g:Str)(v:V):∀fs:List (Str×V),(cH f v fs).lookup g=if g=f then some v else fs.lookup g
 | [] => by
   show List.lookup g [(f,v)]=_
   by_cases h:g=f
   ·have hb:(g==f)=true:=beq_iff_eq.mpr h
    simp only [List.lookup,hb,if_pos h]
   ·have hb:(g==f)=false:=Mx.mpr h
    simp only [List.lookup,hb,if_neg h]
 | (k, x) :: r => by
   have ih:=mK f g v r
   rw [show cH f v ((k,x)::r)=(if k=f then (k,v)::r else (k,x)::cH f v r) from rfl]
   by_cases hk:k=f
   ·rw [if_pos hk]
    by_cases h:g=k
    ·have hb:(g==k)=true:=beq_iff_eq.mpr h
     simp only [List.lookup,hb,if_pos (h.trans hk)]
    ·have hb:(g==k)=false:=Mx.mpr h
     simp only [List.lookup,hb,if_neg (fun e:g=f=>h (e.trans hk.symm))]
   ·rw [if_neg hk]
    by_cases h:g=k
    ·have hb:(g==k)=true:=beq_iff_eq.mpr h
     simp only [List.lookup,hb,if_neg (fun e:g=f=>hk (h.symm.trans e))]
    ·have hb:(g==k)=false:=Mx.mpr h
     simp only [List.lookup,hb]
     exact ih
theorem lA (f:Str)(v:V):∀fs:List (Str×V),f∈(cH f v fs).map (·.1)/\∀g,g∈fs.map (·.1)->g∈(cH f v fs).map (·.1)
 |[]=>⟨by simp [cH],fun g h=>by simp at h⟩
 | (k, x) :: r => by
   obtain ⟨i1,i2⟩:=lA f v r
   rw [show cH f v ((k,x)::r)=(if k=f then (k,v)::r else (k,x)::cH f v r) from rfl]
   by_cases hk:k=f
   ·rw [if_pos hk]
    subst hk
    exact ⟨by simp,fun g h=>by simpa using h⟩
   ·rw [if_neg hk]
    refine ⟨?_,fun g h=>?_⟩
    ·rw [MO]
     exact LY _ i1
    ·rw [MO] at h ⊢
     rcases My.mp h with e|e
     ·exact List.mem_cons.mpr (.inl e)
     ·exact LY _ (i2 g e)
theorem mL (f:Str)(v:V):∀fs:List (Str×V),(cH f v fs).length<=fs.length+1
 |[]=>by simp [cH]
 | (k, x) :: r => by
   have ih:=mL f v r
   rw [show cH f v ((k,x)::r)=(if k=f then (k,v)::r else (k,x)::cH f v r) from rfl]
   by_cases hk:k=f
   ·rw [if_pos hk,MC,MC];omega
   ·rw [if_neg hk,MC,MC];omega
theorem jK.some_of {v:V}{o:Option LI}(r:jK (some v) o):∃u,o=some u/\RelV v u:=by
 cases o with
 |none=>exact (show False from r).elim
 |some u=>exact ⟨u,rfl,r⟩
theorem jK.none_of {o:Option LI}(r:jK none o):o=none:=by
 cases o with
 |none=>rfl
 |some u=>exact (show False from r).elim
theorem yb {v:V}{u:LI}(r:RelV v u):PySem.W.handedIn u=true:=by
 cases v with
 |non=>cases (show u=Value.none from r);rfl
 |bl b=>cases (show u=Value.bool b from r);rfl
 |int i=>obtain ⟨t,e⟩:=(show ∃t,u=Value.int i t from r);cases e;rfl
 |str x=>obtain ⟨t,e⟩:=(show ∃t,u=Value.str x t from r);cases e;rfl
 |byt b=>obtain ⟨t,e⟩:=(show ∃t,u=Value.bytes b t from r);cases e;rfl
 |flt b=>obtain ⟨t,e⟩:=(show ∃t,u=Value.float b t from r);cases e;rfl
 |ref a=>cases (show u=Value.ref a from r);rfl
 |ty n=>cases (show u=Value.type n from r);rfl
section
variable {P:Mc}{w:Me}{H H':Hp}{h h':Heap}{a C dx:Addr}{fs fs':List (Str×V)}
theorem ma (hok:d5 P w H h)(e:H a=some (.ins C dx fs)):∃mA,nF h a dx C mA/\(∀f,jK (fs.lookup f) (mA f))/\PySem.Within mA (fs.map (·.1))/\fs.length<=1000/\H dx=some (.own a):=by
 obtain ⟨d,z,ne,ob,mA,n,r,q⟩:=(show cj P w H h a (.ins C dx fs) from hok a _ e)
 exact ⟨mA,⟨ob,n,ne⟩,r,q,z,d⟩
end
structure iD (K:LH) (C:Addr):Prop where
 pg:PySem.W.plainGet K C Str.empty=true
 hd:PySem.W.hasDictIn K C=true
 po:PySem.W.plainOver K C=true
 sa:PySem.W.findIn K (.ref C) "__setattr__"=some (some (.builtin "object.__setattr__"))
theorem iD.get {K:LH}{C:Addr}(c:iD K C)(f:Str):PySem.W.plainGet K C f=true:=c.pg
noncomputable def jm (K:LH)(C:Addr)(f:Str):Prop:=PySem.W.findIn K (.ref C) f=some none
theorem jm.taker {K:LH}{C:Addr}{f:Str}(n:jm K C f):PySem.W.takerIn K C f=some none:=by
 unfold PySem.W.takerIn
 rw [show PySem.W.findIn K (.ref C) f=some none from n]
 rfl
structure Meth (K:LH) (C:Addr) (m:Str) (f:Addr):Prop where
 at_:PySem.W.findIn K (.ref C) m=some (some (.ref f))
 fn:PySem.W.isFn K (.ref f)=true
 kp:PySem.W.keepIn K (.ref f)=true
section
variable {X:Cx}{pins:List (Addr×Obj)}{σ:St}{H:Hp}{s:LM}{a C dx:Addr}{fs:List (Str×V)}{f:Str}{v:V}{A:MK}{E:LI->LM->Prop}
theorem vn {b:Bool}{Q:LI->LM->Prop}(I:Inv X pins σ H s)(e:H a=some (.ins C dx fs))(c:iD X.K C)(n:jm X.K C f)(l:fs.lookup f=some v)
 (h:∀u s',Inv X pins σ H s'->RelV v u->Q u s'):wpAny (model X.prog X.w) A (getAttr (.ref a) f b) Q E s:=by
 obtain ⟨mA,O,r,_,_,_⟩:=ma I.hok e
 obtain ⟨u,hu,ru⟩:=jK.some_of (v:=v) (o:=mA f) (by rw [<- l];exact r f)
 exact get_map I.kIn O (c.get f) c.hd n hu (yb ru) (h u _ (I.tok _) ru)
theorem kz {m:Str}{g:Addr}{pl:Sem Bool}{Q:LI×List LI->LM->Prop}(I:Inv X pins σ H s)(e:H a=some (.ins C dx fs))(c:iD X.K C)(k:Meth X.K C m g)(l:fs.lookup m=none)
 (h:Q (.ref g,[.ref a]) s):wpAny (model X.prog X.w) A (getMethod (.ref a) m pl) Q E s:=by
 obtain ⟨mA,O,r,_,_,_⟩:=ma I.hok e
 have hn:mA m=none:=jK.none_of (by rw [<- l];exact r m)
 exact Ay I.kIn O (c.get m) k.at_ k.fn hn h
theorem uS {y:V}{u:LI}{Q:Unit->LM->Prop}(I:Inv X pins σ H s)(e:H a=some (.ins C dx fs))(c:iD X.K C)(n:jm X.K C f)(hl:fs.length<1000)(ry:RelV y u)
 (h:∀s',Inv X pins σ (upd H a (.ins C dx (cH f y fs))) s'->Q () s'):wpAny (model X.prog X.w) A (setAttr (.ref a) f u) Q E s:=by
 obtain ⟨mA,O,r,wi,_,ho⟩:=ma I.hok e
 have hz:(fs.map (·.1)).length<=sizeLine:=by rw [LX,sizeLine_eq];omega
 refine C5 I.kIn O c.sa c.po n.taker c.hd wi hz fun h' O' sb=>h _ ?_
 have hd:∃o,h'.get? dx=some o:=let ⟨o,_,_,e',_⟩:=O'.ns;⟨o,e'⟩
 refine I.write (x:=a) (e:=dx) (by rw [e];exact True.intro) (.inr ho) (fun b q hb z=>(sb.2 b hb).trans z) hd ?_
 refine ⟨by rw [ax O.ne];exact ho,?_,O.ne,O'.obj,_,O'.ns,fun g=>?_,fun g hg=>?_⟩
 ·have:=mL f y fs;omega
 ·show jK ((cH f y fs).lookup g) (if g=f then some u else mA g)
  rw [mK]
  by_cases q:g=f
  ·rw [if_pos q,if_pos q];exact ry
  ·rw [if_neg q,if_neg q];exact r g
 ·by_cases q:g=f
  ·rw [q];exact (lA f y fs).1
  ·refine (lA f y fs).2 g (wi g fun z=>hg ?_)
   show (if g=f then some u else mA g)=none
   rw [if_neg q];exact z
theorem Inv.made (I:Inv X pins σ H s):Inv X pins σ (upd (upd H s.heap.objs.size (.own (s.heap.objs.size+1))) (s.heap.objs.size+1) (.ins C s.heap.objs.size []))
 {s with heap:=(s.heap.push PySem.W.emptyDict).push (PySem.W.instObj C s.heap.objs.size)}:=by
 have e1:(s.heap.push PySem.W.emptyDict).get? s.heap.objs.size=some PySem.W.emptyDict:=L6 s.heap rfl
 have e2:((s.heap.push PySem.W.emptyDict).push (PySem.W.instObj C s.heap.objs.size)).get? (s.heap.objs.size+1)=some (PySem.W.instObj C s.heap.objs.size):=by
  have:=L6 (s.heap.push PySem.W.emptyDict) (o:=PySem.W.instObj C s.heap.objs.size) rfl
  rwa [NU] at this
 have e3:(s.heap.push PySem.W.emptyDict).Ns s.heap.objs.size (fun _=>none):=⟨PySem.W.emptyDict,#[],_,e1,rfl,(fun e he=>absurd he (by simp)),fun _=>rfl⟩
 have I1:=I.laid (a:=s.heap.objs.size) (o:=.own (s.heap.objs.size+1)) (h':=s.heap.push PySem.W.emptyDict) (t':=s.toks) (fun b u q=>LK _ q) (LP _) ⟨_,e1⟩
 refine I1.laid (a:=s.heap.objs.size+1) (o:=.ins C s.heap.objs.size []) (t':=s.toks) (fun b u q=>LK _ q) (Nat.le_of_eq (NU _ _)) ?_
 have ne:s.heap.objs.size≠s.heap.objs.size+1:=MA (Nat.lt_succ_self _)
 refine ⟨by rw [ax ne,bt],NY _,ne,e2,fun _=>none,(Heap.Ns1.of_empty e3).at fun o q=>LK _ q,fun _=>True.intro,fun y hy=>absurd rfl hy⟩
theorem Eu {prog:Mc}{w:Me}{env:Env}{e:Expr}{f:Str}{pos:Pos}{s:LM}{Q:LI->LM->Prop}(hb:attributeBase e f env (eval e env)=eval e env)
 (h:wpAny (model prog w) A (eval e env) (fun o s₁=>wpAny (model prog w) A (getAttr o f true) Q E s₁) E s):wpAny (model prog w) A (eval (.Attribute e f pos) env) Q E s:=
 Attribute_any_ h (by rw [arm_eval_Attribute,hb])
end
noncomputable def Kd (K:LH)(ta:TE)(f:Str):TE:=fun σ H Q=>ta σ H fun x H1=>∃a C dx fs v,x=.ref a/\H1 a=some (.ins C dx fs)/\iD K C/\jm K C f/\fs.lookup f=some v/\Q v H1
noncomputable def Kh (K:LH)(ta tv:TE)(f:Str):TS:=fun D σ H=>tv σ H fun y H1=>ta σ H1 fun x H2=>∃a C dx fs,x=.ref a/\H2 a=some (.ins C dx fs)/\iD K C/\jm K C f/\fs.length<1000/\
 D.nx σ (upd H2 a (.ins C dx (cH f y fs)))
section
variable {X:Cx}{o e value:Expr}{f:Str}{pos pos' tpos:Pos}{ta tv:TE}
theorem FW (he:PE X e ta)(hb:attributeBase e f X.env (eval e X.env)=eval e X.env):PE X (.Attribute e f pos) (Kd X.K ta f):=by
 intro pins s σ H Q I h
 refine Eu hb (aO (he pins s σ H _ I h) fun u s1 ⟨x,H1,I1,rx,a,C,dx,fs,v,ex,ea,c,n,l,q⟩=>?_)
 subst ex
 obtain rfl:u=Value.ref a:=rx
 exact vn I1 ea c n l fun u' s2 I2 ru=>⟨v,H1,I2,ru,q⟩
theorem FH (ha:PE X o ta)(hv:PE X value tv)(hs:swapsWith value (some (.Attribute o f pos')) pos.line X.env=pure false):PS X (.Assign [.Attribute o f pos'] value pos) (Kh X.K ta tv f):=by
 intro pins s σ H D I h
 refine plainObj_wpAny_Assign_Attribute (aO (hv pins s σ H _ I h) fun u s1 ⟨y,H1,I1,ry,q⟩=>aO (ha pins s1 σ H1 _ I1 q) fun ov s2 ⟨x,H2,I2,rx,a,C,dx,fs,ex,ea,c,n,l,q2⟩=>?_) hs
 subst ex
 obtain rfl:ov=Value.ref a:=rx
 exact uS I2 ea c n l ry fun s3 I3=>⟨σ,_,I3,q2⟩
theorem HM {pl:Sem Bool}{m:Str}{apos:Pos}{args:List Expr}{pins:List (Addr×Obj)}{s:LM}{σ:St}{H:Hp}{Q:LI->LM->Prop}{te:TE}(he:PE X e te)(I:Inv X pins σ H s)
 (h:te σ H fun x H1=>∃a C dx fs g,x=.ref a/\H1 a=some (.ins C dx fs)/\iD X.K C/\Meth X.K C m g/\fs.lookup m=none/\
  ∀s1,Inv X pins σ H1 s1->wpAny (model X.prog X.w) X.A (callWith pos (.ref g) [.ref a] (backTo pos (starEach args X.env)) (backToKw pos (keywordEach [] X.env))) Q X.xe s1)
 (ht:eval (.Call (.Attribute e m apos) args [] pos) X.env=(do
  let ov <- eval e X.env
  standAt apos.atName
  let (f,first) <- holding [ov] (getMethod ov m pl)
  callWith pos f first (backTo pos (starEach args X.env)) (backToKw pos (keywordEach [] X.env)))) :
 wpAny (model X.prog X.w) X.A (eval (.Call (.Attribute e m apos) args [] pos) X.env) Q X.xe s:=by
 refine PySem.W.methodCall_KW (pl:=pl) (aO (he pins s σ H _ I h) fun u s1 ⟨x,H1,I1,rx,a,C,dx,fs,g,ex,ea,c,k,l,q⟩=>?_) ht
 subst ex
 obtain rfl:u=Value.ref a:=rx
 exact kz I1 ea c k l (q s1 I1)
end
section
variable {X:Cx}{pins:List (Addr×Obj)}{σ:St}{H:Hp}{s:LM}{A:MK}{E:LI->LM->Prop}{Q:LI->LM->Prop}{c:LI}{b:Bool}
inductive iB (K:LH) (H:Hp):V->LI->Prop where
 |non:iB K H .non (.type "NoneType")
 |bl (x:Bool):iB K H (.bl x) (.type "bool")
 |int (i:Int):iB K H (.int i) (.type "int")
 |str (x:Str):iB K H (.str x) (.type "str")
 |flt (x:UInt64):iB K H (.flt x) (.type "float")
 |lst {a:Addr}{xs:List V} (e:H a=some (.lst xs)):iB K H (.ref a) (.type "list")
 |frz {a:Addr}{o:Obj}{xs:List V} (e:H a=some (.frz o (.lst xs))):iB K H (.ref a) (.type "list")
 |tup {a:Addr}{xs:List V} (e:H a=some (.tup xs)):iB K H (.ref a) (.type "tuple")
 |dK {a:Addr}{kvs:List (Key×V)} (e:H a=some (.dK kvs)):iB K H (.ref a) (.type "dict")
 |dT {a:Addr}{kvs:List (List Key×V)} (e:H a=some (.dT kvs)):iB K H (.ref a) (.type "dict")
 |ins {a C dx:Addr}{fs:List (Str×V)} (e:H a=some (.ins C dx fs)) (cl:iD K C) (ha:PySem.W.findIn K (.ref C) "__class__"=some (some (.builtin "object.__class__")))
  (hn:PySem.W.specialIn K (.builtin "object.__class__") "__get__"=some (some (.builtin "getset_descriptor.__get__"))) (htk:PySem.W.takesIn K (.builtin "object.__class__")=some true)
  (hm:PySem.W.mroIn K C (.type "object")=some true):iB K H (.ref a) (.ref C)
theorem ju {x:V}{u t:LI}(I:Inv X pins σ H s)(rx:RelV x u)(ty:iB X.K H x t)(e:PySem.W.kitOne X.K t c=some b)(h:∀tk,Q (.bool b) {s with toks:=tk}) :
 wpAny (model X.prog X.w) A (call (.builtin "isinstance") [u,c]) Q E s:=by
 cases ty with
 |non=>cases (show u=Value.none from rx);exact MH PySem.W.kitx_none I.kIn True.intro e (fun z=>nomatch z) h
 |bl y=>cases (show u=Value.bool y from rx);exact MH PySem.W.kitx_bool I.kIn True.intro e (fun z=>nomatch z) h
 |int i=>obtain ⟨t,q⟩:=(show ∃t,u=Value.int i t from rx);cases q;exact MH PySem.W.kitx_int I.kIn True.intro e (fun z=>nomatch z) h
 |str y=>obtain ⟨t,q⟩:=(show ∃t,u=Value.str y t from rx);cases q;exact MH PySem.W.kitx_str I.kIn True.intro e (fun z=>nomatch z) h
 |flt y=>obtain ⟨t,q⟩:=(show ∃t,u=Value.float y t from rx);cases q;exact MH PySem.W.kitx_float I.kIn True.intro e (fun z=>nomatch z) h
 | @lst a xs ea =>
   cases (show u=Value.ref a from rx)
   obtain ⟨_,_,n,_,h1⟩:=(show cj X.prog X.w H s.heap a (.lst xs) from I.hok a _ ea)
   exact MH PySem.W.kitx_list I.kIn ⟨_,h1,rfl⟩ e (fun z=>nomatch z) h
 | @frz a ob xs ea =>
   cases (show u=Value.ref a from rx)
   obtain ⟨_,_,_,n,_,h1⟩:=(show cj X.prog X.w H s.heap a (.frz ob (.lst xs)) from I.hok a _ ea)
   exact MH PySem.W.kitx_list I.kIn ⟨_,h1,rfl⟩ e (fun z=>nomatch z) h
 | @tup a xs ea =>
   cases (show u=Value.ref a from rx)
   obtain ⟨_,_,_,p⟩:=(show cj X.prog X.w H s.heap a (.tup xs) from I.hok a _ ea)
   obtain ⟨o,h1,h2,_⟩:=p
   exact MH PySem.W.kitx_tuple I.kIn ⟨o,h1,h2⟩ e (fun z=>nomatch z) h
 | @dK a kvs ea =>
   cases (show u=Value.ref a from rx)
   obtain ⟨_,_,vs,_,p⟩:=(show cj X.prog X.w H s.heap a (.dK kvs) from I.hok a _ ea)
   obtain ⟨o,es,ep,h1,h2,_⟩:=p
   exact MH PySem.W.kitx_dict I.kIn ⟨o,h1,h2.1⟩ e (fun z=>nomatch z) h
 | @dT a kvs ea =>
   cases (show u=Value.ref a from rx)
   obtain ⟨_,_,xs,_,o,es,ep,h1,h2,_⟩:=(show cj X.prog X.w H s.heap a (.dT kvs) from I.hok a _ ea)
   exact MH PySem.W.kitx_dict I.kIn ⟨o,h1,h2.1⟩ e (fun z=>nomatch z) h
 | @ins a C dx fs ea cl ha hn htk hm =>
   cases (show u=Value.ref a from rx)
   obtain ⟨mA,O,_⟩:=ma I.hok ea
   obtain ⟨od,J,_⟩:=O.look
   exact MH (PySem.W.kitx_own (cl.get _) cl.hd ha hn htk hm) I.kIn J e (fun z=>nomatch z) h
end
end L2
namespace L2
open PySem PySem.Spec PyProof.Rows
structure bx (k:Nat) (A:MK):Prop where
 hd:A.handled=none
 dp:A.depth+3*k+5<recursionLimit
 un:A.units+16*k+200<cLine
 gd:A.guards=some []
theorem bx.mono {j k:Nat}{A:MK}(r:bx k A)(h:j<=k):bx j A:=⟨r.hd,by have:=r.dp;omega,by have:=r.un;omega,r.gd⟩
theorem bx.deeper {k:Nat}{A:MK}(r:bx (k+1) A)(env:Env):bx k (A.deeper env):=
 ⟨r.hd,by have:=r.dp;show A.depth+1+3*k+5<_;omega,by have:=r.un;show A.units+3+16*k+200<_;omega,r.gd⟩
theorem ve {A:MK}{C:Addr}{us:List LI}{kw:List (Str×LI)}:(A.under (.builtin "type.__call__" ⟨.ref C::us,kw⟩)).depth=A.depth+1:=by
 first|rfl|simp [Around.under,Code.weight,Code.isCreation,Code.isGuard,Code.isCaller,Code.frames,Code.isFrame,guardIds]
theorem vd {A:MK}{C:Addr}{us:List LI}{kw:List (Str×LI)}:(A.under (.builtin "type.__call__" ⟨.ref C::us,kw⟩)).units=A.units+1:=by
 first|rfl|simp [Around.under,Code.cUnits,Code.frames,Code.isFrame]
theorem bx.make {k:Nat}{A:MK}(r:bx (k+1) A)(C:Addr)(us:List LI)(kw:List (Str×LI)):bx k (A.under (.builtin "type.__call__" ⟨.ref C::us,kw⟩)):=
 ⟨r.hd,by have:=r.dp;rw [ve];omega,by have:=r.un;rw [vd];omega,r.gd⟩
theorem bx.depth {k:Nat}{A:MK}(r:bx k A):A.depth<recursionLimit:=by have:=r.dp;omega
theorem bx.units {k:Nat}{A:MK}(r:bx k A):A.units+64<cLine:=by have:=r.un;omega
noncomputable def zh:TA:=fun _ H Q=>Q [] H
noncomputable def HZ (ta:TE)(tr:TA):TA:=fun σ H Q=>ta σ H fun x H1=>tr σ H1 fun xs H2=>Q (x::xs) H2
section
variable {X:Cx}{e:Expr}{es:List Expr}{te:TE}{t:TA}{pos:Pos}
theorem fD:PA X [] zh:=fun _ _ _ _ H Q I h=>Calls.spliced_nil ⟨[],H,I,.nil,h⟩
theorem cK (ha:PE X e te)(hr:PA X es t)(hs:starEach (e::es) X.env=(false,eval e X.env)::starEach es X.env:=by rfl):PA X (e::es) (HZ te t):=by
 intro pos pins s σ H Q I h
 rw [hs]
 show wpAny _ _ (spliced ((false,eval e X.env)::backTo pos (starEach es X.env))) _ _ s
 refine Calls.spliced_cons (aO (ha pins s σ H _ I h) fun u s1 ⟨x,H1,I1,r1,q1⟩=>?_)
 exact aO (hr pos pins s1 σ H1 _ I1 q1) fun us s2 ⟨xs,H2,I2,r2,q2⟩=>⟨x::xs,H2,I2,.cons r1 r2,q2⟩
noncomputable def J5 (t:TA):TE:=fun σ H Q=>t σ H fun xs H1=>xs.length<=sizeLine/\∀p,H1 p=none->Q (.ref p) (upd H1 p (.tup xs))
noncomputable def J9 (t:TA):TE:=fun σ H Q=>t σ H fun xs H1=>xs.length<=sizeLine/\∀p,H1 p=none->Q (.ref p) (upd H1 p (.lst xs))
theorem FN {x1}(h:PA X es t):PE X (.Tuple es x1 pos) (J5 t):=by
 intro pins s σ H Q I hq
 refine wpAny_Tuple_spliced (aO (h pos pins s σ H _ I hq) fun us s1 ⟨xs,H1,I1,r,z,q⟩=>⟨by rw [<- r.length];exact z,?_⟩)
 have hf:H1 s1.heap.objs.size=none:=I1.hok.fresh (LP _)
 refine ⟨.ref s1.heap.objs.size,upd H1 s1.heap.objs.size (.tup xs),I1.laid (t':=s1.toks) (fun b u e=>LK _ e) (LP _) ?_,rfl,q _ hf⟩
 exact ⟨z,us,r,⟨_,L6 _ rfl,rfl,_,rfl⟩⟩
theorem FU (h:PA X es t):PE X (.List es pos) (J9 t):=by
 intro pins s σ H Q I hq
 refine wpAny_List_spliced (aO (h pos pins s σ H _ I hq) fun us s1 ⟨xs,H1,I1,r,z,q⟩=>⟨by rw [<- r.length];exact z,?_⟩)
 have hf:H1 s1.heap.objs.size=none:=I1.hok.fresh (LP _)
 refine ⟨.ref s1.heap.objs.size,upd H1 s1.heap.objs.size (.lst xs),I1.laid (t':=s1.toks) (fun b u e=>LK _ e) (LP _) ?_,rfl,q _ hf⟩
 exact ⟨z,us,0,r,L6 _ rfl⟩
end
abbrev Sp:=List V->Hp->VK->XK->Prop
abbrev mT:=List Env->Hp->LM->XK->LI->LM->Prop
structure nI (P:Mc) (w:Me) (K:LH) (mg:Str->Option LI) (base:Heap) (A:MK) (outer:List Env) (s:LM) (H:Hp):Prop where
 frames:A.frames=some outer
 mod:Mod K mg base
 bs:∀b o,base.get? b=some o->s.heap.get? b=some o/\H b=none
 bsz:base.objs.size<=s.heap.objs.size
 funs:s.heap.FunFrames base outer
 frf:∀b∈fG outer,H b=none
 hok:d5 P w H s.heap
 bare:AllBare s.gens
noncomputable def CE (outer:List Env)(P:Mc)(w:Me)(H:Hp)(s:LM)(Q:VK)(u:LI)(s':LM):Prop:=
 ∃v H',s'.os=s.os/\AllBare s'.gens/\Un (fG outer) [] H H' s.heap s'.heap/\d5 P w H' s'.heap/\RelV v u/\Q v H'
noncomputable def CR (CX:mT)(outer:List Env)(P:Mc)(w:Me)(H:Hp)(s:LM)(Q:VK)(E:XK)(r:Result)(s':LM):Prop:=
 match r with
 |.ok (.ret u)=>CE outer P w H s Q u s'
 |.ok _=>False
 |.error e=>CX outer H s E e s'
structure fU (P:Mc) (w:Me) (K:LH) (mg:Str->Option LI) (base:Heap) (CX:mT) (k:Nat) (f:Addr) (fd:NV) (ps:List Str) (sp:Sp):Prop where
 len:∀vs H Q E,sp vs H Q E->vs.length=ps.length
 run:∀(A:MK) (outer:List Env) (s:LM) (H:Hp) (args:Args) (us:List LI) (vs:List V) (Q:VK) (E:XK),bx k A->nI P w K mg base A outer s H->BindsTo s fd args (ps.zip us)->Vals vs us->sp vs H Q E->
  codeAny (model P w) A (.call (.ref f) args) (CR CX outer P w H s Q E) s
theorem nI.make {P:Mc}{w:Me}{K:LH}{mg:Str->Option LI}{base:Heap}{A:MK}{outer:List Env}{s:LM}{H:Hp}(e:nI P w K mg base A outer s H)(C:Addr)(us:List LI)(kw:List (Str×LI)) :
 nI P w K mg base (A.under (.builtin "type.__call__" ⟨.ref C::us,kw⟩)) outer s H:=⟨by first|exact e.frames|(simpa [Around.under,Code.envs,Code.isFrame,pushEnvs] using e.frames),e.mod,e.bs,e.bsz,e.funs,e.frf,e.hok,e.bare⟩
section
variable {X:Cx}{pins:List (Addr×Obj)}{σ:St}{H:Hp}{s s':LM}
theorem Inv.env0 (I:Inv X pins σ H s):nI X.prog X.w X.K X.mg X.base X.A X.stack s H:=
 ⟨I.ok.frames,I.ok.mod,I.bs,LR I.ok.bsz I.sz,I.stack,I.stkFree,I.hok,I.bare⟩
theorem Inv.after {Q:VK}{u:LI}(I:Inv X pins σ H s)(h:CE X.stack X.prog X.w H s Q u s'):EP X pins σ Q u s':=by
 obtain ⟨v,H',os,bare,un,hok,r,q⟩:=h
 obtain ⟨hh,g,d,t,os'⟩:=s'
 obtain rfl:os'=s.os:=os
 exact ⟨v,H',I.call (h':=hh) (g':=g) (d':=d) (t':=t) (ch:=[]) un hok bare (fun b z=>absurd z (by simp)),r,q⟩
end
noncomputable def uM (sp:Sp)(dvs:List V)(E:XK)(t:TA):TE:=fun σ H Q=>t σ H fun vs H1=>sp (vs++dvs) H1 Q E
noncomputable def uL (C:Addr)(m:Str)(sp:Sp)(dvs:List V)(E:XK)(ta:TE)(t:TA):TE:=fun σ H Q=>ta σ H fun x H1=>∃a dx fs,x=.ref a/\H1 a=some (.ins C dx fs)/\fs.lookup m=none/\
 t σ H1 fun vs H2=>sp (x::(vs++dvs)) H2 Q E
noncomputable def HX (C:Addr)(sp:Sp)(dvs:List V)(E:XK)(t:TA):TE:=fun σ H Q=>t σ H fun vs H1=>∀x dx,H1 x=none->H1 dx=none->dx≠x->
 sp (.ref x::(vs++dvs)) (upd (upd H1 dx (.own x)) x (.ins C dx [])) (fun v H2=>v=.non/\Q (.ref x) H2) E
noncomputable def Binds (K:LH)(fd:NV)(ps:List Str)(ds:List LI):Prop:=
 ∀(s:LM) (us:List LI),K.In s.heap->(us++ds).length=ps.length->BindsTo s fd ⟨us,[]⟩ (ps.zip (us++ds))
theorem Binds.all {K:LH}{fd:NV}{ps:List Str}(h:∀us:List LI,us.length=ps.length->bindArgs fd ⟨us,[]⟩=pure (ps.zip us)):Binds K fd ps []:=fun s us _ hl=>by
 rw [NW] at hl ⊢
 exact .of_eq (h us hl)
noncomputable def Passes (CX:mT)(X:Cx)(E:XK):Prop:=∀(pins:List (Addr×Obj)) (σ:St) (H:Hp) (s:LM) (e:LI) (s':LM),Inv X pins σ H s->CX X.stack H s E e s'->X.xe e s'
section
variable {X:Cx}{CX:mT}{k:Nat}{f C:Addr}{fd:NV}{ps:List Str}{sp:Sp}{dvs:List V}{ds:List LI}{E:XK}{x m:Str}{p pos apos:Pos}{e o:Expr}{es:List Expr}{ta:TE}{t:TA}
theorem kY {pins:List (Addr×Obj)}{σ:St}{H:Hp}{s:LM}{Q:VK}{us:List LI}{vs:List V}(F:fU X.prog X.w X.K X.mg X.base CX k f fd ps sp)(hr:bx k X.A)(hb:Binds X.K fd ps ds)(hd:Vals dvs ds)(hx:Passes CX X E)
 (I:Inv X pins σ H s) (r:Vals vs us) (h:sp (vs++dvs) H Q E):wpAny (model X.prog X.w) X.A (call (.ref f) us) (EP X pins σ Q) X.xe s:=by
 have r2:Vals (vs++dvs) (us++ds):=r.append hd
 have hl:(us++ds).length=ps.length:=by rw [<- r2.length];exact F.len _ _ _ _ h
 refine wpAny_call (codeAny_mono (F.run X.A X.stack s H ⟨us,[]⟩ (us++ds) (vs++dvs) Q E hr I.env0 (hb s us I.kIn hl) r2 h) fun r s' hq=>?_)
 cases r with
 |error e=>exact hx pins σ H s e s' I hq
 | ok fl =>
   cases fl with
   |ret u=>exact I.after hq
   |next=>exact False.elim hq
   |brk=>exact False.elim hq
   |cont=>exact False.elim hq
theorem Dv (F:fU X.prog X.w X.K X.mg X.base CX k f fd ps sp)(hr:bx k X.A)(hg:Gl X x)(hm:X.mg x=some (.ref f))(hk:PySem.W.keepIn X.K (.ref f)=true)(hb:Binds X.K fd ps ds)(hd:Vals dvs ds)(hx:Passes CX X E)
 (ha:PA X (e::es) t) (hdb:(x==("__debug__":Str))=false:=by decide) (he:starEach (e::es) X.env=(false,eval e X.env)::starEach es X.env:=by rfl) (hpl:(backTo pos (starEach es X.env)).any (·.1)=false:=by rfl) :
 PE X (.Call (.Name x p) (e::es) [] pos) (uM sp dvs E t):=by
 intro pins s σ H Q I h
 refine wpAny_Call_Name_kw (fW I hg hm ?_ hdb)
 refine Nz (h₀:=X.base) I.ok.mod.kin hk (aO (ha pos pins s σ H _ I h) fun us s1 ⟨vs,H1,I1,r,q⟩=>⟨I1.kIn,?_⟩) he hpl
 exact kY F hr hb hd hx I1 r q
theorem zT (F:fU X.prog X.w X.K X.mg X.base CX k f fd ps sp)(hr:bx k X.A)(hg:Gl X x)(hm:X.mg x=some (.ref f))(hk:PySem.W.keepIn X.K (.ref f)=true)(hb:Binds X.K fd ps ds)(hd:Vals dvs ds)(hx:Passes CX X E)
 (hdb:(x==("__debug__":Str))=false:=by decide):PE X (.Call (.Name x p) [] [] pos) (uM sp dvs E zh):=by
 intro pins s σ H Q I h
 refine wpAny_Call_Name_kw (fW I hg hm ?_ hdb)
 exact PySem.W.callWith_K0 I.kIn hk (kY (us:=[]) F hr hb hd hx I .nil h)
theorem Dt {pl:Sem Bool}(he:PE X o ta)(c:iD X.K C)(hm:Meth X.K C m f)(F:fU X.prog X.w X.K X.mg X.base CX k f fd ps sp)(hr:bx k X.A)(hb:Binds X.K fd ps ds)(hd:Vals dvs ds)(hx:Passes CX X E)(ha:PA X (e::es) t)
 (hst:starEach (e::es) X.env=(false,eval e X.env)::starEach es X.env:=by rfl) (hpl:(backTo pos (starEach es X.env)).any (·.1)=false:=by rfl)
 (ht:eval (.Call (.Attribute o m apos) (e::es) [] pos) X.env=(do
  let ov <- eval o X.env
  standAt apos.atName
  let (f,first) <- holding [ov] (getMethod ov m pl)
  callWith pos f first (backTo pos (starEach (e::es) X.env)) (backToKw pos (keywordEach [] X.env))):=by rfl) :
 PE X (.Call (.Attribute o m apos) (e::es) [] pos) (uL C m sp dvs E ta t):=by
 intro pins s σ H Q I h
 refine PySem.W.methodCall_KW (pl:=pl) (aO (he pins s σ H _ I h) fun u s1 ⟨x,H1,I1,rx,a,dx,fs,ex,ea,l,q⟩=>?_) ht
 subst ex
 obtain rfl:u=Value.ref a:=rx
 refine kz I1 ea c hm l ?_
 refine Nz (first:=[.ref a]) (h₀:=X.base) I.ok.mod.kin hm.kp (aO (ha pos pins s1 σ H1 _ I1 q) fun us s2 ⟨vs,H2,I2,r,q2⟩=>⟨I2.kIn,?_⟩) hst hpl
 exact kY (us:=.ref a::us) (vs:=.ref a::vs) F hr hb hd hx I2 (.cons rfl r) q2
theorem zR {pl:Sem Bool}(he:PE X o ta)(c:iD X.K C)(hm:Meth X.K C m f)(F:fU X.prog X.w X.K X.mg X.base CX k f fd ps sp)(hr:bx k X.A)(hb:Binds X.K fd ps ds)(hd:Vals dvs ds)(hx:Passes CX X E)
 (ht:eval (.Call (.Attribute o m apos) [] [] pos) X.env=(do
  let ov <- eval o X.env
  standAt apos.atName
  let (f,first) <- holding [ov] (getMethod ov m pl)
  callWith pos f first (backTo pos (starEach [] X.env)) (backToKw pos (keywordEach [] X.env))):=by rfl) :
 PE X (.Call (.Attribute o m apos) [] [] pos) (uL C m sp dvs E ta zh):=by
 intro pins s σ H Q I h
 refine PySem.W.methodCall_KW (pl:=pl) (aO (he pins s σ H _ I h) fun u s1 ⟨x,H1,I1,rx,a,dx,fs,ex,ea,l,q⟩=>?_) ht
 subst ex
 obtain rfl:u=Value.ref a:=rx
 refine kz I1 ea c hm l ?_
 exact PySem.W.callWith_K0 (first:=[.ref a]) I1.kIn hm.kp (kY (us:=[.ref a]) (vs:=[.ref a]) F hr hb hd hx I1 (.cons rfl .nil) q)
structure Mk (K:LH) (C f:Addr):Prop where
 makes:PySem.W.makesIn K C=true
 init:PySem.W.findIn K (.ref C) "__init__"=some (some (.ref f))
 fn:PySem.W.isFn K (.ref f)=true
 kp:PySem.W.keepIn K (.ref C)=true
theorem zE {pins:List (Addr×Obj)}{σ:St}{H:Hp}{s:LM}{Q:VK}{us:List LI}{vs:List V}(M:Mk X.K C f)(F:fU X.prog X.w X.K X.mg X.base CX k f fd ps sp)(hr:bx (k+1) X.A)(hb:Binds X.K fd ps ds)(hd:Vals dvs ds)
 (hx:Passes CX X E) (I:Inv X pins σ H s) (r:Vals vs us)
 (h:∀x dx,H x=none->H dx=none->dx≠x->sp (.ref x::(vs++dvs)) (upd (upd H dx (.own x)) x (.ins C dx [])) (fun v H2=>v=.non/\Q (.ref x) H2) E) :
 wpAny (model X.prog X.w) X.A (call (.ref C) us) (EP X pins σ Q) X.xe s:=by
 have hq:=h (s.heap.objs.size+1) s.heap.objs.size (I.hok.fresh (NI _)) (I.hok.fresh (LP _)) (MA (Nat.lt_succ_self _))
 have I2:=Inv.made (C:=C) I
 have r2:Vals (V.ref (s.heap.objs.size+1)::(vs++dvs)) (Value.ref (s.heap.objs.size+1)::(us++ds)):=.cons rfl (r.append hd)
 have hl:(Value.ref (s.heap.objs.size+1)::us++ds).length=ps.length:=by
  have e:=r2.length
  rw [F.len _ _ _ _ hq] at e
  exact e.symm
 refine wpAny_call (Ad (f:=f) I.kIn M.makes M.init (beq_iff_eq.mp M.fn) (codeAny_mono (F.run _ X.stack _ _ ⟨Value.ref (s.heap.objs.size+1)::us,[]⟩ (Value.ref (s.heap.objs.size+1)::(us++ds)) _ _ E (hr.make C us [])
  (I2.env0.make C us []) (hb _ (Value.ref (s.heap.objs.size+1)::us) I2.kIn hl) r2 hq) fun r s' hq'=>?_))
 cases r with
 |error e=>exact hx pins σ _ _ e s' I2 hq'
 | ok fl =>
   cases fl with
   | ret u =>
     obtain ⟨v,H',I3,rv,ev,q3⟩:=I2.after hq'
     subst ev
     exact ⟨rv,⟨V.ref (s.heap.objs.size+1),H',I3,rfl,q3⟩⟩
   |next=>exact False.elim hq'
   |brk=>exact False.elim hq'
   |cont=>exact False.elim hq'
theorem Du (M:Mk X.K C f)(F:fU X.prog X.w X.K X.mg X.base CX k f fd ps sp)(hr:bx (k+1) X.A)(hg:Gl X x)(hm:X.mg x=some (.ref C))(hb:Binds X.K fd ps ds)(hd:Vals dvs ds)(hx:Passes CX X E)
 (ha:PA X (e::es) t) (hdb:(x==("__debug__":Str))=false:=by decide) (he:starEach (e::es) X.env=(false,eval e X.env)::starEach es X.env:=by rfl) (hpl:(backTo pos (starEach es X.env)).any (·.1)=false:=by rfl) :
 PE X (.Call (.Name x p) (e::es) [] pos) (HX C sp dvs E t):=by
 intro pins s σ H Q I h
 refine wpAny_Call_Name_kw (fW I hg hm ?_ hdb)
 refine Nz (h₀:=X.base) I.ok.mod.kin M.kp (aO (ha pos pins s σ H _ I h) fun us s1 ⟨vs,H1,I1,r,q⟩=>⟨I1.kIn,?_⟩) he hpl
 exact zE M F hr hb hd hx I1 r q
end
structure gj (N P:List Str) (sc:Scope):Prop where
 kind:sc.kind=.function
 co:sc.isCoroutine=false
 gen:sc.isGenerator=false
 nd:N.Nodup
 pre:N.take P.length=P
 par:∀x∈P,sc.names.lookup x=some .local\/sc.names.lookup x=some .cell
 nofree:∀y∈sc.names,y.2≠.free
theorem qw {kindOf:Str->Option NameKind}{x:Str}:∀{binds:List (Str×LI)}{m:Str->Option LI},(∀v,(x,v)∉binds)->bindL kindOf binds m x=m x
 |[],_,_=>rfl
 | (n, v) :: r, m, h => by
   unfold bindL
   rw [qw fun w hw=>h w (LY _ hw)]
   split
   ·have:x≠n:=by rintro rfl;exact h v Ml
    simp [this]
   ·rfl
theorem qy {kindOf:Str->Option NameKind}{x:Str}:∀{binds:List (Str×LI)}{m:Str->Option LI},(∀v,(x,v)∉binds)->bindC kindOf binds m x=m x
 |[],_,_=>rfl
 | (n, v) :: r, m, h => by
   unfold bindC
   rw [qy fun w hw=>h w (LY _ hw)]
   split
   ·rfl
   ·have:x≠n:=by rintro rfl;exact h v Ml
    simp [this]
theorem qx {kindOf:Str->Option NameKind}{x:Str}{v:LI}:∀{P:List Str}{vs:List LI}{i:Nat}{m:Str->Option LI},P.Nodup->P[i]?=some x->vs[i]?=some v->kindOf x=some .local->
 bindL kindOf (P.zip vs) m x=some v
 |[],_,_,_,_,h,_,_=>by simp at h
 |_::_,[],_,_,_,_,h,_=>by simp at h
 | p :: P, w :: vs, 0, m, nd, h1, h2, hk => by
   simp at h1 h2;subst h1;subst h2
   show bindL kindOf ((p,w)::P.zip vs) m p=_
   unfold bindL
   rw [qw fun v hv=>(List.nodup_cons.mp nd).1 (List.of_mem_zip hv).1,if_pos hk]
   simp
 | p :: P, w :: vs, i + 1, m, nd, h1, h2, hk => by
   show bindL kindOf ((p,w)::P.zip vs) m x=_
   unfold bindL
   exact qx (i:=i) (List.nodup_cons.mp nd).2 (by simpa using h1) (by simpa using h2) hk
theorem qz {kindOf:Str->Option NameKind}{x:Str}{v:LI}:∀{P:List Str}{vs:List LI}{i:Nat}{m:Str->Option LI},P.Nodup->P[i]?=some x->vs[i]?=some v->kindOf x≠some .local->
 bindC kindOf (P.zip vs) m x=some v
 |[],_,_,_,_,h,_,_=>by simp at h
 |_::_,[],_,_,_,_,h,_=>by simp at h
 | p :: P, w :: vs, 0, m, nd, h1, h2, hk => by
   simp at h1 h2;subst h1;subst h2
   show bindC kindOf ((p,w)::P.zip vs) m p=_
   unfold bindC
   rw [qy fun v hv=>(List.nodup_cons.mp nd).1 (List.of_mem_zip hv).1,if_neg hk]
   simp
 | p :: P, w :: vs, i + 1, m, nd, h1, h2, hk => by
   show bindC kindOf ((p,w)::P.zip vs) m x=_
   unfold bindC
   exact qz (i:=i) (List.nodup_cons.mp nd).2 (by simpa using h1) (by simpa using h2) hk
noncomputable def start (N:List Str)(vs:List V):St:=vs.map some++List.replicate (N.length-vs.length) none
noncomputable def eB (CX:mT)(P:Mc)(w:Me)(K:LH)(mg:Str->Option LI)(base:Heap)(N:List Str)(qual:Str)(scope:Scope)(f:Addr)(cd:LI)(A:MK)(outer:List Env)(s:LM)(H:Hp)(E:XK):Cx where
 prog:=P
 w:=w
 K:=K
 mg:=mg
 base:=base
 A:=A.deeper (envOfC qual scope s.heap.objs.size f cd)
 N:=N
 s₀:=s
 H₀:=H
 env:=envOfC qual scope s.heap.objs.size f cd
 outer:=outer
 stack:=envOfC qual scope s.heap.objs.size f cd::outer
 ex:=[]
 calm:=true
 fn:=fun _=>true
 pn:=[]
 xe:=fun e s'=>wpAny (model P w) (A.deeper (envOfC qual scope s.heap.objs.size f cd)) (leaving (envOfC qual scope s.heap.objs.size f cd) e) (fun _ s''=>CX outer H s E e s'') (fun e' s''=>CX outer H s E e' s'') s'
theorem sQ {sc:Scope}{n:Nat}{x:Str}(h:sc.names.lookup x=some .cell):∃c,(cellsFrom n sc.names []).lookup x=some c:=by
 have q:=PySem.W.cellsFrom_some sc.names n [] (.inl h)
 exact Option.isSome_iff_exists.mp q
theorem xV {CX:mT}{P:Mc}{w:Me}{K:LH}{mg:Str->Option LI}{base:Heap}{N ps:List Str}{qual:Str}{scope:Scope}{f:Addr}{cd:LI}{A:MK}{outer:List Env}{s s1:LM}{H:Hp}{E:XK}{us:List LI}{vs:List V}
 (S:gj N ps scope) (hd:A.handled=none) (e0:nI P w K mg base A outer s H) (hl:vs.length=ps.length) (r:Vals vs us)
 (x:InCallC s s.heap.objs.size (bindL (envOfC qual scope s.heap.objs.size f cd).kindOf (ps.zip us) fun _=>none) (cellsFrom (s.heap.objs.size+1) scope.names []) (bindC (envOfC qual scope s.heap.objs.size f cd).kindOf (ps.zip us) fun _=>none) s1) :
 Inv (eB CX P w K mg base N qual scope f cd A outer s H E) [] (start N vs) H s1:=by
 have hpl:ps.length<=N.length:=by have:=congrArg List.length S.pre;rw [Ni] at this;omega
 obtain ⟨h1,tk,rfl,hk⟩:=x.done
 have noA:∀b:Addr,b∉(eB CX P w K mg base N qual scope f cd A outer s H E).ex:=fun b z=>absurd (show b∈([]:List Addr) from z) (by simp)
 refine ⟨⟨e0.mod,S.kind,rfl,rfl,LP _,fun y z c h1 h2=>?_,fun y hy=>?_,fun y c _ h=>?_,fun _=>hd,Around.frames_deeper e0.frames,.inr ⟨rfl,rfl⟩,fun b z=>absurd z (noA b),e0.bs,e0.bsz,fun b _ _=>noA b,fun b z=>absurd z (noA b),e0.funs,e0.frf⟩,
  rfl,e0.bare,Un.kept hk,⟨_,x.toInCall.ns,fun i y v h1 h2 h3=>?_⟩,fun y c h=>⟨_,x.cell y c h⟩,e0.hok.fresh (LP _),fun y c h=>?_,fun p hp=>absurd (show p∈([]:List (Addr×Obj)) from hp) (by simp),e0.hok.kept hk,?_⟩
 ·exact name_of_addr x.apart (NR h1) (NR h2)
 ·have hy:scope.names.lookup y=some .cell\/scope.names.lookup y=some .free:=hy
  rcases hy with hy|hy
  ·exact sQ hy
  ·exact absurd rfl (S.nofree _ (NR hy))
 ·exact Nat.le_of_lt (x.above y c (NR h))
 ·have hi:i<vs.length:=by
   unfold start at h2
   by_cases hi:i<vs.length
   ·exact hi
   ·rw [MF (by simpa using hi)] at h2
    rw [Nw] at h2
    split at h2<;>cases h2
  have ha:vs[i]?=some v:=by
   unfold start at h2
   rw [Ma (by simpa using hi),Mr] at h2
   cases e:vs[i]? with
   |none=>rw [e] at h2;cases h2
   |some a=>rw [e] at h2;cases h2;rfl
  obtain ⟨u,hu,rv⟩:=r.get ha
  have hp:ps[i]?=some y:=by
   rw [<- S.pre,List.getElem?_take_of_lt (by omega)];exact h1
  have ndP:ps.Nodup:=by rw [<- S.pre];exact S.nd.sublist (List.take_sublist _ _)
  refine ⟨u,rv,?_⟩
  rcases S.par y (MJ hp) with k|k
  ·exact .inl ⟨k,qx ndP hp hu k⟩
  ·obtain ⟨c,e⟩:=sQ (n:=s.heap.objs.size+1) k
   refine .inr ⟨.inl k,c,e,?_⟩
   have q:=x.cell y c e
   rw [qz ndP hp hu (by show scope.names.lookup y≠_;rw [k];decide)] at q
   exact q
 ·exact e0.hok.fresh (Nat.le_of_lt (x.above y c (NR h)))
 ·unfold start
  show _=N.length
  rw [ME,LX,List.length_replicate]
  omega
theorem IL {CX:mT}{P:Mc}{w:Me}{K:LH}{mg:Str->Option LI}{base:Heap}{k:Nat}{f:Addr}{name qual:Str}{params:Arguments}{body:List Stmt}{scope:Scope}{dV kV doc pm cdv ct oc:LI}{an od:Option Addr}
 {osl:Array (Option LI)}{N ps:List Str}{sp:Sp} (lk:K.lookup f=some ⟨oc,od,.func (PySem.W.fnOf name qual params body scope dV kV doc pm an cdv ct),osl⟩) (hcd:PySem.W.codeIn K cdv qual=true) (S:gj N ps scope)
 (len:∀vs H Q E,sp vs H Q E->vs.length=ps.length)
 (hbody:∀(A:MK) (outer:List Env) (s:LM) (H:Hp) (vs:List V) (Q:VK) (E:XK),bx k (A.deeper (envOfC qual scope s.heap.objs.size f cdv))->sp vs H Q E->
  ∃t,lQ (eB CX P w K mg base N qual scope f cdv A outer s H E) body t/\t {nx:=fun _ H'=>Q .non H',rt:=Q} (start N vs) H) :
 fU P w K mg base CX (k+1) f (PySem.W.fnOf name qual params body scope dV kV doc pm an cdv ct) ps sp:=by
 refine ⟨len,fun A outer s H args us vs Q E hr e0 hb r hsp=>?_⟩
 have hl:=len _ _ _ _ hsp
 have KX:K.In s.heap:=e0.mod.kin.keeps fun b o e=>(e0.bs b o e).1
 have lim:s.heap.NoLimit:=e0.mod.nolimit.keeps fun b o e=>(e0.bs b o e).1
 have hkind:∀y∈ps.zip us,scope.names.lookup y.1=some .local\/(scope.names.lookup y.1=some .cell/\((cellsFrom (s.heap.objs.size+1) scope.names []).lookup y.1).isSome=true):=fun ⟨n,v⟩ hy=>by
  rcases S.par n (List.of_mem_zip hy).1 with q|q
  ·exact .inl q
  ·exact .inr ⟨q,PySem.W.cellsFrom_some _ _ _ (.inl q)⟩
 refine codeAny_call_function hr.depth (KX _ _ lk) rfl S.co S.gen rfl (PySem.W.codeRec_of KX hcd) (hb _ _ _ _ ?_)
 refine wpAny_newFunctionEnv_cells S.kind hkind fun env he s1 x=>?_
 subst he
 refine ⟨lim.keeps x.toInCall.keep,codeAny_func ?_⟩
 obtain ⟨t,ht,hq⟩:=hbody A outer s H vs Q E (hr.deeper _) hsp
 have I:Inv (eB CX P w K mg base N qual scope f cdv A outer s H E) [] (start N vs) H s1:=xV S hr.hd e0 hl r x
 refine wpAny_mono (ht [] s1 (start N vs) H _ I hq) (fun fl s' hs=>?_) fun e s' hs=>hs
 have fin:∀{σ':St}{H':Hp}{v:V}{u:LI},Inv (eB CX P w K mg base N qual scope f cdv A outer s H E) [] σ' H' s'->RelV v u->Q v H'->CE outer P w H s Q u s':=
  fun {σ' H' v u} J rv q=>⟨v,H',J.os,J.bare,J.base,J.hok,rv,q⟩
 cases fl with
 | ret u =>
   obtain ⟨v,σ',H',J,rv,q⟩:=hs
   exact fin J rv q
 | next =>
   obtain ⟨σ',H',J,q⟩:=hs
   exact fin (v:=V.non) (u:=Value.none) J rfl q
 | brk =>
   obtain ⟨_,_,_,q⟩:=hs
   exact False.elim q
 | cont =>
   obtain ⟨_,_,_,q⟩:=hs
   exact False.elim q
end L2
namespace L2
open PySem PySem.Spec PyProof.Rows
section
variable {X:Cx}{x:Str}{p pos:Pos}{e:Expr}{es:List Expr}{t:TA}{id T:String}{r:List V->Hp->VK->Prop}
noncomputable def JB (r:List V->Hp->VK->Prop)(t:TA):TE:=fun σ H Q=>t σ H fun vs H1=>r vs H1 Q
theorem rY (hc:cF X (.builtin id) r)(hg:Gl X x)(hm:X.mg x=none)(hv:bootBuiltins x=some (.builtin id))(ha:PA X (e::es) t)(hn:x≠"__name__":=by decide)(hdb:(x==("__debug__":Str))=false:=by decide)
 (he:starEach (e::es) X.env=(false,eval e X.env)::starEach es X.env:=by rfl) (hpl:(backTo pos (starEach es X.env)).any (·.1)=false:=by rfl):PE X (.Call (.Name x p) (e::es) [] pos) (JB r t):=by
 intro pins s σ H Q I h
 refine wpAny_Call_Name_kw (gz I hg hm hv ?_ hn hdb)
 exact PyProof.Rows.callWith_builtin1 (aO (ha pos pins s σ H _ I h) fun us s1 ⟨vs,H1,I1,r1,q1⟩=>hc pins s1 σ H1 vs us Q I1 r1 q1) he hpl
theorem xm (hc:cF X (.type T) r)(hg:Gl X x)(hm:X.mg x=none)(hv:bootBuiltins x=some (.type T))(ha:PA X (e::es) t)(hn:x≠"__name__":=by decide)(hdb:(x==("__debug__":Str))=false:=by decide)
 (he:starEach (e::es) X.env=(false,eval e X.env)::starEach es X.env:=by rfl) (hpl:(backTo pos (starEach es X.env)).any (·.1)=false:=by rfl):PE X (.Call (.Name x p) (e::es) [] pos) (JB r t):=by
 intro pins s σ H Q I h
 refine wpAny_Call_Name_kw (gz I hg hm hv ?_ hn hdb)
 exact MQ (aO (ha pos pins s σ H _ I h) fun us s1 ⟨vs,H1,I1,r1,q1⟩=>hc pins s1 σ H1 vs us Q I1 r1 q1) he hpl
end
end L2
namespace HT
open PySem PyProof.Rows
section
variable {prog:Mc}{w:Me}{A:MK}{E:LI->LM->Prop}{s:LM}
theorem Es {t b:Addr}{vs ws:List LI}{Q:LI->LM->Prop}(ht:IsTup s.heap t vs.toArray)(hb:IsTup s.heap b ws.toArray)(hv:vs≠[])
 (h1:ws=[]->Q (.ref t) s) (h2:ws≠[]->Q (.ref s.heap.objs.size) {s with heap:=s.heap.push {cls:=.type "tuple",data:=.seq (vs++ws).toArray}})
 (hsz:vs.length+ws.length<=sizeLine):wpAny (model prog w) A (binaryOp .Add (.ref t) (.ref b)) Q E s:=by
 obtain ⟨⟨cls,dd,data,sl⟩,ho,hc,n,hd⟩:=id ht
 obtain ⟨⟨cls2,dd2,data2,sl2⟩,ho2,hc2,n2,hd2⟩:=id hb
 simp only at hc hd hc2 hd2
 subst hc hd hc2 hd2
 have e:vs.toArray++ws.toArray=(vs++ws).toArray:=by simp
 by_cases hw:ws=[]
 ·exact concat_meets ⟨_,ho,rfl⟩ ⟨_,ho2,rfl⟩ noFill_tuple_add seq_tuple_add PySem.F.slot_tuple_add PySem.F.entry_tuple_add (PySem.F.args_tuple_add_2 _ _)
   (tuple_addW1 t b vs.toArray ws.toArray n n2 dd dd2 sl sl2 (by simpa using hv) (by simp [hw])) ⟨ho,ho2,h1 hw⟩
 ·refine concat_meets ⟨_,ho,rfl⟩ ⟨_,ho2,rfl⟩ noFill_tuple_add seq_tuple_add PySem.F.slot_tuple_add PySem.F.entry_tuple_add (PySem.F.args_tuple_add_2 _ _)
   (tuple_addW2 t b vs.toArray ws.toArray n n2 dd dd2 sl sl2 (by simpa using hv) (by simpa using hw) (by rw [LQ,LQ];exact hsz)) ⟨ho,ho2,?_⟩
  rw [e]
  exact h2 hw
noncomputable def aI (n d:Nat):Option Int->Nat
 |none=>d
 |some v=>if v<0 then (v+(n:Int)).toNat else min v.toNat n
theorem Fg (n d:Nat)(hd:d<=n)(o:Option Int):aI n d o<=n:=by
 cases o with
 |none=>exact hd
 | some v =>
   show (if v<0 then (v+(n:Int)).toNat else min v.toNat n)<=n
   by_cases hv:v<0
   ·rw [if_pos hv];omega
   ·rw [if_neg hv];exact Nat.min_le_right _ _
theorem uD (v:Int)(n d:Nat):(if v<0 then max (v+(n:Int)) 0 else min v (n:Int))=((aI n d (some v):Nat):Int):=by
 show (if v<0 then max (v+(n:Int)) 0 else min v (n:Int))=(((if v<0 then (v+(n:Int)).toNat else min v.toNat n):Nat):Int)
 by_cases hv:v<0
 ·simp only [if_pos hv];omega
 ·simp only [if_neg hv];omega
theorem vM (lo hi:Option Int)(n:Nat):Builtin.Slice.sliceAdjust lo hi 1 (n:Int)=(((aI n 0 lo:Nat):Int),((aI n n hi:Nat):Int)):=by
 have h1:¬ ((1:Int)<0):=by omega
 unfold Builtin.Slice.sliceAdjust
 simp only [h1,if_false]
 refine Prod.ext ?_ ?_
 ·cases lo with
  |none=>rfl
  |some v=>exact uD v n 0
 ·cases hi with
  |none=>rfl
  |some v=>exact uD v n n
theorem uW (i j:Nat):Builtin.Slice.slicePlaces (i:Int) (j:Int) 1=j-i:=by
 unfold Builtin.Slice.slicePlaces
 have h1:(1:Int) > 0:=by omega
 simp only [h1,if_true,Int.ediv_one]
 split<;>omega
theorem nO {v:LI}{o:Option Int}{Q:Option Int->LM->Prop}(p:IsPart v o)(h:Q o s):wpAny (model prog w) A (Builtin.Slice.slicePartIndex v) Q E s:=by
 cases p with
 |none=>exact slicePart_none h
 |int i t=>exact slicePart_int h
theorem i4 {sl:Addr}{vl vu:LI}{lo hi:Option Int}{n:Nat}{Q:Int×Int×Nat->LM->Prop}(hs:s.heap.IsSliceOf sl vl vu .none)(pl:IsPart vl lo)(pu:IsPart vu hi)
 (h:Q (((aI n 0 lo:Nat):Int),1,aI n n hi-aI n 0 lo) s):wpAny (model prog w) A (Builtin.Slice.sliceApplied (.ref sl) (pure (n:Int))) Q E s:=by
 obtain ⟨os,hos,hcs,hds⟩:=id hs
 unfold Builtin.Slice.sliceApplied Builtin.Slice.sliceFields
 refine tqa (tqa (tqf hos hds (x:=vl) rfl (tqa (tqf hos hds (x:=vu) rfl (tqa (tqf hos hds (x:=.none) rfl (tqb ?_)))))))
 refine tqa (slicePart_none ?_)
 show wpAny _ _ (if ((1:Int)==0)=true then _ else _) _ _ s
 rw [if_neg (by decide)]
 refine tqa (nO pl (tqa (nO pu (tqa (tqb ?_)))))
 show wpAny _ _ (match Builtin.Slice.sliceAdjust lo hi 1 (n:Int) with|(lo,hi)=>pure (lo,(1:Int),Builtin.Slice.slicePlaces lo hi 1)) _ _ s
 rw [vM lo hi n]
 show wpAny _ _ (pure (((aI n 0 lo:Nat):Int),(1:Int),Builtin.Slice.slicePlaces ((aI n 0 lo:Nat):Int) ((aI n n hi:Nat):Int) 1)) _ _ s
 rw [uW]
 exact tqb h
theorem zP (xs:Array LI)(i k:Nat):((List.range k).filterMap fun (m:Nat)=>xs[((i:Int)+(m:Int)*1).toNat]?).toArray=((xs.toList.drop i).take k).toArray:=by
 have e:(fun (m:Nat)=>xs[((i:Int)+(m:Int)*1).toNat]?)=fun m=>xs[i+m]?:=by
  funext m
  have:((i:Int)+(m:Int)*1).toNat=i+m:=by omega
  rw [this]
 rw [e]
 have:=pick_run xs i k
 rw [List.filterMap_map] at this
 have e2:((fun x=>xs[x]?)∘fun x=>i+x)=fun m=>xs[i+m]?:=rfl
 rw [e2] at this
 rw [this]
theorem mG {t sl:Addr}{items:Array LI}{vl vu:LI}{lo hi:Option Int}{Q:LI->LM->Prop}(ht:IsTup s.heap t items)(hs:s.heap.IsSliceOf sl vl vu .none)(pl:IsPart vl lo)(pu:IsPart vu hi)
 (hw:¬ (aI items.size 0 lo=0/\aI items.size items.size hi=items.size))
 (h:Q (.ref s.heap.objs.size) {s with heap:=s.heap.push {cls:=.type "tuple",data:=.seq ((items.toList.drop (aI items.size 0 lo)).take (aI items.size items.size hi-aI items.size 0 lo)).toArray}})
 (hsz:items.size<=sizeLine):wpAny (model prog w) A (getItem (.ref t) (.ref sl)) Q E s:=by
 have htake:sizeOk (.seq ((items.toList.drop (aI items.size 0 lo)).take (aI items.size items.size hi-aI items.size 0 lo)).toArray):=by
  show ((items.toList.drop (aI items.size 0 lo)).take (aI items.size items.size hi-aI items.size 0 lo)).toArray.size<=sizeLine
  rw [LQ,Ni,List.length_drop,Nr]
  omega
 have hj:aI items.size items.size hi<=items.size:=Fg _ _ (LP _) hi
 obtain ⟨os,hos,hcs,hds⟩:=id hs
 have hTs:s.TypeIs (.ref sl) "slice":=⟨os,hos,hcs⟩
 unfold getItem
 try with_reducible refine tqo ?_
 first|refine tqa (tqb ?_)|skip
 refine tqa (wpAny_sequenceKey ht.typeIs (by decide) ?_)
 refine tqa (wpAny_callSpecial?_slot (name:=Str.ofString "__getitem__") ht.typeIs Mv
  (wpAny_call_entry Mv ht.typeIs entry_tuple_getitem ?_ (args_tuple_getitem _ _)))
 show wpAny _ _ (Builtin.Tuple.tupleItemsOf (.ref t) >>= _) _ _ s
 refine tqa (tupleItemsOf_ ht ?_)
 refine tqa (wpAny_typeOf hTs ?_)
 rw [if_pos (by decide)]
 refine tqa (i4 hs pl pu ?_)
 have hno:¬ ((((aI items.size 0 lo:Nat):Int)==0&&(1:Int)==1&&(aI items.size items.size hi-aI items.size 0 lo)==items.size)=true):=by
  intro q
  rw [LN,LN] at q
  have q1:((aI items.size 0 lo:Nat):Int)=0:=eq_of_beq q.1.1
  have q2:aI items.size items.size hi-aI items.size 0 lo=items.size:=eq_of_beq q.2
  exact hw ⟨by omega,by omega⟩
 show wpAny _ _ (if (((aI items.size 0 lo:Nat):Int)==0&&(1:Int)==1&&(aI items.size items.size hi-aI items.size 0 lo)==items.size)=true then _ else _) _ _ s
 rw [if_neg hno,zP]
 first
  |exact tqa (m:=Builtin.Tuple.tupleExact _) (wpAny_newObj_type (tqb ⟨_,rfl,tqb h⟩) htake)
  |exact tqa (m:=Builtin.Tuple.tupleExact _) (wpAny_newObj_type (tqa (tqb (tqb ⟨_,rfl,tqb h⟩))) htake)
  |exact tqa (tqa (m:=Builtin.Tuple.tupleExact _) (wpAny_newObj_type (tqb (tqb ⟨_,rfl,tqb h⟩)) htake))
  |exact tqa (tqa (m:=Builtin.Tuple.tupleExact _) (wpAny_newObj_type (tqb ⟨_,rfl,tqb h⟩) htake))
end
end HT
namespace L2
open PySem PySem.Spec PyProof.Rows
abbrev TO:=St->Hp->(Option Int->Hp->Prop)->Prop
noncomputable def PO (X:Cx)(e:Option Expr)(t:TO):Prop:=
 ∀(pins:List (Addr×Obj)) (s:LM) (σ:St) (H:Hp) (Q:Option Int->Hp->Prop),Inv X pins σ H s->t σ H Q->
  wpAny (model X.prog X.w) X.A (evalPart e X.env) (fun u s'=>∃o H',Inv X pins σ H' s'/\IsPart u o/\Q o H') X.xe s
noncomputable def CM:TO:=fun _ H Q=>Q none H
noncomputable def HV (t:TE):TO:=fun σ H Q=>t σ H fun x H1=>∃i,x=.int i/\Q (some i) H1
section
variable {X:Cx}{e:Expr}{te:TE}{lo hi:Option Expr}{tl th:TO}{pos p2:Pos}
theorem Dq:PO X none CM:=by
 intro pins s σ H Q I h
 rw [evalPart_none]
 exact tqb ⟨none,H,I,.none,h⟩
theorem Dp (h:PE X e te):PO X (some e) (HV te):=by
 intro pins s σ H Q I hw
 rw [evalPart_some]
 refine aO (h pins s σ H _ I hw) fun u s1 ⟨x,H1,I1,r1,q1⟩=>?_
 obtain ⟨i,rfl,q⟩:=q1
 obtain ⟨t,rfl⟩:=r1
 exact ⟨some i,H1,I1,.int i t,q⟩
noncomputable def kN (X:Cx)(r:V->Option Int->Option Int->Hp->VK->Prop):Prop:=
 ∀(pins:List (Addr×Obj)) (s:LM) (σ:St) (H:Hp) (x:V) (v vl vu:LI) (lo hi:Option Int) (sl:Addr) (Q:VK),Inv X pins σ H s->RelV x v->s.heap.IsSliceOf sl vl vu .none->IsPart vl lo->IsPart vu hi->r x lo hi H Q->
  ∃T id,typeLookup (.type T) "__getitem__"=pure (some (.builtin id))/\s.TypeIs v T/\wpAny (model X.prog X.w) X.A (getItem v (.ref sl)) (EP X pins σ Q) X.xe s
theorem kN.or {r r':V->Option Int->Option Int->Hp->VK->Prop}(h:kN X r)(h':kN X r'):kN X (fun x lo hi H Q=>r x lo hi H Q\/r' x lo hi H Q):=by
 intro pins s σ H x v vl vu lo hi sl Q I rx hs pl pu q
 rcases q with q|q
 ·exact h pins s σ H x v vl vu lo hi sl Q I rx hs pl pu q
 ·exact h' pins s σ H x v vl vu lo hi sl Q I rx hs pl pu q
noncomputable def tSl (r:V->Option Int->Option Int->Hp->VK->Prop)(te:TE)(tl th:TO):TE:=fun σ H Q=>te σ H fun x H1=>tl σ H1 fun l H2=>th σ H2 fun u H3=>r x l u H3 Q
theorem rW {r:V->Option Int->Option Int->Hp->VK->Prop}(hr:kN X r)(he:PE X e te)(hl:PO X lo tl)(hu:PO X hi th):PE X (.Subscript e (.Slice lo hi none p2) pos) (tSl r te tl th):=by
 intro pins s σ H Q I h
 refine Subscript_ (aO (he pins s σ H _ I h) fun v s1 ⟨x,H1,I1,r1,q1⟩=>?_)
 refine wpAny_Slice (aO (hl pins s1 σ H1 _ I1 q1) fun vl s2 ⟨l,H2,I2,pl,q2⟩=>aO (hu pins s2 σ H2 _ I2 q2) fun vu s3 ⟨u,H3,I3,pu,q3⟩=>?_)
 rw [evalPart_none]
 refine tqb ?_
 have I4:Inv X pins σ H3 {s3 with heap:=s3.heap.push {cls:=.type "slice",data:=.fields #[vl,vu,.none]}}:=I3.kept (t':=s3.toks) fun b ob q=>LK _ q
 obtain ⟨T,id,hT,ht,hg⟩:=hr pins {s3 with heap:=s3.heap.push {cls:=.type "slice",data:=.fields #[vl,vu,.none]}} σ H3 x v vl vu l u s3.heap.objs.size Q I4 r1 (Heap.IsSliceOf.new ..) pl pu q3
 show wpAny (model X.prog X.w) X.A (subscriptTail e (.Slice lo hi none p2) v (.ref s3.heap.objs.size)) (EP X pins σ Q) X.xe {s3 with heap:=s3.heap.push {cls:=.type "slice",data:=.fields #[vl,vu,.none]}}
 exact tail_any (ops:=[.ref s3.heap.objs.size,v]) ht hT hg (by with_unfolding_all rfl)
noncomputable def lJ (xs:List V)(lo hi:Option Int):List V:=(xs.drop (HT.aI xs.length 0 lo)).take (HT.aI xs.length xs.length hi-HT.aI xs.length 0 lo)
theorem mO (xs:List V)(lo hi:Option Int):(lJ xs lo hi).length<=xs.length:=by
 unfold lJ
 rw [Ni,List.length_drop]
 omega
noncomputable def Fs (K:LH):V->Option Int->Option Int->Hp->VK->Prop:=fun x lo hi H Q=>∃a xs,x=.ref a/\c9 K H a xs/\
 ¬ (HT.aI xs.length 0 lo=0/\HT.aI xs.length xs.length hi=xs.length)/\∀p,H p=none->Q (.ref p) (upd H p (.tup (lJ xs lo hi)))
theorem E3:kN X (Fs X.K):=by
 intro pins s σ H x v vl vu lo hi sl Q I rx hs pl pu h
 obtain ⟨a,xs,rfl,hx,hw,q⟩:=h
 cases rx
 obtain ⟨its,r,ht,hz⟩:=I.tuple hx
 have hlen:its.toArray.size=xs.length:=by rw [LQ];exact r.length.symm
 refine ⟨"tuple",_,Mv.lookup,ht.typeIs,?_⟩
 refine HT.mG ht hs pl pu (by rw [hlen];exact hw) ?_ (by rw [hlen];exact hz)
 rw [hlen]
 refine ⟨.ref s.heap.objs.size,_,I.laid (t':=s.toks) (o:=.tup (lJ xs lo hi)) (fun b ob q=>LK _ q) (LP _) ?_,rfl,q _ (I.hok.fresh (LP _))⟩
 exact ⟨LR (mO xs lo hi) hz,_,(r.drop (HT.aI xs.length 0 lo)).take (HT.aI xs.length xs.length hi-HT.aI xs.length 0 lo),IsTup.new _ _⟩
noncomputable def Ih (K:LH):R2:=fun x y H Q=>∃a b xs ys,x=.ref a/\y=.ref b/\c9 K H a xs/\c9 K H b ys/\xs≠[]/\xs.length+ys.length<=sizeLine/\
 (ys=[]->Q (.ref a) H)/\(ys≠[]->∀p,H p=none->Q (.ref p) (upd H p (.tup (xs++ys))))
theorem Vals.nil_iff {xs:List V}{us:List LI}(r:Vals xs us):us=[]↔xs=[]:=by
 cases r with
 |nil=>simp
 |cons _ _=>simp
theorem DF:bz X (binaryOp .Add) (Ih X.K):=by
 intro pins s σ H x y v u Q I rx ry h
 obtain ⟨a,b,xs,ys,rfl,rfl,ha,hb,hx,hz,q1,q2⟩:=h
 cases rx
 cases ry
 obtain ⟨its,r1,p1,_⟩:=I.tuple ha
 obtain ⟨its2,r2,p2,_⟩:=I.tuple hb
 refine HT.Es p1 p2 (fun z=>hx (r1.nil_iff.mp z)) (fun z=>⟨.ref a,H,I,rfl,q1 (r2.nil_iff.mp z)⟩) (fun z=>?_) (by rw [<- r1.length,<- r2.length];exact hz)
 refine ⟨.ref s.heap.objs.size,_,I.laid (t':=s.toks) (o:=.tup (xs++ys)) (fun b ob q=>LK _ q) (LP _) ?_,rfl,q2 (fun w=>z (r2.nil_iff.mpr w)) _ (I.hok.fresh (LP _))⟩
 exact ⟨by rw [ME];exact hz,_,r1.append r2,IsTup.new _ _⟩
end
end L2
namespace L2
open PySem PySem.Spec PyProof.Rows
noncomputable def bL (n:Nat)(i:Int):Option Nat:=if 0<=i then (if i<n then some i.toNat else none) else if -(n:Int)<=i then some (i+n).toNat else none
noncomputable def qA {α:Type}(xs:List α)(i:Int):Option α:=(bL xs.length i).bind fun j=>xs[j]?
theorem ur {n:Nat}{i:Int}{j:Nat}(h:bL n i=some j):seqIndex? i n=some j/\j<n/\-(n:Int)<=i/\i<n:=by
 unfold bL at h
 by_cases h0:0<=i
 ·rw [if_pos h0] at h
  by_cases h1:i<n
  ·rw [if_pos h1] at h
   have e:i.toNat=j:=LO h
   exact ⟨by rw [seqIndex_of h0 h1,e],by omega,by omega,h1⟩
  ·rw [if_neg h1] at h;cases h
 ·rw [if_neg h0] at h
  by_cases h1:-(n:Int)<=i
  ·rw [if_pos h1] at h
   have e:(i+n).toNat=j:=LO h
   exact ⟨by rw [seqIndex_neg (by omega) h1,e],by omega,h1,by omega⟩
  ·rw [if_neg h1] at h;cases h
theorem pD {α:Type}{xs:List α}{i:Int}{v:α}(h:qA xs i=some v):∃j,seqIndex? i xs.length=some j/\xs[j]?=some v/\j<xs.length/\-(xs.length:Int)<=i/\i<xs.length:=by
 unfold qA at h
 cases e:bL xs.length i with
 |none=>rw [e] at h;cases h
 | some j =>
   rw [e] at h
   obtain ⟨h1,h2,h3,h4⟩:=ur e
   exact ⟨j,h1,h,h2,h3,h4⟩
noncomputable def j0 (b:Expr):Prop:=∀o i,subscripted b false o i=operate [o,i] (getItem o i)
noncomputable def j3 (X:Cx)(r:R2):Prop:=
 ∀(value slice:Expr) (pins:List (Addr×Obj)) (s:LM) (σ:St) (H:Hp) (x y:V) (v u:LI) (Q:VK),Inv X pins σ H s->RelV x v->RelV y u->r x y H Q->
  subscripted slice false v u=operate [v,u] (getItem v u)->wpAny (model X.prog X.w) X.A (subscriptTail value slice v u) (EP X pins σ Q) X.xe s
noncomputable def JZ (X:Cx)(id:String)(r:V->List V->Hp->VK->Prop):Prop:=
 ∀(pins:List (Addr×Obj)) (s:LM) (σ:St) (H:Hp) (x:V) (xs:List V) (v:LI) (us:List LI) (Q:VK),Inv X pins σ H s->RelV x v->Vals xs us->r x xs H Q->
  wpAny (model X.prog X.w) X.A (call (.builtin id) (v::us)) (EP X pins σ Q) X.xe s
section
variable {X:Cx}{a b:Expr}{ta tb:TE}{pos:Pos}
theorem j3.or {r r':R2}(h:j3 X r)(h':j3 X r'):j3 X (fun x y H Q=>r x y H Q\/r' x y H Q):=by
 intro value slice pins s σ H x y v u Q I rx ry q hs
 rcases q with q|q
 ·exact h value slice pins s σ H x y v u Q I rx ry q hs
 ·exact h' value slice pins s σ H x y v u Q I rx ry q hs
theorem Bv {r:R2}(hr:j3 X r)(ha:PE X a ta)(hb:PE X b tb)(hs:j0 b):PE X (.Subscript a b pos) (wD r ta tb):=by
 intro pins s σ H Q I h
 exact Subscript_ (AV ha hb I h fun v u s2 x y H2 I2 rx ry q=>hr a b pins s2 σ H2 x y v u Q I2 rx ry q (hs _ _))
noncomputable def Fx (K:LH):R2:=fun x y H Q=>∃p xs i v,x=.ref p/\y=.int i/\b9 K H p xs/\qA xs i=some v/\Q v H
noncomputable def Fv (K:LH):R2:=fun x y H Q=>∃p xs i v,x=.ref p/\y=.int i/\c9 K H p xs/\qA xs i=some v/\Q v H
noncomputable def Fw:R2:=fun x y H Q=>∃z i c,x=.str z/\y=.int i/\z.length<=sizeLine/\qA z.cps.toList i=some c/\Q (.str ⟨#[c]⟩) H
theorem DV:j3 X (Fx X.K):=by
 intro value slice pins s σ H x y v u Q I rx ry h hs
 obtain ⟨p,xs,i,z,rfl,rfl,hq,he,q⟩:=h
 cases rx
 obtain ⟨t,rfl⟩:=ry
 obtain ⟨its,r,pl,hz⟩:=I.list hq
 obtain ⟨j,h1,h2,h3,h4,h5⟩:=pD he
 obtain ⟨w,ew,rw'⟩:=r.get h2
 have hl:=r.length
 have hn:=jd
 have fin:EP X pins σ Q w s:=⟨z,H,I,rw',q⟩
 by_cases h0:0<=i
 ·have hj:i.toNat=j:=by
   rw [seqIndex_of h0 h5] at h1
   exact LO h1
  exact item_listR pl.isList h0 (by omega) (by rw [hj];simpa using ew) fin hs
 ·have hj:(i+(its.toArray.size:Int)).toNat=j:=by
   rw [seqIndex_neg (by omega) h4] at h1
   rw [LQ,<- hl]
   exact LO h1
  exact subscriptTail_builtinR (x:=w) pl.isList.typeIs slot_list_getitem.lookup
   (wpAny_getItem_list_neg (Q:=fun r s'=>r=w/\EP X pins σ Q r s') pl.isList (by omega) (by rw [LQ]<;>omega) (by omega) (by rw [hj];simpa using ew) ⟨rfl,fin⟩) hs
theorem GI:j3 X (Fv X.K):=by
 intro value slice pins s σ H x y v u Q I rx ry h hs
 obtain ⟨p,xs,i,z,rfl,rfl,hq,he,q⟩:=h
 cases rx
 obtain ⟨t,rfl⟩:=ry
 obtain ⟨its,r,pl,hz⟩:=I.tuple hq
 obtain ⟨j,h1,h2,h3,h4,h5⟩:=pD he
 obtain ⟨w,ew,rw'⟩:=r.get h2
 have hl:=r.length
 have hn:=jd
 have fin:EP X pins σ Q w s:=⟨z,H,I,rw',q⟩
 exact subscriptTail_builtinR (x:=w) pl.typeIs slot_tuple_getitem.lookup
  (getItem_tuple (j:=j) (Q:=fun r s'=>r=w/\EP X pins σ Q r s') pl (by omega) (by omega) (by rw [LQ,<- hl];exact h1) (by simpa using ew) ⟨rfl,fin⟩) hs
theorem GJ:j3 X Fw:=by
 intro value slice pins s σ H x y v u Q I rx ry h hs
 obtain ⟨z,i,c,rfl,rfl,hz,he,q⟩:=h
 obtain ⟨t,rfl⟩:=rx
 obtain ⟨t',rfl⟩:=ry
 obtain ⟨j,h1,h2,h3,h4,h5⟩:=pD he
 have hl:z.cps.toList.length=z.length:=by simp [Str.length]
 rw [hl] at h1 h4 h5
 have hn:=jd
 exact tail_any (typeIs_str s z t) slot_str_getitem.lookup (getItem_str (c:=c) (by
  have e1:decide (i < -(2^63:Int))=false:=decide_eq_false (by omega)
  have e2:decide (i≥2^63)=false:=decide_eq_false (by omega)
  rw [e1,e2,Bool.or_false]) (by rw [h1];simpa using h2) ⟨.str ⟨#[c]⟩,H,I.tok _,⟨_,rfl⟩,q⟩) hs
noncomputable def Fy (K:LH):R2:=fun x y H Q=>Fx K x y H Q\/Fv K x y H Q\/Fw x y H Q
theorem GK:j3 X (Fy X.K):=DV.or (GI.or GJ)
theorem vc (its:List LI)(n j:Nat)(u:LI):Obj.mapSeq (·.setIfInBounds j u) {cls:=.type "list",data:=.seq its.toArray n}={cls:=.type "list",data:=.seq (its.set j u).toArray n}:=by
 simp [Obj.mapSeq]
theorem Inv.lst {pins:List (Addr×Obj)}{σ:St}{H:Hp}{s:LM}{p:Addr}{xs:List V}(I:Inv X pins σ H s)(h:H p=some (.lst xs)) :
 ∃(its:List LI) (n:Nat),Vals xs its/\s.heap.get? p=some {cls:=.type "list",data:=.seq its.toArray n}/\xs.length<=sizeLine:=by
 obtain ⟨z,its,n,r,e⟩:=I.hok p _ h
 exact ⟨its,n,r,e,z⟩
theorem Inv.lstUpd {pins:List (Addr×Obj)}{σ:St}{H:Hp}{s:LM}{p:Addr}{xs ys:List V}{its its':List LI}{n n':Nat}{f:Obj->Obj}(I:Inv X pins σ H s)(h:H p=some (.lst xs))
 (ho:s.heap.get? p=some {cls:=.type "list",data:=.seq its.toArray n}) (hf:f {cls:=.type "list",data:=.seq its.toArray n}={cls:=.type "list",data:=.seq its'.toArray n'}) (r:Vals ys its') (hz:ys.length<=sizeLine) (t:Nat) :
 Inv X pins σ (upd H p (.lst ys)) {s with heap:=s.heap.update p f,toks:=t}:=by
 have e:(s.heap.update p f).get? p=some {cls:=.type "list",data:=.seq its'.toArray n'}:=by
  rw [Nj f ho (by rw [hf]<;>rfl),hf]
 refine I.write (x:=p) (e:=p) (by rw [h];trivial) (.inl rfl) (fun b u hb q=>(MM _ _ (MR hb)).trans q) ⟨_,e⟩ ?_
 exact ⟨hz,its',n',r,e⟩
noncomputable def Bt:V->V->V->Hp->(Hp->Prop)->Prop:=fun o i v H Q=>∃p xs k j,o=.ref p/\i=.int k/\H p=some (.lst xs)/\bL xs.length k=some j/\Q (upd H p (.lst (xs.set j v)))
theorem set_list:HC X Bt:=by
 intro pins s σ H o i v ov iv u Q I ro ri rv h
 obtain ⟨p,xs,k,j,rfl,rfl,hp,hj,q⟩:=h
 cases ro
 obtain ⟨t,rfl⟩:=ri
 obtain ⟨its,n,r,ho,hz⟩:=I.lst hp
 obtain ⟨h1,h2,h3,h4⟩:=ur hj
 have hl:=r.length
 have hn:=jd
 have I':Inv X pins σ (upd H p (.lst (xs.set j v))) {s with heap:=s.heap.update p (Obj.mapSeq (·.setIfInBounds j u))}:=
  I.lstUpd hp ho (vc its n j u) (r.set rv j) (by rw [List.length_set];exact hz) s.toks
 by_cases h0:0<=k
 ·have hk:k.toNat=j:=by
   rw [seqIndex_of h0 h4] at h1
   exact LO h1
  exact PySem.W.ki_setAt ho h0 (by omega) (by rw [LQ,<- hl];exact h4) (by rw [hk];exact ⟨_,I',q⟩)
 ·have hk:(k+(its.toArray.size:Int)).toNat=j:=by
   rw [seqIndex_neg (by omega) h3] at h1
   rw [LQ,<- hl]
   exact LO h1
  exact PySem.W.ki_setBack ho (by omega) (by rw [LQ,<- hl];exact h3) (by omega) (by rw [hk];exact ⟨_,I',q⟩)
theorem rJ (lo hi:Option Int)(n:Nat):(sliceBounds lo hi none n).1=((HT.aI n 0 lo:Nat):Int)/\(sliceBounds lo hi none n).2.1=((HT.aI n n hi:Nat):Int)/\(sliceBounds lo hi none n).2.2=1:=by
 refine ⟨?_,?_,rfl⟩
 ·cases lo with
  |none=>simp [sliceBounds,HT.aI]
  | some i =>
    simp only [sliceBounds,HT.aI,Option.getD_none,show (1:Int) > 0 by decide,if_true]
    by_cases h:i<0
    ·simp only [h,if_true]<;>omega
    ·simp only [h,if_false]<;>omega
 ·cases hi with
  |none=>simp [sliceBounds,HT.aI]
  | some i =>
    simp only [sliceBounds,HT.aI,Option.getD_none,show (1:Int) > 0 by decide,if_true]
    by_cases h:i<0
    ·simp only [h,if_true]<;>omega
    ·simp only [h,if_false]<;>omega
theorem qF (its:List LI)(lo hi:Option Int):slicePick its.toArray lo hi none=((its.drop (HT.aI its.length 0 lo)).take (HT.aI its.length its.length hi-HT.aI its.length 0 lo)).toArray:=by
 obtain ⟨h1,h2,h3⟩:=rJ lo hi its.toArray.size
 unfold slicePick
 rw [h1,h2,h3]
 simp only [sliceRange_one,pick_run,LQ]<;>rfl
noncomputable def Ft (K:LH):V->Option Int->Option Int->Hp->VK->Prop:=fun x lo hi H Q=>∃a xs,x=.ref a/\b9 K H a xs/\∀p,H p=none->Q (.ref p) (upd H p (.lst (lJ xs lo hi)))
theorem C3:kN X (Ft X.K):=by
 intro pins s σ H x v vl vu lo hi sl Q I rx hs pl pu h
 obtain ⟨a,xs,rfl,hx,q⟩:=h
 cases rx
 obtain ⟨its,r,ht,hz⟩:=I.list hx
 have hlen:=r.length
 refine ⟨"list",_,slot_list_getitem.lookup,ht.isList.typeIs,?_⟩
 refine wpAny_getItem_list_slice ht.isList hs pl pu .none (by simp) ?_ (by rw [LQ]<;>omega)
 rw [qF,<- hlen]
 refine ⟨.ref s.heap.objs.size,_,I.laid (t':=s.toks) (o:=.lst (lJ xs lo hi)) (fun b ob q=>LK _ q) (LP _) ?_,rfl,q _ (I.hok.fresh (LP _))⟩
 exact ⟨LR (mO xs lo hi) hz,_,0,(r.drop (HT.aI xs.length 0 lo)).take (HT.aI xs.length xs.length hi-HT.aI xs.length 0 lo),L6 _ rfl⟩
theorem sT:cF X (.builtin "len") (fun xs H Q=>∃p ys,xs=[.ref p]/\(b9 X.K H p ys\/c9 X.K H p ys)/\Q (.int ys.length) H):=by
 intro pins s σ H xs us Q I r h
 obtain ⟨p,ys,rfl,hq,q⟩:=h
 obtain ⟨u,rfl,rx⟩:=vals1 r
 cases rx
 have hn:=jd
 rcases hq with hq|hq
 ·obtain ⟨its,r',pl,hz⟩:=I.list hq
  have hlen:=r'.length
  exact Calls.call_len_list pl.isList (by simp only [LQ]<;>omega) ⟨.int ys.length,H,I.tok _,⟨s.toks+1,by rw [LQ,hlen]⟩,q⟩
 ·obtain ⟨its,r',pl,hz⟩:=I.tuple hq
  have hlen:=r'.length
  exact len_tuple pl (by simp only [LQ]<;>omega) ⟨.int ys.length,H,I.tok _,⟨s.toks+1,by rw [LQ,hlen]⟩,q⟩
theorem sS:cF X (.builtin "len") (fun xs H Q=>∃z,xs=[.str z]/\z.length<=sizeLine/\Q (.int z.length) H):=by
 intro pins s σ H xs us Q I r h
 obtain ⟨z,rfl,hz,q⟩:=h
 obtain ⟨u,rfl,t,rfl⟩:=vals1 r
 have hn:=jd
 exact len_str (by omega) ⟨.int z.length,H,I.tok _,⟨_,rfl⟩,q⟩
theorem cF.or {f:LI}{r r':List V->Hp->VK->Prop}(h:cF X f r)(h':cF X f r'):cF X f (fun xs H Q=>r xs H Q\/r' xs H Q):=by
 intro pins s σ H xs us Q I rs q
 rcases q with q|q
 ·exact h pins s σ H xs us Q I rs q
 ·exact h' pins s σ H xs us Q I rs q
theorem sR:cF X (.type "list") (fun xs H Q=>∃p ys,xs=[.ref p]/\(b9 X.K H p ys\/c9 X.K H p ys)/\∀l,H l=none->Q (.ref l) (upd H l (.lst ys))):=by
 intro pins s σ H xs us Q I r h
 obtain ⟨p,ys,rfl,hq,q⟩:=h
 obtain ⟨u,rfl,rx⟩:=vals1 r
 cases rx
 have fin:∀(its:List LI),Vals ys its->ys.length<=sizeLine->∀(h':Heap) (c':Nat),(∀b o',s.heap.get? b=some o'->h'.get? b=some o')->
  h'.get? s.heap.objs.size=some {cls:=.type "list",dict:=none,data:=.seq its.toArray c',slots:=#[]}->EP X pins σ Q (.ref s.heap.objs.size) {s with heap:=h'}:=fun its r' hz h' c' kp e=>
  ⟨.ref s.heap.objs.size,_,I.laid (t':=s.toks) kp (LP _) (show cj X.prog X.w _ h' _ (.lst ys) from ⟨hz,its,c',r',e⟩),rfl,q _ (I.hok.fresh (LP _))⟩
 rcases hq with hq|hq
 ·obtain ⟨its,r',pl,hz⟩:=I.list hq
  have hlen:=r'.length
  obtain ⟨o,ho,hc,n,hd⟩:=pl.isList
  exact call_list_seq p (.inl rfl) ho hc hd (fun h' c' kp e=>fin its r' hz h' c' kp e) (by simp only [LQ]<;>omega)
 ·obtain ⟨its,r',pl,hz⟩:=I.tuple hq
  have hlen:=r'.length
  obtain ⟨o,ho,hc,n,hd⟩:=pl
  exact call_list_seq p (.inr rfl) ho hc hd (fun h' c' kp e=>fin its r' hz h' c' kp e) (by simp only [LQ]<;>omega)
theorem qI:cF X (.type "tuple") (fun xs H Q=>∃p ys,xs=[.ref p]/\((b9 X.K H p ys/\∀l,H l=none->Q (.ref l) (upd H l (.tup ys)))\/(c9 X.K H p ys/\Q (.ref p) H))):=by
 intro pins s σ H xs us Q I r h
 obtain ⟨p,ys,rfl,h⟩:=h
 obtain ⟨u,rfl,rx⟩:=vals1 r
 cases rx
 rcases h with ⟨hq,q⟩|⟨hq,q⟩
 ·obtain ⟨its,r',pl,hz⟩:=I.list hq
  have hlen:=r'.length
  refine call_tuple_list pl.isList (fun h' kp=>?_) (by simp only [LQ]<;>omega)
  have I1:Inv X pins σ H {s with heap:=h'}:=I.kept (t':=s.toks) kp
  have I2:Inv X pins σ (upd H h'.objs.size (.tup ys)) {s with heap:=h'.push {cls:=.type "tuple",data:=.seq its.toArray}}:=
   I1.laid (t':=s.toks) (fun b o e=>LK _ e) (LP _) (show cj X.prog X.w _ _ _ (.tup ys) from ⟨hz,its,r',IsTup.new _ _⟩)
  exact ⟨.ref h'.objs.size,_,I2,rfl,q _ (I1.hok.fresh (LP _))⟩
 ·obtain ⟨its,r',pl,hz⟩:=I.tuple hq
  exact call_tuple_same pl ⟨.ref p,H,I,rfl,q⟩
noncomputable def EW (K:LH)(T:String)(x:V)(H:Hp):Prop:=match x with
 |.str _=>T="str"
 |.int _=>T="int"
 |.ref p=>(T="list"/\∃xs,b9 K H p xs)\/(T="tuple"/\∃o,K.lookup p=some o/\o.cls=.type "tuple"/\o.dict=none)\/
  (T="dict"/\((∃kvs,H p=some (.dK kvs))\/∃kvs,H p=some (.dT kvs)))\/(T="set"/\∃S n,H p=some (.set S n))
 |_=>False
theorem wt {pins:List (Addr×Obj)}{σ:St}{H:Hp}{s:LM}{T:String}{x:V}{v:LI}(I:Inv X pins σ H s)(r:RelV x v)(ty:EW X.K T x H) :
 s.TypeIs v T/\∀a,v=.ref a->∃ob,s.heap.get? a=some ob/\ob.dict=none:=by
 cases x with
 | str z =>
   obtain ⟨t,rfl⟩:=r
   cases (show T="str" from ty)
   exact ⟨typeIs_str s z t,fun _ e=>nomatch e⟩
 | int i =>
   obtain ⟨t,rfl⟩:=r
   cases (show T="int" from ty)
   exact ⟨typeIs_int s i t,fun _ e=>nomatch e⟩
 | ref p =>
   cases r
   rcases ty with ⟨rfl,xs,hq⟩|⟨rfl,o,hk,hc,hd⟩|⟨rfl,hk⟩|⟨rfl,S,n,hk⟩
   ·obtain ⟨its,_,pl,_⟩:=I.list hq
    refine ⟨pl.isList.typeIs,fun a e=>?_⟩
    cases e
    obtain ⟨o,n,e,c,hd,_⟩:=pl
    exact ⟨o,e,hd⟩
   ·refine ⟨⟨o,I.kIn p o hk,hc⟩,fun a e=>?_⟩
    cases e
    exact ⟨o,I.kIn _ o hk,hd⟩
   ·have z:∃o,s.heap.get? p=some o/\o.ExactDict:=by
     rcases hk with ⟨kvs,hk⟩|⟨kvs,hk⟩
     ·obtain ⟨_,_,_,_,o,_,_,e,ex,_⟩:=I.hok p _ hk
      exact ⟨o,e,ex⟩
     ·obtain ⟨_,_,_,_,o,_,_,e,ex,_⟩:=I.hok p _ hk
      exact ⟨o,e,ex⟩
    obtain ⟨o,e,ex⟩:=z
    refine ⟨⟨o,e,ex.1⟩,fun a e2=>?_⟩
    cases e2
    exact ⟨o,e,ex.2.1⟩
   ·obtain ⟨o,_,_,_,e,ex,_⟩:=I.hok p _ hk
    refine ⟨⟨o,e,ex.1⟩,fun a e2=>?_⟩
    cases e2
    exact ⟨o,e,ex.2.1⟩
 |_=>exact False.elim ty
noncomputable def Ke (K:LH)(T:String)(r:V->List V->Hp->VK->Prop)(to:TE):TE:=fun σ H Q=>to σ H fun x H1=>EW K T x H1/\r x [] H1 Q
noncomputable def tBM (K:LH)(T:String)(r:V->List V->Hp->VK->Prop)(to:TE)(t:TA):TE:=fun σ H Q=>to σ H fun x H1=>EW K T x H1/\t σ H1 fun xs H2=>r x xs H2 Q
variable {o e:Expr}{es:List Expr}{to:TE}{t:TA}{name:Str}{apos cpos:Pos}{T id:String}{r:V->List V->Hp->VK->Prop}
theorem xn (pa:PlainAttrs T)(slot:Slot T name id)(hty:typeOf (.builtin id)=pure (.type "method_descriptor"))(hm:JZ X id r)(ho:PE X o to)
 (hbase:attributeBase o name X.env (eval o X.env)=eval o X.env:=by rfl) (hline:(apos.endLine==cpos.line)=true:=by rfl):PE X (.Call (.Attribute o name apos) [] [] cpos) (Ke X.K T r to):=by
 intro pins s σ H Q I h
 refine wpAny_Call_method0_late hbase hline (aO (ho pins s σ H _ I h) fun v s1 ⟨x,H1,I1,r1,ty,q1⟩=>?_)
 obtain ⟨h1,h2⟩:=wt I1 r1 ty
 exact ⟨T,id,pa,slot,hty,h1,h2,Calls.callWith_builtin rfl (PySem.evalArgs_none (hm pins s1 σ H1 x [] v [] Q I1 r1 .nil q1))⟩
theorem Ip (pa:PlainAttrs T)(slot:Slot T name id)(hty:typeOf (.builtin id)=pure (.type "method_descriptor"))(hm:JZ X id r)(ho:PE X o to)(ha:PA X (e::es) t)
 (hbase:attributeBase o name X.env (eval o X.env)=eval o X.env:=by rfl)
 (hfew:((backTo cpos (starEach (e::es) X.env)).all (fun x=>!x.1)&&(backToKw cpos (keywordEach [] X.env)).all (fun x=>x.1.isSome)
  && decide ((e::es).length+([]:List Keyword).length+(if ([]:List Keyword).isEmpty then 0 else 1)<30))=true:=by rfl)
 (hline:(apos.endLine==cpos.line)=true:=by rfl) (hs:starEach (e::es) X.env=(false,eval e X.env)::starEach es X.env:=by rfl) (hplain:(backTo cpos (starEach es X.env)).any (·.1)=false:=by rfl) :
 PE X (.Call (.Attribute o name apos) (e::es) [] cpos) (tBM X.K T r to t):=by
 intro pins s σ H Q I h
 refine wpAny_Call_method_late hbase hfew hline rfl (aO (ho pins s σ H _ I h) fun v s1 ⟨x,H1,I1,r1,ty,q1⟩=>?_)
 obtain ⟨h1,h2⟩:=wt I1 r1 ty
 refine ⟨T,id,pa,slot,hty,h1,h2,?_⟩
 have hA:=ha cpos pins s1 σ H1 _ I1 q1
 rw [hs] at hA ⊢
 refine Calls.callWith_builtin (by show (false||(backTo cpos (starEach es X.env)).any (·.1))=false;rw [hplain]<;>rfl) (Calls.evalArgs_plain ?_)
 exact aO hA fun us s2 ⟨vs,H2,I2,r2,q2⟩=>hm pins s2 σ H2 x vs v us Q I2 r1 r2 q2
end
end L2
namespace L2
open PySem PySem.Spec PyProof.Rows
noncomputable def Cd (X:Cx)(id:String)(r:V->List V->Hp->VK->Prop):Prop:=
 ∀(pins:List (Addr×Obj)) (s:LM) (σ:St) (H:Hp) (x:V) (xs:List V) (v:LI) (us:List LI) (Q:VK),Inv X pins σ H s->RelV x v->Vals xs us->r x xs H Q->
  wpAny (model X.prog X.w) X.A (call (.builtin id) (v::us)) (EP X pins σ Q) X.xe s
theorem Vals.one:∀{x:V}{us:List LI},Vals [x] us->∃u,us=[u]/\RelV x u
 |_,_,.cons r .nil=>⟨_,rfl,r⟩
theorem Vals.zero:∀{us:List LI},Vals [] us->us=[]
 |_,.nil=>rfl
theorem Vals.dropLast {xs:List V}{us:List LI}(h:Vals xs us):Vals xs.dropLast us.dropLast:=by
 induction h with
 |nil=>exact .nil
 | cons r t ih =>
   cases t with
   |nil=>exact .nil
   |cons q t'=>exact .cons r ih
theorem Vals.reverse {xs:List V}{us:List LI}(h:Vals xs us):Vals xs.reverse us.reverse:=by
 induction h with
 |nil=>exact .nil
 |cons r t ih=>rw [NF,NF];exact Vals.append ih (.cons r .nil)
theorem Vals.rep {xs:List V}{us:List LI}(h:Vals xs us):∀k:Nat,Vals (List.replicate k xs).flatten (List.replicate k us).flatten
 |0=>.nil
 | k + 1 => by
   rw [Nm,Nm,NG,NG]
   exact Vals.append h (Vals.rep h k)
theorem vt {α:Type}(l:List α):l.eraseIdx (l.length-1)=l.dropLast:=by
 induction l with
 |nil=>rfl
 | cons a r ih =>
   cases r with
   |nil=>rfl
   | cons b r =>
     have e:(a::b::r).length-1=((b::r).length-1)+1:=by
      have h1:(a::b::r).length=r.length+2:=rfl
      have h2:(b::r).length=r.length+1:=rfl
      omega
     rw [e,List.eraseIdx_cons_succ,ih]
     all_goals rfl
theorem foldl_rep (its:List LI):∀(k:Nat) (acc:List LI),
 List.foldl (fun x1 x2=>x1++x2) acc.toArray (List.replicate k its.toArray)=(acc++(List.replicate k its).flatten).toArray
 |0,acc=>by simp
 | k + 1, acc => by
   have e:acc.toArray++its.toArray=(acc++its).toArray:=by simp
   have e2:(acc++its)++(List.replicate k its).flatten=acc++(List.replicate (k+1) its).flatten:=by
    rw [Nm,NG,List.append_assoc]
   rw [<- e2,<- foldl_rep its k (acc++its),<- e,Nm,List.foldl_cons]
section
variable {X:Cx}{pins:List (Addr×Obj)}{σ:St}{H:Hp}{s:LM}{l b:Addr}{xs ys zs:List V}
theorem Inv.lset {its its':List LI}{n:Nat}{f:Array LI->Array LI}{t':Nat}(I:Inv X pins σ H s)(hH:H l=some (.lst xs))
 (e:s.heap.get? l=some {cls:=.type "list",data:=.seq its.toArray n}) (hf:f its.toArray=its'.toArray) (hv:Vals ys its') (hz:ys.length<=sizeLine) :
 Inv X pins σ (upd H l (.lst ys)) {s with heap:=s.heap.update l (Obj.mapSeq f),toks:=t'}:=by
 have q:=PySem.IsL.update e f
 rw [hf] at q
 refine I.write (x:=l) (e:=l) (by rw [hH];exact trivial) (.inl rfl) (fun b' u hb hu=>(MM s.heap (Obj.mapSeq f) (MR hb)).trans hu) ⟨_,q⟩ ?_
 exact ⟨hz,its',_,hv,q⟩
theorem Inv.lnew {its:List LI}{t':Nat}(I:Inv X pins σ H s)(hv:Vals ys its)(hz:ys.length<=sizeLine) :
 Inv X pins σ (upd H s.heap.objs.size (.lst ys)) {s with heap:=s.heap.push {cls:=.type "list",data:=.seq its.toArray},toks:=t'}:=
 I.laid (fun _ _ q=>LK _ q) (LP _) ⟨hz,its,0,hv,L6 _ rfl⟩
theorem Inv.fresh (I:Inv X pins σ H s):H s.heap.objs.size=none:=I.hok.fresh (LP _)
theorem Inv.lstM (I:Inv X pins σ H s)(hH:H l=some (.lst xs)):xs.length<=sizeLine/\∃(its:List LI) (n:Nat),Vals xs its/\xs.length=its.length/\s.heap.get? l=some {cls:=.type "list",data:=.seq its.toArray n}:=by
 obtain ⟨z,its,n,r,e⟩:=I.hok l _ hH
 exact ⟨z,its,n,r,r.length,e⟩
theorem sg {n:Nat}(h:n<=sizeLine):Builtin.List.listTooLong n=false:=by
 unfold Builtin.List.listTooLong
 exact decide_eq_false (by omega)
end
section
variable {X:Cx}
noncomputable def Dh:V->List V->Hp->VK->Prop:=fun x vs H Q=>∃l xs y,x=.ref l/\vs=[y]/\H l=some (.lst xs)/\xs.length<sizeLine/\Q .non (upd H l (.lst (xs++[y])))
theorem ql:Cd X "list.append" Dh:=by
 intro pins s σ H x vs v us Q I rx rv h
 obtain ⟨l,xs,y,rfl,rfl,hH,hz,q⟩:=h
 cases rx
 obtain ⟨u,rfl,ru⟩:=rv.one
 obtain ⟨z,its,n,r,hl,e⟩:=I.lstM hH
 refine call_meets F.slot_list_append ⟨_,e,rfl⟩ F.entry_list_append (F.args_list_append_2 _ _) (PySem.list_append l its.toArray n u (by rw [LQ];omega)) ⟨e,?_⟩
 refine ⟨.non,_,I.lset (its':=its++[u]) hH e (by simp) (r.append (.cons ru .nil)) ?_,rfl,q⟩
 rw [ME,List.length_singleton]
 omega
noncomputable def Dg:V->List V->Hp->VK->Prop:=fun x vs H Q=>∃l b xs zs,x=.ref l/\vs=[.ref b]/\H l=some (.lst xs)/\H b=some (.lst zs)/\xs.length+zs.length<=sizeLine/\Q .non (upd H l (.lst (xs++zs)))
theorem JO:Cd X "list.extend" Dg:=by
 intro pins s σ H x vs v us Q I rx rv h
 obtain ⟨l,b,xs,zs,rfl,rfl,hH,hB,hz,q⟩:=h
 cases rx
 obtain ⟨u,rfl,ru⟩:=rv.one
 cases ru
 obtain ⟨z,its,n,r,hl,e⟩:=I.lstM hH
 obtain ⟨z2,its2,n2,r2,hl2,e2⟩:=I.lstM hB
 have hsz:its.toArray.size+its2.toArray.size<=sizeLine:=by rw [LQ,LQ];omega
 have hlong:¬ (!its.toArray.isEmpty&&Builtin.List.listTooLong (its.toArray.size+its2.toArray.size))=true:=by
  rw [sg hsz,Bool.and_false]
  exact Mf
 refine call_meets F.slot_list_extend ⟨_,e,rfl⟩ F.entry_list_extend (F.args_list_extend_2 _ _)
  (AutoSeq1.list_extend_list_list_0 l its.toArray n b its2.toArray n2 hlong (by rw [LQ];omega) (by omega)) ⟨e,e2,?_⟩
 refine ⟨.non,_,I.lset (its':=its++its2) hH e (by simp) (r.append r2) ?_,rfl,q⟩
 rw [ME]
 omega
noncomputable def Km:V->List V->Hp->VK->Prop:=fun x vs H Q=>∃l xs y,x=.ref l/\vs=[]/\H l=some (.lst xs)/\xs[xs.length-1]?=some y/\Q y (upd H l (.lst xs.dropLast))
theorem Gv:Cd X "list.pop" Km:=by
 intro pins s σ H x vs v us Q I rx rv h
 obtain ⟨l,xs,y,rfl,rfl,hH,hy,q⟩:=h
 cases rx
 have hus:=rv.zero
 subst hus
 obtain ⟨z,its,n,r,hl,e⟩:=I.lstM hH
 obtain ⟨u,hu,ru⟩:=r.get hy
 have hy':its.toArray[its.toArray.size-1]?=some u:=by
  show its.toArray[its.length-1]?=some u
  rw [<- Array.getElem?_toList,<- hl]
  exact hu
 refine call_meets F.slot_list_pop ⟨_,e,rfl⟩ F.entry_list_pop (F.args_list_pop_1 _) (MeetsSeq.list_pop_last l its.toArray n u hy' (by rw [LQ];omega)) ⟨e,?_⟩
 refine ⟨y,_,I.lset (its':=its.dropLast) hH e ?_ r.dropLast ?_,ru,q⟩
 ·show its.toArray.eraseIdxIfInBounds (its.toArray.size-1)=its.dropLast.toArray
  rw [LQ,List.eraseIdxIfInBounds_toArray,vt]
 ·rw [List.length_dropLast]
  omega
noncomputable def zL:V->List V->Hp->VK->Prop:=fun x vs H Q=>∃l xs,x=.ref l/\vs=[]/\H l=some (.lst xs)/\Q .non (upd H l (.lst xs.reverse))
theorem u9:Cd X "list.reverse" zL:=by
 intro pins s σ H x vs v us Q I rx rv h
 obtain ⟨l,xs,rfl,rfl,hH,q⟩:=h
 cases rx
 have hus:=rv.zero
 subst hus
 obtain ⟨z,its,n,r,hl,e⟩:=I.lstM hH
 refine call_meets F.slot_list_reverse ⟨_,e,rfl⟩ F.entry_list_reverse (F.args_list_reverse_1 _) (AutoSeq1.list_reverse_list_0 l its.toArray n (by rw [LQ];omega)) ⟨e,?_⟩
 refine ⟨.non,_,I.lset (its':=its.reverse) hH e (by simp) r.reverse ?_,rfl,q⟩
 rw [List.length_reverse]
 omega
noncomputable def Kn:R2:=fun x y H Q=>∃l b xs zs,x=.ref l/\y=.ref b/\H l=some (.lst xs)/\H b=some (.lst zs)/\xs.length+zs.length<=sizeLine/\∀p,H p=none->Q (.ref p) (upd H p (.lst (xs++zs)))
theorem F6:bz X (binaryOp .Add) Kn:=by
 intro pins s σ H x y v u Q I rx ry h
 obtain ⟨l,b,xs,zs,rfl,rfl,hH,hB,hz,q⟩:=h
 cases rx
 cases ry
 obtain ⟨z,its,n,r,hl,e⟩:=I.lstM hH
 obtain ⟨z2,its2,n2,r2,hl2,e2⟩:=I.lstM hB
 refine PySem.P.add_list e e2 ?_ (by rw [LQ,LQ];omega)
 have ea:its.toArray++its2.toArray=(its++its2).toArray:=by simp
 rw [ea]
 exact ⟨.ref _,_,I.lnew (t':=s.toks) (r.append r2) (by rw [ME];omega),rfl,q _ I.fresh⟩
noncomputable def Kl:R2:=fun x y H Q=>∃l k xs,x=.ref l/\y=.int k/\H l=some (.lst xs)/\-(2^63)<=k/\k<2^63/\xs.length*k.toNat<=sizeLine/\
 ∀p,H p=none->Q (.ref p) (upd H p (.lst (List.replicate k.toNat xs).flatten))
theorem len_rep {α:Type}(xs:List α)(k:Nat):(List.replicate k xs).flatten.length=k*xs.length:=by
 induction k with
 |zero=>simp
 |succ k ih=>rw [Nm,NG,ME,ih,Nat.succ_mul,Nat.add_comm]
theorem F1:bz X (binaryOp .Mult) Kl:=by
 intro pins s σ H x y v u Q I rx ry h
 obtain ⟨l,k,xs,rfl,rfl,hH,h1,h2,hz,q⟩:=h
 cases rx
 obtain ⟨t,rfl⟩:=ry
 obtain ⟨z,its,n,r,hl,e⟩:=I.lstM hH
 have hlen:its.toArray.size*k.toNat<=sizeLine:=by rw [LQ,<- hl];exact hz
 have hcap:¬ its.toArray.size*k.toNat > (2^63-1) / 8:=by
  have:(sizeLine:Nat)<=(2^63-1) / 8:=by decide
  omega
 have hfit:¬ (!Builtin.List.listFitsIndex k)=true:=by
  rw [fitsIndex_both h1 h2]
  exact Mf
 have hlong:¬ Builtin.List.listTooLong (its.toArray.size*k.toNat)=true:=by
  rw [sg hlen]
  exact Mf
 have hnew:List.foldl (fun x1 x2=>x1++x2) #[] (List.replicate (if its.toArray.isEmpty=true then 0 else k.toNat) its.toArray)=(List.replicate k.toNat its).flatten.toArray:=by
  have f0:∀m:Nat,List.foldl (fun x1 x2=>x1++x2) #[] (List.replicate m its.toArray)=(List.replicate m its).flatten.toArray:=fun m=>by
   have:=foldl_rep its m []
   rw [NB] at this
   exact this
  rw [f0]
  cases its with
  |nil=>simp
  |cons a r'=>rw [if_neg (by simp)]
 refine wpAny_binaryOp_repeat_ref (T:="list") (U:="int") (by decide) ⟨_,e,rfl⟩ (fun s'=>typeIs_int s' k t) noFill_list_mul F.fills_int_mul F.slot_int_rmul repeat_list F.slot_int_index.lookup
  (call_meets F.slot_int_rmul (typeIs_int s k t) F.entry_int_rmul (F.args_int_rmul_2 _ _) (int___rmul___int_list k t l its.toArray n)
   ⟨e,rfl,⟨_,e,rfl⟩,call_meets F.slot_list_mul ⟨_,e,rfl⟩ F.entry_list_mul (F.args_list_mul_2 _ _) (AutoListH.list___mul___list_int_3 l its.toArray n k t hfit hcap hlong) ⟨e,?_⟩⟩)
 rw [hnew]
 exact ⟨.ref _,_,I.lnew (t':=s.toks) (r.rep k.toNat) (by rw [len_rep,Nat.mul_comm];exact hz),rfl,q _ I.fresh⟩
end
end L2
namespace Att
open PySem PySem.W PySem.Calls PyProof.Rows
theorem om {P:Nb}{h:Heap}:∀(ns:List Int) (vs:List LI),WellAll P h vs (ns.map WData.int)->IntsAre vs ns:=by
 intro ns
 induction ns with
 | nil =>
   intro vs w
   rw [List.map_nil] at w
   cases w
   exact .nil
 | cons n ns ih =>
   intro vs w
   rw [MO] at w
   cases w with
   | cons a b =>
     cases a
     exact .cons _ _ (ih _ b)
theorem wY {l:OpenLaw}{n:Nat}(hn:l.most=some n){P:Nb}{h:Heap}{args:List WData}{vals:List LI}
 (hpre:l.row.toRowW.claim.pre args=true) (hwl:WellAll P h vals args) :
 ∃a vs ns,vals=[Value.ref a]/\args=[WData.list (ns.map WData.int)]/\h.get? a=some {cls:=.type "list",data:=.seq vs.toArray}/\IntsAre vs ns/\ns.length<=n:=by
 have hsh:WShape.hasAll [] args [.list .int]=true:=(pre_splitW hpre).1
 have hc:l.pre.holds [] {args:=args}=true:=(pre_splitW hpre).2
 obtain ⟨d,r,rfl,h1,h2⟩:=hasAllW_cons hsh
 obtain rfl:=hasAllW_nil h2
 obtain ⟨xs,rfl,h3⟩:=hasW_list h1
 obtain ⟨ns,rfl⟩:=items_int h3
 have hlen:ns.length<=n:=by
  unfold OpenLaw.pre at hc
  have h4:(WTm.not (.lt (.lit (.int (n:Int))) (.len (.arg 0)))).holds [] {args:=[.list (ns.map .int)]}=true:=by
   have h4:=(holds_andW hc).1
   rw [hn] at h4
   exact h4
  have h5:=condW_of h4 (w_not (w_lt w_lit (w_len_list (w_arg rfl))))
  rw [LX] at h5
  refine Nat.le_of_not_lt fun q=>?_
  have q':(n:Int)<((ns.length:Nat):Int):=by omega
  first
   |(rw [decide_eq_true q'] at h5;exact absurd h5 (by decide))
   |(simp at h5;omega)
 cases hwl with
 | cons w1 w2 =>
   cases w2
   cases w1 with
   |list ho hall=>exact ⟨_,_,ns,rfl,rfl,ho,om ns _ hall,hlen⟩
theorem xg (l:OpenLaw)(args:List WData):l.row.toRowW.claim.post args (.bool true) args=true:=
 postW_of (r:=l.row.toRowW) (X:=(true==true))
  (show WShape.has [] (.bool true) .bool=true by first|rfl|decide|simp [WShape.has,WShape.arms,WShape.armsAll])
  (show (WTm.eq .res (.lit (.bool true))).value [] {args:=args,res:=some (.bool true),after:=args}=some (.bool (true==true)) from w_eq_bool (w_res rfl) w_lit) rfl
theorem attach_call {l:OpenLaw}{n:Nat}{q:Mc}{loose:List Str}{XP:(Str->Option LI)->Heap->Prop}{YP:Me->Heap->Prop}{d:DefRec}
 (hn:l.most=some n) (hdf:d.params.defaults=[])
 (call:∀(w:Me) (s₀ s₁:LM) (mg mb:Str->Option LI) (fa:Addr) (o:Obj) (pm cd doc:LI) (a:Addr) (vs:List LI) (ns:List Int),
  Ground q loose [] XP w s₀ mg mb s₁.heap->YP w s₁.heap->
  s₁.heap.get? fa=some o->o.data=.func (docDef d.name d.params d.body d.scope pm cd doc)->s₁.heap.CodeRec cd d.name->mg d.name=some (.ref fa)->
  s₁.heap.get? a=some {cls:=.type "list",data:=.seq vs.toArray}->IntsAre vs ns->ns.length<=n->s₁.gens=#[]->
  codeAny (model l.prog w) callerA (.call (.ref fa) ⟨[.ref a],[]⟩) (fun r s'=>r=.ok (.ret (.bool true))/\OldK s₁.heap s'.heap/\s'.os=s₁.os/\AllBare s'.gens) s₁) :
 WalkO q loose XP YP l.row.toRowW d [] (fun f vs=>PySem.call f vs):=by
 intro w s₀ s₁ mg mb G Y fa o pm cd doc dV kV ho hd hcd hD hmg hg args vals as hpre hlay hrd hwl hlo
 obtain rfl:dV=.none:=Dflts.none hD hdf
 obtain rfl:kV=.none:=Dflts.noKw hD
 obtain ⟨a,vs,ns,rfl,rfl,hobj,hints,hlen⟩:=wY hn hpre hwl
 refine enter_call (codeAny_mono (call w s₀ s₁ mg mb fa o pm cd doc a vs ns G Y ho (fd_plain hd) hcd hmg hobj hints hlen hg) fun r s' hq=>?_)
 obtain ⟨rfl,h2,h3,h4⟩:=hq
 exact ⟨.inl ⟨.bool true,.bool true,[],rfl,fun _=>rfl,.bool true,xg l _,fun _=>⟨List.Pairwise.nil,fun _ hm=>(nomatch hm)⟩⟩,h2,h3,h4⟩
end Att
namespace L2
open PySem PySem.Spec PyProof.Rows
theorem pN:∀{vs:List LI}{ns:List Int},IntsAre vs ns->Vals (ns.map V.int) vs
 |_,_,.nil=>.nil
 |_,_,.cons n t h=>.cons ⟨t,rfl⟩ (pN h)
noncomputable def vR (H:Hp):Prop:=∀b,H b=none\/∃o xs,H b=some (.frz o (.lst xs))
theorem Al {P:Mc}{w:Me}{K:LH}{mg mb:Str->Option LI}{CX:mT}{k:Nat}{fa a:Addr}{fd:NV}{x:Str}{sp:Sp}{s₁:LM}{vs:List LI}{ns:List Int}
 (KX:K.In s₁.heap) (hns:s₁.heap.Ns mainGlobals mg) (hb:s₁.heap.Ns builtinsNs mb) (hbb:∀x:Str,x≠"__name__"->mb x=bootBuiltins x) (hlim:s₁.heap.NoLimit) (hg:s₁.gens=#[])
 (ha:s₁.heap.get? a=some {cls:=.type "list",data:=.seq vs.toArray}) (hi:IntsAre vs ns) (hl:ns.length<=sizeLine) (hr:bx k callerA)
 (F:∀base:Heap,K.In base->base.Ns mainGlobals mg->fU P w K mg base CX k fa fd [x] sp) (hbind:∀(s:LM) (u:LI),BindsTo s fd ⟨[u],[]⟩ [(x,u)])
 (hsp:∀H:Hp,vR H->b9 K H a (ns.map V.int)->sp [.ref a] H (fun v _=>v=.bl true) fun _ _ _=>False)
 (hCX:∀H e s',CX [] H s₁ (fun _ _ _=>False) e s'->False) :
 codeAny (model P w) callerA (.call (.ref fa) ⟨[.ref a],[]⟩) (fun r s'=>r=.ok (.ret (.bool true))/\OldK s₁.heap s'.heap/\s'.os=s₁.os/\AllBare s'.gens) s₁:=by
 have rv:=pN hi
 have lenV:=hi.length
 have core:∀H:Hp,vR H->b9 K H a (ns.map V.int)->d5 P w H s₁.heap->(∀b,H b≠none->b=a)->(H a≠none->K.lookup a=none)->
  codeAny (model P w) callerA (.call (.ref fa) ⟨[.ref a],[]⟩) (fun r s'=>r=.ok (.ret (.bool true))/\OldK s₁.heap s'.heap/\s'.os=s₁.os/\AllBare s'.gens) s₁:=by
  intro H hO hS hok hA hK
  have fv:∀{b:Addr}{o:Obj},s₁.heap.get? b=some o->H b=none->(ky s₁.heap H).get? b=some o:=fun e n=>Ax e n
  have noA:∀{b:Addr}{o:Obj}{es:Array NM}{ep:Nat},s₁.heap.get? b=some o->o.data=.dict es ep->H b=none:=fun {b o es ep} e d=>by
   cases q:H b with
   |none=>rfl
   | some u =>
     have e':b=a:=hA b (by rw [q];simp)
     subst e'
     rw [ha] at e;cases e
     have d':Data.seq vs.toArray _=Data.dict es ep:=d
     cases d'
  have nsK:∀{b:Addr}{m:Str->Option LI},s₁.heap.Ns b m->(ky s₁.heap H).Ns b m:=fun {b m} ⟨o,es,ep,e,d,r⟩=>⟨o,es,ep,fv e (noA e d),d,r⟩
  have hKb:K.In (ky s₁.heap H):=fun b o e=>fv (KX b o e) (by
   cases q:H b with
   |none=>rfl
   | some u =>
     have e':b=a:=hA b (by rw [q];simp)
     subst e'
     rw [hK (by rw [q];simp)] at e;cases e)
  have hM:Mod K mg (ky s₁.heap H):=⟨hKb,nsK hns,⟨mb,nsK hb,hbb⟩,let ⟨mc,h1,h2⟩:=hlim;⟨mc,nsK h1,h2⟩⟩
  have e0:nI P w K mg (ky s₁.heap H) callerA [] s₁ H:=⟨rfl,hM,fun b o e=>DG e,Nat.le_of_eq (ya _ _),trivial,fun b hb=>absurd (show b∈([]:List Addr) from hb) (by simp),hok,.of_eq hg⟩
  refine codeAny_mono ((F _ hKb (nsK hns)).run callerA [] s₁ H ⟨[.ref a],[]⟩ [.ref a] [.ref a] _ _ hr e0 (hbind s₁ (.ref a)) (.cons rfl .nil) (hsp H hO hS)) fun r s' h=>?_
  cases r with
  |error e=>exact (hCX H e s' h).elim
  | ok fl =>
    cases fl with
    |next=>exact False.elim h
    |brk=>exact False.elim h
    |cont=>exact False.elim h
    | ret u =>
      obtain ⟨v,H',os,bare,un,hok',r',q⟩:=h
      have q':v=.bl true:=q
      subst q'
      obtain rfl:u=Value.bool true:=r'
      refine ⟨rfl,OldK.of_keep fun b o e=>?_,os,bare⟩
      cases q:H b with
      |none=>exact un.keep b o e q (by intro z;exact absurd (show b∈([]:List Addr) from z) (by simp)) (by simp)
      | some u =>
        rcases hO b with z|⟨ob,xs,z⟩
        ·rw [q] at z;cases z
        ·have z2:=un.frzs b ob _ z
         obtain ⟨e1,_⟩:=hok b _ z
         obtain ⟨e2,_⟩:=hok' b _ z2
         rw [e] at e1;cases e1
         exact e2
 cases hk:K.lookup a with
 | some o =>
   have e:=KX a o hk
   rw [ha] at e
   cases e
   refine core (fun _=>none) (fun _=>.inl rfl) (.inr ⟨_,vs.toArray,_,hk,rfl,rfl,rfl,by rw [LQ,lenV];exact hl,by simpa using rv⟩) (fun b u z=>by have z':(none:Option HO)=some u:=z;cases z') (fun b z=>absurd rfl z) fun z=>absurd rfl z
 | none =>
   refine core (fun b=>if b=a then some (.frz {cls:=.type "list",data:=.seq vs.toArray} (.lst (ns.map V.int))) else none) (fun b=>?_) (.inl (.inr ⟨{cls:=.type "list",data:=.seq vs.toArray},if_pos rfl⟩)) (fun b u z=>?_) (fun b z=>?_) fun _=>hk
   ·by_cases hb:b=a
    ·exact .inr ⟨_,_,if_pos hb⟩
    ·exact .inl (if_neg hb)
   ·by_cases hb:b=a
    ·have z':=(if_pos hb).symm.trans z
     cases z'
     subst hb
     exact ⟨ha,by rw [LX];exact hl,vs,_,rv,ha⟩
    ·have z':=(if_neg hb).symm.trans z
     cases z'
   ·by_cases hb:b=a
    ·exact hb
    ·exact absurd (if_neg hb) z
end L2
namespace L2
open PySem PySem.Spec PyProof.Rows
theorem Cp {l:PySem.W.OpenLaw}{n k:Nat}{q:Mc}{loose:List Str}{XP:(Str->Option LI)->Heap->Prop}{YP:Me->Heap->Prop}{d:DefRec}{K:Nb->LH}{CX:Me->mT}{sp:Me->Sp}{x:Str}
 (hn:l.most=some n) (hn2:n<=sizeLine) (hdf:d.params.defaults=[]) (hr:bx k callerA)
 (hY:∀(w:Me) (h:Heap),YP w h->(K w.params).In h)
 (F:∀(w:Me) (mg:Str->Option LI) (fa:Addr) (h:Heap),(K w.params).In h->h.Ns mainGlobals mg->mg d.name=some (.ref fa)->
  ∃fd:NV,(∀(s:LM) (u:LI),BindsTo s fd ⟨[u],[]⟩ [(x,u)])/\
   ∀base:Heap,(K w.params).In base->base.Ns mainGlobals mg->fU l.prog w (K w.params) mg base (CX w) k fa fd [x] (sp w))
 (hsp:∀(w:Me) (H:Hp) (a:Addr) (ns:List Int),ns.length<=n->vR H->b9 (K w.params) H a (ns.map V.int)->sp w [.ref a] H (fun v _=>v=.bl true) fun _ _ _=>False)
 (hCX:∀(w:Me) (H:Hp) (s:LM) (e:LI) (s':LM),CX w [] H s (fun _ _ _=>False) e s'->False) :
 PySem.W.WalkO q loose XP YP l.row.toRowW d [] (fun f vs=>PySem.call f vs):=by
 refine Att.attach_call hn hdf fun w s₀ s₁ mg mb fa o pm cd doc a vs ns G Y ho hd hcd hmg hobj hints hlen hg=>?_
 have KX:=hY w _ Y
 obtain ⟨fd,hb,hF⟩:=F w mg fa _ KX G.T.g hmg
 exact Al KX G.T.g G.T.b G.T.builtins G.T.nolimit hg hobj hints (LR hlen hn2) hr hF hb (fun H hO hS=>hsp w H a ns hlen hO hS) fun H e s'=>hCX w H s₁ e s'
end L2
namespace L2
open PySem PySem.Spec PyProof.Rows
noncomputable def inClass (s:Stmt)(j:Nat):Stmt:=match s with
 |.ClassDef _ _ _ body _ _ _ _ _ _ _=>body.getD j (.Pass ⟨0,0,0,0⟩)
 |_=>.Pass ⟨0,0,0,0⟩
noncomputable def ft (s:Stmt):Arguments:=match s with
 |.FunctionDef _ a _ _ _ _ _ _ _ _=>a
 |_=>{posonlyargs:=[],args:=[],vararg:=none,kwonlyargs:=[],kw_defaults:=[],kwarg:=none,defaults:=[]}
noncomputable def cz (s:Stmt):List Stmt:=match s with
 |.FunctionDef _ _ b _ _ _ _ _ _ _=>b
 |_=>[]
noncomputable def aM (s:Stmt):Scope:=match s with
 |.FunctionDef _ _ _ _ _ _ sc _ _ _=>sc
 |_=>{kind:=.function,names:=[],isGenerator:=false,isCoroutine:=false}
abbrev E0:XK:=fun _ _ _=>False
structure oK (K:LH) (x qual:Str) (st:Stmt) (f:Addr) (fd:NV):Prop where
 ex:∃(oc:LI) (od:Option Addr) (kV doc pm:LI) (an:Option Addr) (cdv ct:LI) (osl:Array (Option LI)),
  fd=PySem.W.fnOf x qual (ft st) (cz st) (aM st) .none kV doc pm an cdv ct/\K.lookup f=some ⟨oc,od,.func fd,osl⟩/\PySem.W.codeIn K cdv qual=true
 kp:PySem.W.keepIn K (.ref f)=true
section
variable {P:Mc}{w:Me}{K:LH}{mg:Str->Option LI}{base:Heap}
theorem oK.binds {x qual:Str}{st:Stmt}{f:Addr}{fd:NV}{ps:List Str}(F:oK K x qual st f fd)
 (h:∀(kV doc pm:LI) (an:Option Addr) (cdv ct:LI) (us:List LI),us.length=ps.length->bindArgs (PySem.W.fnOf x qual (ft st) (cz st) (aM st) .none kV doc pm an cdv ct) ⟨us,[]⟩=pure (ps.zip us)):Binds K fd ps []:=by
 obtain ⟨oc,od,kV,doc,pm,an,cdv,ct,osl,rfl,lk,hcd⟩:=F.ex
 exact .all (h kV doc pm an cdv ct)
theorem yd {x qual:Str}{st:Stmt}{f:Addr}{oc:LI}{od an:Option Addr}{osl:Array (Option LI)}{kV doc pm cdv ct:LI}(l:K.lookup f=some ⟨oc,od,.func (PySem.W.fnOf x qual (ft st) (cz st) (aM st) .none kV doc pm an cdv ct),osl⟩)
 (c:PySem.W.codeIn K cdv qual=true) (k:PySem.W.keepIn K (.ref f)=true):oK K x qual st f (PySem.W.fnOf x qual (ft st) (cz st) (aM st) .none kV doc pm an cdv ct):=⟨⟨oc,od,kV,doc,pm,an,cdv,ct,osl,rfl,l,c⟩,k⟩
end
end L2
namespace LD
open PySem
inductive D where
 |non|bl (b:Bool)|int (i:Int)|str (x:Str)|tup (ds:List D)|lst (ds:List D)|frz (ds:List D)|cell (k:Nat)|fn (f:Nat)|exc (c:Nat) (p:Option Int)
 deriving Inhabited
abbrev Mem:=List (List D)
abbrev Env:=List (Option D)
inductive Res (α:Type) where
 |ok (a:α) (M:Mem)
 |err (x:D) (M:Mem)
 |bad
noncomputable def Res.bind {α β:Type}(r:Res α)(f:α->Mem->Res β):Res β:=match r with
 |.ok a M=>f a M
 |.err x M=>.err x M
 |.bad=>.bad
@[simp] theorem Res.bind_ok {α β:Type}(a:α)(M:Mem)(f:α->Mem->Res β):(Res.ok a M).bind f=f a M:=rfl
@[simp] theorem Res.bind_err {α β:Type}(x:D)(M:Mem)(f:α->Mem->Res β):(Res.err x M:Res α).bind f=.err x M:=rfl
@[simp] theorem Res.bind_bad {α β:Type}(f:α->Mem->Res β):(Res.bad:Res α).bind f=.bad:=rfl
inductive kO where
 |add|sub|mul|fdiv|mod|pow
 deriving DecidableEq
inductive iC where
 |eq|ne|lt|le|gt|ge|isN|notN|isin|notin
 deriving DecidableEq
inductive Ty where
 |int|bool|str|tuple|list|own (c:Str)
 deriving DecidableEq
inductive tm where
 |len|tuple|list (m:Bool)|listR (m:Bool)|all|sum|repr
 deriving DecidableEq
inductive cy where
 |one (i:Nat)
 |tup (l:List Nat)
noncomputable def sz:Nat:=16777216
noncomputable def ba (m:Bool)(ds:List D)(M:Mem):Res D:=if ds.length<=sz then (if m then .ok (.cell M.length) (M++[ds]) else .ok (.lst ds) M) else .bad
noncomputable def ko (ds:List D)(M:Mem):Res D:=if ds.length<=sz then .ok (.tup ds) M else .bad
noncomputable def bH (M:Mem):D->Option (List D)
 |.lst ds=>some ds
 |.tup ds=>some ds
 |.frz ds=>some ds
 |.cell k=>M[k]?
 |_=>none
noncomputable def eG (M:Mem):D->Option (List D)
 |.lst ds=>some ds
 |.frz ds=>some ds
 |.cell k=>M[k]?
 |_=>none
noncomputable def jc (M:Mem):D->Option (List D)
 |.lst ds=>some ds
 |.cell k=>M[k]?
 |_=>none
noncomputable def aC:Nat->D->Bool
 |_,.non=>true
 |_,.bl _=>true
 |_,.int _=>true
 |_,.str x=>x.cps.all (· < 0x110000)
 |n+1,.tup ds=>ds.all (aC n)
 |n+1,.lst ds=>ds.all (aC n)
 |0,.tup _=>false
 |0,.lst _=>false
 |_,.frz _=>false
 |_,.cell _=>false
 |_,.fn _=>false
 |_,.exc _ _=>false
mutual
noncomputable def gG:D->D->Bool
 |.non,.non=>true
 |.bl a,.bl b=>a==b
 |.bl a,.int b=>(if a then 1 else 0)==b
 |.int a,.bl b=>a==(if b then 1 else 0)
 |.int a,.int b=>a==b
 |.str a,.str b=>a==b
 |.tup a,.tup b=>jH a b
 |.lst a,.lst b=>jH a b
 |_,_=>false
noncomputable def jH:List D->List D->Bool
 |[],[]=>true
 |a::r,b::t=>gG a b&&jH r t
 |[],_::_=>false
 |_::_,[]=>false
end
noncomputable def gK:D->Bool
 |.str _=>true
 |_=>false
noncomputable def oq (a b:D):Option Bool:=if gK a&&gK b||aC 64 a&&aC 64 b then some (gG a b) else none
noncomputable def view (M:Mem):D->D
 | .cell k => match M[k]? with
   |some ds=>.lst ds
   |none=>.cell k
 |.frz ds=>.lst ds
 |d=>d
noncomputable def cW:Nat->Mem->D->D
 |0,_,d=>d
 | n + 1, M, .cell k => match M[k]? with
   |some ds=>.lst (ds.map (cW n M))
   |none=>.cell k
 |n+1,M,.frz ds=>.lst (ds.map (cW n M))
 |n+1,M,.lst ds=>.lst (ds.map (cW n M))
 |n+1,M,.tup ds=>.tup (ds.map (cW n M))
 |_+1,_,d=>d
noncomputable def kL (M:Mem)(a b:D):Option Bool:=match oq (view M a) (view M b) with
 |some r=>some r
 |none=>oq (cW 64 M a) (cW 64 M b)
noncomputable def jF (M:Mem):D->Option Bool
 |.non=>some false
 |.bl b=>some b
 |.int i=>some (i != 0)
 |.str x=>if x.cps.size<=sz then some (x.cps.size != 0) else none
 |.tup ds=>some (!ds.isEmpty)
 |.lst ds=>some (!ds.isEmpty)
 |.frz ds=>some (!ds.isEmpty)
 |.cell k=>(M[k]?).map fun ds=>!ds.isEmpty
 |.fn _=>none
 |.exc _ _=>none
noncomputable def bL (n:Nat)(i:Int):Option Nat:=if 0<=i then (if i<n then some i.toNat else none) else if -(n:Int)<=i then some (i+n).toNat else none
noncomputable def fR (m:Bool)(o:kO)(a b:D)(M:Mem):Res D:=match o,a,b with
 |.add,.int i,.int j=>.ok (.int (i+j)) M
 |.add,.str x,.str y=>if x.cps.size+y.cps.size<=sz then .ok (.str ⟨x.cps++y.cps⟩) M else .bad
 |.add,.tup x,.tup y=>ko (x++y) M
 | .add, a, b => match jc M a, jc M b with
   |some x,some y=>ba m (x++y) M
   |_,_=>.bad
 |.sub,.int i,.int j=>.ok (.int (i-j)) M
 |.mul,.int i,.int j=>if (-(2^64)<i/\i<2^64)\/(-(2^64)<j/\j<2^64) then .ok (.int (i*j)) M else .bad
 |.mul,.tup x,.int j=>if x.length*j.toNat<=sz/\-(2^63)<=j/\j<2^63 then .ok (.tup (List.replicate j.toNat x).flatten) M else .bad
 | .mul, a, .int j => match jc M a with
   |some x=>if x.length*j.toNat<=sz/\-(2^63)<=j/\j<2^63 then ba m (List.replicate j.toNat x).flatten M else .bad
   |none=>.bad
 |.fdiv,.int i,.int j=>if 0<j/\j<1073741824 then .ok (.int (i / j)) M else .bad
 |.mod,.int i,.int j=>if 0<j then .ok (.int (i % j)) M else .bad
 |.pow,.int i,.int j=>if 0<=j/\j<=1000000/\i.natAbs<2^64 then .ok (.int (i^j.toNat)) M else .bad
 |_,_,_=>.bad
noncomputable def mM (x:D)(ds:List D):Option Bool:=if aC 64 x&&ds.all (aC 63) then some (ds.any fun y=>gG y x) else none
noncomputable def nN (x y:Str):Bool:=!(Builtin.Str.occurrences y x 0 y.length 1).isEmpty
noncomputable def jv:D->Bool
 |.non=>true
 |_=>false
noncomputable def bu (o:iC)(a b:D)(M:Mem):Option Bool:=match o,a,b with
 |.eq,a,b=>kL M a b
 |.ne,a,b=>(kL M a b).map (!·)
 |.lt,.int i,.int j=>some (decide (i<j))
 |.le,.int i,.int j=>some (decide (i<=j))
 |.gt,.int i,.int j=>some (decide (j<i))
 |.ge,.int i,.int j=>some (decide (j<=i))
 |.isN,a,.non=>some (jv a)
 |.notN,a,.non=>some (!jv a)
 |.isin,.str x,.str y=>some (nN x y)
 |.notin,.str x,.str y=>some (!nN x y)
 |.isin,a,b=>(bH M b).bind (mM (view M a))
 |.notin,a,b=>((bH M b).bind (mM (view M a))).map (!·)
 |_,_,_=>none
noncomputable def bO (a i:D)(M:Mem):Option D:=match a,i with
 |.str x,.int i=>if x.cps.size<=sz then (bL x.cps.size i).bind fun j=>(x.cps[j]?).map fun c=>.str ⟨#[c]⟩ else none
 |a,.int i=>(bH M a).bind fun ds=>(bL ds.length i).bind fun j=>ds[j]?
 |_,_=>none
noncomputable def aI (n d:Nat):D->Option Nat
 |.non=>some d
 |.int v=>some (if v<0 then (v+(n:Int)).toNat else min v.toNat n)
 |_=>none
noncomputable def du:Bool->D->Bool
 |true,.int _=>true
 |false,.non=>true
 |_,_=>false
noncomputable def cut {α:Type}(xs:List α)(lo hi:Nat):List α:=(xs.drop lo).take (hi-lo)
noncomputable def fQ (m:Bool)(a lo hi:D)(M:Mem):Res D:=match a with
 | .tup xs => match aI xs.length 0 lo, aI xs.length xs.length hi with
   |some l,some h=>.ok (.tup (cut xs l h)) M
   |_,_=>.bad
 | a => match eG M a with
   | some xs => match aI xs.length 0 lo, aI xs.length xs.length hi with
     |some l,some h=>ba m (cut xs l h) M
     |_,_=>.bad
   |none=>.bad
noncomputable def dN (t:Ty):D->Option Bool
 |.non=>some false
 |.bl _=>some (t==.bool||t==.int)
 |.int _=>some (t==.int)
 |.str _=>some (t==.str)
 |.tup _=>some (t==.tuple)
 |.lst _=>some (t==.list)
 |.frz _=>some (t==.list)
 |.cell _=>some (t==.list)
 |.fn _=>none
 |.exc _ _=>none
noncomputable def boolsOf:List D->Option (List Bool)
 |[]=>some []
 |.bl b::r=>(boolsOf r).map (b::·)
 |_=>none
noncomputable def intsOf:List D->Option (List Int)
 |[]=>some []
 |.int b::r=>(intsOf r).map (b::·)
 |_=>none
noncomputable def dj (f:tm)(ds:List D)(M:Mem):Res D:=match f,ds with
 |.len,[.str x]=>if x.cps.size<=sz then .ok (.int x.cps.size) M else .bad
 | .len, [d] => match bH M d with
   |some xs=>.ok (.int xs.length) M
   |none=>.bad
 |.tuple,[.tup xs]=>.ok (.tup xs) M
 | .tuple, [d] => match eG M d with
   |some xs=>.ok (.tup xs) M
   |none=>.bad
 | .list m, [d] => match bH M d with
   |some xs=>ba m xs M
   |none=>.bad
 |.listR m,[.int n]=>if n<2^20 then ba m ((List.range n.toNat).map fun (k:Nat)=>D.int (k:Int)) M else .bad
 | .all, [d] => match eG M d with
   | some xs => match boolsOf xs with
     |some bs=>.ok (.bl (bs.all id)) M
     |none=>.bad
   |none=>.bad
 | .sum, [d] => match eG M d with
   | some xs => match intsOf xs with
     |some is=>.ok (.int is.sum) M
     |none=>.bad
   |none=>.bad
 |_,_=>.bad
noncomputable def eV:List Nat->List D->Env->Option Env
 |[],[],Z=>some Z
 |i::l,d::ds,Z=>eV l ds (Z.set i (some d))
 |_,_,_=>none
noncomputable def bW (t:cy)(d:D)(Z:Env):Option Env:=match t,d with
 |.one i,d=>some (Z.set i (some d))
 |.tup l,.tup ds=>eV l ds Z
 |.tup _,_=>none
abbrev Walk:=Mem->Option (List D)
noncomputable def dO:Nat->List D->List D
 |_,[]=>[]
 |k,d::r=>.tup [.int k,d]::dO (k+1) r
noncomputable def ip:List D->List D->List D
 |a::r,b::t=>.tup [a,b]::ip r t
 |_,_=>[]
noncomputable def fh:List D->List D->List D->List D
 |a::r,b::t,c::q=>.tup [a,b,c]::fh r t q
 |_,_,_=>[]
noncomputable def BY {α:Type}(f:α->D->Mem->Res α):List D->α->Mem->Res α
 |[],a,M=>.ok a M
 |d::r,a,M=>(f a d M).bind (BY f r)
noncomputable def eA {α:Type}(f:α->D->Mem->Res α)(w:Walk):Nat->Nat->α->Mem->Res α
 |0,_,_,_=>.bad
 | n + 1, i, a, M => match w M with
   |none=>.bad
   | some ds => match ds[i]? with
     |none=>.ok a M
     |some d=>(f a d M).bind (eA f w n (i+1))
noncomputable def dg {α:Type}(f:α->D->Mem->Res α)(w:Walk)(a:α)(M:Mem):Res α:=eA f w (((w M).getD []).length+1) 0 a M
noncomputable def bV {α:Type}(M:Mem):Option α->Res α
 |some a=>.ok a M
 |none=>.bad
@[simp] theorem zY {α:Type}(M:Mem)(a:α):bV M (some a)=.ok a M:=rfl
@[simp] theorem Ko {α:Type}(M:Mem):(bV M none:Res α)=.bad:=rfl
inductive Fl where
 |next (Z:Env)
 |ret (d:D)
 |exc (x:D) (Z:Env)
end LD
namespace LD
open PySem PySem.Spec PyProof.Rows L2
structure Mu where
 pub:Nat->Option Addr
 priv:List Addr
 ob:Nat->Option Addr
noncomputable def Mu.Mt (μ:Mu)(a:Addr):Prop:=(∃k,μ.pub k=some a)\/a∈μ.priv
abbrev Fa:=Nat->Option Addr
noncomputable def KL (K:LH)(a:Addr)(xs:List V):Prop:=
 ∃(o:Obj) (its:Array LI) (n:Nat),K.lookup a=some o/\o.cls=.type "list"/\o.dict=none/\o.data=.seq its n/\its.size<=sizeLine/\Vals xs its.toList
noncomputable def XAt (C:Addr)(dx:Option Addr)(a:Addr)(h:Heap):Prop:=∃o vs,h.get? a=some o/\o.cls=.ref C/\o.dict=dx/\o.data=.fields vs/\1<vs.size
noncomputable def gk (c:Nat):Str:=if c=1 then "number" else "place"
noncomputable def vO (H:Hp)(c:Nat)(dx:Option Addr):Option Int->Prop
 |none=>dx=none
 |some i=>∃d,dx=some d/\H d=some (.xd [(gk c,.int i)])
noncomputable def eP (c:Nat):Nat:=1000+c
noncomputable def i9 (c:Nat):Nat:=900+c
section
variable (fa:Fa)(K:LH)(μ:Mu)(H:Hp)
mutual
noncomputable def Rep:D->V->Prop
 |.non,v=>v=.non
 |.bl b,v=>v=.bl b
 |.int i,v=>v=.int i
 |.str x,v=>v=.str x
 |.tup ds,v=>∃a vs,v=.ref a/\c9 K H a vs/\aG ds vs
 |.lst ds,v=>∃a vs,v=.ref a/\(H a=some (.lst vs)/\¬ μ.Mt a)/\aG ds vs
 |.frz ds,v=>∃a vs,v=.ref a/\((∃ob,H a=some (.frz ob (.lst vs)))\/KL K a vs)/\aG ds vs
 |.cell k,v=>∃a,v=.ref a/\μ.pub k=some a
 |.fn f,v=>∃a,v=.ref a/\(fa f=some a\/(fa f=none/\μ.ob f=some a))
 |.exc c p,v=>∃a C dx,v=.ref a/\fa (eP c)=some C/\H a=some (.ext (XAt C dx a))/\vO H c dx p
noncomputable def aG:List D->List V->Prop
 |[],vs=>vs=[]
 |d::ds,vs=>∃v r,vs=v::r/\Rep d v/\aG ds r
end
end
noncomputable def IsX (o:HO):Prop:=(∃φ,o=.ext φ)\/∃fs,o=.xd fs
structure ExtW (μ:Mu) (H:Hp) (μ':Mu) (H':Hp):Prop where
 mu:∀k a,μ.pub k=some a->μ'.pub k=some a
 tups:∀a vs,Rd H a (.tup vs)->Rd H' a (.tup vs)
 lsts:∀a vs,H a=some (.lst vs)->¬ μ.Mt a->H' a=some (.lst vs)/\¬ μ'.Mt a
 frzs:∀a ob u,H a=some (.frz ob u)->H' a=some (.frz ob u)
 exts:∀a o,IsX o->H a=some o->H' a=some o
 obs:∀k a,μ.ob k=some a->μ'.ob k=some a
structure Ext (μ:Mu) (H:Hp) (μ':Mu) (H':Hp):Prop extends ExtW μ H μ' H' where
 pr:μ'.priv=μ.priv
 pk:∀a∈μ.priv,H' a=H a
theorem ExtW.refl {μ:Mu}{H:Hp}:ExtW μ H μ H:=⟨fun _ _ h=>h,fun _ _ h=>h,fun _ _ h n=>⟨h,n⟩,fun _ _ _ h=>h,fun _ _ _ h=>h,fun _ _ h=>h⟩
theorem ExtW.trans {μ μ1 μ2:Mu}{H H1 H2:Hp}(a:ExtW μ H μ1 H1)(b:ExtW μ1 H1 μ2 H2):ExtW μ H μ2 H2:=
 ⟨fun k x h=>b.mu k x (a.mu k x h),fun x vs h=>b.tups x vs (a.tups x vs h),fun x vs h n=>b.lsts x vs (a.lsts x vs h n).1 (a.lsts x vs h n).2,fun x ob u h=>b.frzs x ob u (a.frzs x ob u h),fun x o i h=>b.exts x o i (a.exts x o i h),fun k x h=>b.obs k x (a.obs k x h)⟩
theorem Ext.refl {μ:Mu}{H:Hp}:Ext μ H μ H:=⟨.refl,rfl,fun _ _=>rfl⟩
theorem Ext.trans {μ μ1 μ2:Mu}{H H1 H2:Hp}(a:Ext μ H μ1 H1)(b:Ext μ1 H1 μ2 H2):Ext μ H μ2 H2:=
 ⟨a.toExtW.trans b.toExtW,b.pr.trans a.pr,fun x hx=>(b.pk x (by rw [a.pr];exact hx)).trans (a.pk x hx)⟩
section
variable {fa:Fa}{K:LH}{μ μ':Mu}{H H':Hp}
theorem ExtW.sqT {a:Addr}{vs:List V}(x:ExtW μ H μ' H')(h:c9 K H a vs):c9 K H' a vs:=h.elim (fun z=>.inl (x.tups a vs z)) .inr
mutual
theorem Rep.extW (x:ExtW μ H μ' H'):∀{d:D}{v:V},Rep fa K μ H d v->Rep fa K μ' H' d v
 |.non,v,h=>h
 |.bl b,v,h=>h
 |.int i,v,h=>h
 |.str y,v,h=>h
 | .tup ds, v, h => by
   obtain ⟨a,vs,e,s,r⟩:=h
   exact ⟨a,vs,e,x.sqT s,aG.extW x r⟩
 | .lst ds, v, h => by
   obtain ⟨a,vs,e,s,r⟩:=h
   exact ⟨a,vs,e,x.lsts a vs s.1 s.2,aG.extW x r⟩
 | .frz ds, v, h => by
   obtain ⟨a,vs,e,s,r⟩:=h
   exact ⟨a,vs,e,s.elim (fun ⟨ob,z⟩=>.inl ⟨ob,x.frzs a ob _ z⟩) .inr,aG.extW x r⟩
 | .cell k, v, h => by
   obtain ⟨a,e,m⟩:=h
   exact ⟨a,e,x.mu k a m⟩
 | .fn f, v, h => by
   obtain ⟨a,e,m⟩:=h
   exact ⟨a,e,m.imp id fun z=>⟨z.1,x.obs _ _ z.2⟩⟩
 | .exc c p, v, h => by
   obtain ⟨a,C,dx,e,f,g,n⟩:=h
   refine ⟨a,C,dx,e,f,x.exts _ _ (.inl ⟨_,rfl⟩) g,?_⟩
   cases p with
   |none=>exact n
   |some i=>exact let ⟨d,h1,h2⟩:=n;⟨d,h1,x.exts _ _ (.inr ⟨_,rfl⟩) h2⟩
theorem aG.extW (x:ExtW μ H μ' H'):∀{ds:List D}{vs:List V},aG fa K μ H ds vs->aG fa K μ' H' ds vs
 |[],vs,h=>h
 | d :: ds, vs, h => by
   obtain ⟨v,r,e,p,q⟩:=h
   exact ⟨v,r,e,Rep.extW x p,aG.extW x q⟩
end
theorem Rep.ext (x:Ext μ H μ' H'){d:D}{v:V}(h:Rep fa K μ H d v):Rep fa K μ' H' d v:=Rep.extW x.toExtW h
theorem aG.ext (x:Ext μ H μ' H'){d:List D}{v:List V}(h:aG fa K μ H d v):aG fa K μ' H' d v:=aG.extW x.toExtW h
theorem aG.length:∀{ds:List D}{vs:List V},aG fa K μ H ds vs->vs.length=ds.length
 | [], vs, h => by
   have h:vs=[]:=h
   subst h;rfl
 | d :: ds, vs, h => by
   obtain ⟨v,r,e,p,q⟩:=h
   subst e
   simp [aG.length q]
theorem aG.get:∀{ds:List D}{vs:List V}{i:Nat}{d:D},aG fa K μ H ds vs->ds[i]?=some d->∃v,vs[i]?=some v/\Rep fa K μ H d v
 |[],_,_,_,_,e=>by simp at e
 | d :: ds, vs, 0, d', h, e => by
   obtain ⟨v,r,rfl,p,q⟩:=h
   simp at e;subst e
   exact ⟨v,rfl,p⟩
 | d :: ds, vs, i + 1, d', h, e => by
   obtain ⟨v,r,rfl,p,q⟩:=h
   obtain ⟨u,h1,h2⟩:=aG.get (i:=i) q (by simpa using e)
   exact ⟨u,by simpa using h1,h2⟩
theorem aG.append:∀{ds es:List D}{vs ws:List V},aG fa K μ H ds vs->aG fa K μ H es ws->aG fa K μ H (ds++es) (vs++ws)
 | [], _, vs, _, h, g => by
   have h:vs=[]:=h
   subst h;exact g
 | d :: ds, es, vs, ws, h, g => by
   obtain ⟨v,r,rfl,p,q⟩:=h
   exact ⟨v,r++ws,rfl,p,aG.append q g⟩
theorem aG.one {d:D}{v:V}(h:Rep fa K μ H d v):aG fa K μ H [d] [v]:=⟨v,[],rfl,h,rfl⟩
theorem aG.drop:∀(n:Nat) {ds:List D}{vs:List V},aG fa K μ H ds vs->aG fa K μ H (ds.drop n) (vs.drop n)
 |0,_,_,h=>h
 | n + 1, [], vs, h => by
   have h:vs=[]:=h
   subst h;exact rfl
 | n + 1, d :: ds, vs, h => by
   obtain ⟨v,r,rfl,p,q⟩:=h
   exact aG.drop n q
theorem aG.take:∀(n:Nat) {ds:List D}{vs:List V},aG fa K μ H ds vs->aG fa K μ H (ds.take n) (vs.take n)
 |0,_,_,h=>rfl
 | n + 1, [], vs, h => by
   have h:vs=[]:=h
   subst h;exact rfl
 | n + 1, d :: ds, vs, h => by
   obtain ⟨v,r,rfl,p,q⟩:=h
   exact ⟨v,r.take n,rfl,p,aG.take n q⟩
theorem aG.set:∀(n:Nat) {ds:List D}{vs:List V}{d:D}{v:V},aG fa K μ H ds vs->Rep fa K μ H d v->aG fa K μ H (ds.set n d) (vs.set n v)
 | _, [], vs, _, _, h, _ => by
   have h:vs=[]:=h
   subst h;exact rfl
 | 0, d :: ds, vs, _, v', h, g => by
   obtain ⟨v,r,rfl,p,q⟩:=h
   exact ⟨v',r,rfl,g,q⟩
 | n + 1, d :: ds, vs, _, v', h, g => by
   obtain ⟨v,r,rfl,p,q⟩:=h
   exact ⟨v,r.set n v',rfl,p,aG.set n q g⟩
theorem aG.reverse:∀{ds:List D}{vs:List V},aG fa K μ H ds vs->aG fa K μ H ds.reverse vs.reverse
 | [], vs, h => by
   have h:vs=[]:=h
   subst h;exact rfl
 | d :: ds, vs, h => by
   obtain ⟨v,r,rfl,p,q⟩:=h
   rw [NF,NF]
   exact aG.append (aG.reverse q) (.one p)
theorem aG.rep:∀(n:Nat) {ds:List D}{vs:List V},aG fa K μ H ds vs->aG fa K μ H (List.replicate n ds).flatten (List.replicate n vs).flatten
 |0,_,_,_=>rfl
 | n + 1, ds, vs, h => by
   rw [Nm,Nm,NG,NG]
   exact h.append (aG.rep n h)
theorem aG.ints:∀(ns:List Int),aG fa K μ H (ns.map D.int) (ns.map V.int)
 |[]=>rfl
 |n::ns=>⟨.int n,ns.map V.int,rfl,rfl,aG.ints ns⟩
end
noncomputable def cw:Nat->List Str
 |40=>["machine","standing","earlier"]
 |_=>[]
noncomputable def aU (k:Nat):Nat:=5000+k
noncomputable def Ju (fa:Fa)(K:LH)(μ:Mu)(H:Hp)(k:Nat)(ds:List D):Prop:=
 (∃a vs,μ.pub k=some a/\H a=some (.lst vs)/\aG fa K μ H ds vs)\/
 ∃a c C dx fs es,μ.ob (aU k)=some a/\μ.pub k=none/\fa (i9 c)=some C/\H a=some (.ins C dx fs)/\fs.map (·.1)=(cw c).take fs.length/\ds=.int c::es/\aG fa K μ H es (fs.map (·.2))
structure RelM (fa:Fa) (K:LH) (μ:Mu) (H:Hp) (M:Mem):Prop where
 at':∀(k:Nat) (ds:List D),M[k]?=some ds->Ju fa K μ H k ds
 out:∀(k:Nat),M.length<=k->μ.pub k=none
 oout:∀(k:Nat),M.length<=k->μ.ob (aU k)=none
 inj:∀j k a,μ.pub j=some a->μ.pub k=some a->j=k
 oinj:∀j k a,μ.ob (aU j)=some a->μ.ob (aU k)=some a->j=k
 sep:∀k a,μ.pub k=some a->μ.ob (aU k)=none
 pv:∀a∈μ.priv,(∃vs,H a=some (.lst vs))/\∀k,μ.pub k≠some a
structure a8 (fa:Fa) (K:LH) (μ:Mu) (H:Hp) (σ:L2.St) (Z:Env):Prop where
 len:σ.length=Z.length
 at':∀(i:Nat) (d:D),Z[i]?=some (some d)->∃v,σ[i]?=some (some v)/\Rep fa K μ H d v
section
variable {fa:Fa}{K:LH}{μ μ':Mu}{H H':Hp}{σ:L2.St}{Z:Env}{M:Mem}
theorem a8.ext (h:a8 fa K μ H σ Z)(x:Ext μ H μ' H'):a8 fa K μ' H' σ Z:=
 ⟨h.len,fun i d e=>let ⟨v,h1,h2⟩:=h.at' i d e;⟨v,h1,h2.ext x⟩⟩
theorem a8.set (h:a8 fa K μ H σ Z){i:Nat}{d:D}{v:V}(r:Rep fa K μ H d v):a8 fa K μ H (σ.set i (some v)) (Z.set i (some d)):=by
 refine ⟨by simp [h.len],fun j d' e=>?_⟩
 by_cases hj:j=i
 ·subst hj
  have hl:j<Z.length:=by
   have:=(LJ.mp e).1
   simpa using this
  rw [Md hl] at e
  cases e
  exact ⟨v,Md (by rw [h.len];exact hl),r⟩
 ·rw [LS (MR hj)] at e
  obtain ⟨u,h1,h2⟩:=h.at' j d' e
  exact ⟨u,by rw [LS (MR hj)];exact h1,h2⟩
theorem a8.extW (h:a8 fa K μ H σ Z)(x:ExtW μ H μ' H'):a8 fa K μ' H' σ Z:=
 ⟨h.len,fun i d e=>let ⟨v,h1,h2⟩:=h.at' i d e;⟨v,h1,h2.extW x⟩⟩
theorem RelM.mu_lt (h:RelM fa K μ H M){k:Nat}{a:Addr}(e:μ.pub k=some a):∃ds vs,M[k]?=some ds/\H a=some (.lst vs)/\aG fa K μ H ds vs:=by
 by_cases hk:k<M.length
 ·rcases h.at' k M[k] (by simp [hk]) with ⟨a',vs,h1,h2,h3⟩|⟨_,_,_,_,_,_,_,z,_⟩
  ·rw [e] at h1;cases h1
   exact ⟨_,vs,by simp [hk],h2,h3⟩
  ·rw [e] at z;cases z
 ·rw [h.out k (by omega)] at e;cases e
theorem RelM.at_ (h:RelM fa K μ H M){k:Nat}{ds:List D}{a:Addr}(e:M[k]?=some ds)(p:μ.pub k=some a):∃vs,H a=some (.lst vs)/\aG fa K μ H ds vs:=by
 obtain ⟨ds',vs,h1,h2,h3⟩:=h.mu_lt p
 rw [e] at h1;cases h1
 exact ⟨vs,h2,h3⟩
theorem RelM.fresh (h:RelM fa K μ H M){p:Addr}(hp:H p=none):¬ μ.Mt p:=fun e=>by
 rcases e with ⟨k,e⟩|e
 ·obtain ⟨ds,vs,_,h2,_⟩:=h.mu_lt e
  rw [hp] at h2;cases h2
 ·obtain ⟨⟨vs,h2⟩,_⟩:=h.pv p e
  rw [hp] at h2;cases h2
theorem RelM.pne (h:RelM fa K μ H M){p a:Addr}(hp:H p=none)(ha:a∈μ.priv):a≠p:=fun e=>by
 obtain ⟨⟨vs,h2⟩,_⟩:=h.pv a ha
 rw [e,hp] at h2;cases h2
theorem Ext.alloc {p:Addr}{o:HO}(h:RelM fa K μ H M)(hp:H p=none):Ext μ H μ (upd H p o):=by
 have rd:∀a u,Rd H a u->Rd (upd H p o) a u:=fun a u h=>by
  rcases h with h|⟨ob,h⟩
  ·exact .inl (by rw [ax (aN h hp)];exact h)
  ·exact .inr ⟨ob,by rw [ax (aN h hp)];exact h⟩
 exact ⟨⟨fun _ _ h=>h,fun a vs h=>rd a _ h,fun a vs h n=>⟨by rw [ax (aN h hp)];exact h,n⟩,fun a ob u h=>by rw [ax (aN h hp)];exact h,fun a o _ h=>by rw [ax (aN h hp)];exact h,fun _ _ h=>h⟩,rfl,fun a ha=>by rw [ax (h.pne hp ha)]⟩
theorem RelM.alloc (h:RelM fa K μ H M){p:Addr}{o:HO}(hp:H p=none):RelM fa K μ (upd H p o) M:=
 ⟨fun k ds e=>(h.at' k ds e).imp (fun ⟨a,vs,h1,h2,h3⟩=>⟨a,vs,h1,by rw [ax (aN h2 hp)];exact h2,h3.ext (Ext.alloc h hp)⟩) fun ⟨a,c,C,dx,fs,es,h1,h2,h3,h4,h5,h6,h7⟩=>⟨a,c,C,dx,fs,es,h1,h2,h3,by rw [ax (aN h4 hp)];exact h4,h5,h6,h7.ext (Ext.alloc h hp)⟩,h.out,h.oout,h.inj,h.oinj,h.sep,fun a ha=>⟨let ⟨⟨vs,e⟩,_⟩:=h.pv a ha;⟨vs,by rw [ax (h.pne hp ha)];exact e⟩,(h.pv a ha).2⟩⟩
noncomputable def fk (μ:Mu)(n:Nat)(p:Addr):Mu:=⟨fun k=>if k=n then some p else μ.pub k,μ.priv,μ.ob⟩
theorem Ext.cell {p:Addr}{o:HO}(h:RelM fa K μ H M)(hp:H p=none):Ext μ H (fk μ M.length p) (upd H p o):=by
 have rd:∀a u,Rd H a u->Rd (upd H p o) a u:=fun a u h=>by
  rcases h with h|⟨ob,h⟩
  ·exact .inl (by rw [ax (aN h hp)];exact h)
  ·exact .inr ⟨ob,by rw [ax (aN h hp)];exact h⟩
 refine ⟨⟨fun k a e=>?_,fun a vs g=>rd a _ g,fun a vs g n=>⟨by rw [ax (aN g hp)];exact g,fun e=>?_⟩,fun a ob u h=>by rw [ax (aN h hp)];exact h,fun a o _ h=>by rw [ax (aN h hp)];exact h,fun _ _ h=>h⟩,rfl,fun a ha=>by rw [ax (h.pne hp ha)]⟩
 ·show (if k=M.length then some p else μ.pub k)=some a
  split
  ·next q=>rw [q,h.out _ (LP _)] at e;cases e
  ·exact e
 ·rcases e with ⟨k,e⟩|e
  ·have e:(if k=M.length then some p else μ.pub k)=some a:=e
   split at e
   ·cases e;exact aN g hp rfl
   ·exact n (.inl ⟨k,e⟩)
  ·exact n (.inr e)
theorem RelM.cell (h:RelM fa K μ H M){p:Addr}{ds:List D}{vs:List V}(hp:H p=none)(r:aG fa K μ H ds vs) :
 RelM fa K (fk μ M.length p) (upd H p (.lst vs)) (M++[ds]):=by
 have x:Ext μ H (fk μ M.length p) (upd H p (.lst vs)):=Ext.cell h hp
 have np:=h.fresh hp
 refine ⟨fun k ds' e=>?_,fun k hk=>?_,fun k hk=>h.oout k (by simp at hk;omega),fun j k a h1 h2=>?_,h.oinj,fun k a z=>?_,fun a ha=>?_⟩
 ·by_cases hk:k<M.length
  ·rw [Ma hk] at e
   rcases h.at' k ds' e with ⟨a,ws,h1,h2,h3⟩|⟨a,c,C,dx,fs,es,h1,h2,h3,h4,h5,h6,h7⟩
   ·exact .inl ⟨a,ws,x.mu k a h1,by rw [ax (aN h2 hp)];exact h2,h3.ext x⟩
   ·exact .inr ⟨a,c,C,dx,fs,es,h1,by show (if k=M.length then some p else μ.pub k)=none;rw [if_neg (MA hk)];exact h2,h3,by rw [ax (aN h4 hp)];exact h4,h5,h6,h7.ext x⟩
  ·have hk':k=M.length:=by
    have:=(LJ.mp e).1
    simp at this;omega
   subst hk'
   rw [MF (LP _)] at e
   simp at e
   subst e
   exact .inl ⟨p,vs,by simp [fk],bt,r.ext x⟩
 ·simp at hk
  show (if k=M.length then some p else μ.pub k)=none
  rw [if_neg (by omega)]
  exact h.out k (by omega)
 ·have h1:(if j=M.length then some p else μ.pub j)=some a:=h1
  have h2:(if k=M.length then some p else μ.pub k)=some a:=h2
  split at h1<;>split at h2
  ·omega
  ·cases h1;exact absurd (.inl ⟨k,h2⟩) np
  ·cases h2;exact absurd (.inl ⟨j,h1⟩) np
  ·exact h.inj j k a h1 h2
 ·have z:(if k=M.length then some p else μ.pub k)=some a:=z
  show μ.ob (aU k)=none
  split at z
  ·next e=>rw [e];exact h.oout _ (LP _)
  ·exact h.sep k a z
 ·obtain ⟨⟨ws,e⟩,n⟩:=h.pv a ha
  refine ⟨⟨ws,by rw [ax (h.pne hp ha)];exact e⟩,fun k e2=>?_⟩
  have e2:(if k=M.length then some p else μ.pub k)=some a:=e2
  split at e2
  ·cases e2;exact h.pne hp ha rfl
  ·exact n k e2
theorem ExtW.write {a:Addr}{vs ws:List V}(h2:H a=some (.lst vs))(e:μ.Mt a):ExtW μ H μ (upd H a (.lst ws)):=by
 have ne:∀b u,Rd H b u->(∀xs,u≠.lst xs)->b≠a:=fun b u g nu q=>by
  subst q
  rcases g with g|⟨ob,g⟩
  ·rw [h2] at g;cases g;exact nu _ rfl
  ·rw [h2] at g;cases g
 have rd:∀b u,b≠a->Rd H b u->Rd (upd H a (.lst ws)) b u:=fun b u nb g=>by
  rcases g with g|⟨ob,g⟩
  ·exact .inl (by rw [ax nb];exact g)
  ·exact .inr ⟨ob,by rw [ax nb];exact g⟩
 exact ⟨fun _ _ q=>q,fun b us g=>rd b _ (ne b _ g (fun xs q=>by cases q)) g,fun b us g n=>⟨by rw [ax (fun q=>n (by rw [q];exact e))];exact g,n⟩,fun b ob u g=>by rw [ax (fun q=>by rw [q,h2] at g;cases g)];exact g,fun b o i g=>by rw [ax (fun q=>by rw [q,h2] at g;cases g;rcases i with ⟨_,i⟩|⟨_,i⟩<;>cases i)];exact g,fun _ _ q=>q⟩
theorem Ext.write {k:Nat}{a:Addr}{vs ws:List V}(h:RelM fa K μ H M)(e:μ.pub k=some a):Ext μ H μ (upd H a (.lst ws)):=by
 obtain ⟨ds,vs,_,h2,_⟩:=h.mu_lt e
 exact ⟨ExtW.write h2 (.inl ⟨k,e⟩),rfl,fun b hb=>by rw [ax (fun q=>(h.pv b hb).2 k (by rw [q];exact e))]⟩
theorem RelM.write (h:RelM fa K μ H M){k:Nat}{a:Addr}{ds:List D}{ws:List V}(e:μ.pub k=some a)(r:aG fa K μ H ds ws):RelM fa K μ (upd H a (.lst ws)) (M.set k ds):=by
 have x:Ext μ H μ (upd H a (.lst ws)):=Ext.write (vs:=ws) h e
 refine ⟨fun j es q=>?_,fun j hj=>h.out j (by simpa using hj),fun j hj=>h.oout j (by simpa using hj),h.inj,h.oinj,h.sep,fun b hb=>⟨let ⟨⟨vs,g⟩,_⟩:=h.pv b hb;⟨vs,by rw [x.pk b hb];exact g⟩,(h.pv b hb).2⟩⟩
 by_cases hj:j=k
 ·subst hj
  have hl:j<M.length:=by have:=(LJ.mp q).1;simpa using this
  rw [Md hl] at q
  cases q
  exact .inl ⟨a,ws,e,bt,r.ext x⟩
 ·rw [LS (MR hj)] at q
  rcases h.at' j es q with ⟨b,vs,h1,h2,h3⟩|⟨b,c,C,dx,fs,es,h1,h2,h3,h4,h5,h6,h7⟩
  ·have nb:b≠a:=fun z=>hj (h.inj j k a (z ▸ h1) e)
   exact .inl ⟨b,vs,h1,by rw [ax nb];exact h2,h3.ext x⟩
  ·obtain ⟨_,_,_,hl,_⟩:=h.mu_lt e
   have nb:b≠a:=fun z=>by rw [z,hl] at h4;cases h4
   exact .inr ⟨b,c,C,dx,fs,es,h1,h2,h3,by rw [ax nb];exact h4,h5,h6,h7.ext x⟩
end
noncomputable def ah {α:Type}(r:Res α)(k:α->Mem->Prop):Prop:=match r with
 |.ok a M=>k a M
 |_=>False
theorem aK {α β:Type}{r:Res α}{f:α->Mem->Res β}{k:β->Mem->Prop}(h:ah (r.bind f) k):∃a M,r=.ok a M/\ah (f a M) k:=by
 cases r with
 |ok a M=>exact ⟨a,M,rfl,h⟩
 |err=>exact h.elim
 |bad=>exact h.elim
theorem jR {α:Type}{M:Mem}{o:Option α}{k:α->Mem->Prop}(h:ah (bV M o) k):∃a,o=some a/\k a M:=by
 cases o with
 |none=>exact h.elim
 |some a=>exact ⟨a,rfl,h⟩
theorem aQ {α:Type}{r:Res α}{k k':α->Mem->Prop}(h:ah r k)(m:∀a M,k a M->k' a M):ah r k':=by
 cases r with
 |ok a M=>exact m a M h
 |err=>exact h
 |bad=>exact h
section
variable (fa:Fa)(K:LH)
noncomputable def a7 (μ:Mu)(H:Hp)(Q:VK)(d:D)(M':Mem):Prop:=∀v H' μ',Ext μ H μ' H'->RelM fa K μ' H' M'->Rep fa K μ' H' d v->Q v H'
noncomputable def tE (g:Env->Mem->Res D):TE:=fun σ H Q=>∃μ Z M,a8 fa K μ H σ Z/\RelM fa K μ H M/\ah (g Z M) (a7 fa K μ H Q)
noncomputable def tT (g:Env->Mem->Res Bool):TT:=fun σ H Q=>∃μ Z M,a8 fa K μ H σ Z/\RelM fa K μ H M/\ah (g Z M) fun b M'=>∀H' μ',Ext μ H μ' H'->RelM fa K μ' H' M'->Q b H'
noncomputable def tA (g:Env->Mem->Res (List D)):TA:=fun σ H Q=>∃μ Z M,a8 fa K μ H σ Z/\RelM fa K μ H M/\ah (g Z M) fun ds M'=>∀vs H' μ',Ext μ H μ' H'->RelM fa K μ' H' M'->aG fa K μ' H' ds vs->Q vs H'
end
noncomputable def mR (New:Addr->Prop)(C:Addr)(dx:Option Addr)(a:Addr)(h:Heap)(H:Hp):Prop:=New a/\H a=none/\∃o vs,h.get? a=some o/\o.cls=.ref C/\o.dict=dx/\o.data=.fields vs/\
 (vs[1]?=some .none\/∃T oT ts,vs[1]?=some (.ref T)/\T≠a/\New T/\H T=none/\h.get? T=some oT/\oT.data=.fields ts/\ts[3]?=some .none)
noncomputable def nH (X:Cx)(b:Addr):Prop:=X.s₀.heap.get? b=none/\∀p∈X.pn,p.1≠b
noncomputable def XW (fa:Fa)(X:Cx)(μ:Mu)(H:Hp)(x:D)(Z:Env)(M:Mem):Prop:=∀pins σ' H' μ' s' a C dx c p,Inv X pins σ' H' s'->Ext μ H μ' H'->a8 fa X.K μ' H' σ' Z->RelM fa X.K μ' H' M->x=.exc c p->fa (eP c)=some C->vO H' c dx p->mR (nH X) C dx a s'.heap H'->X.xe (.ref a) s'
noncomputable def oM (fa:Fa)(X:Cx)(μ:Mu)(H:Hp)(D:Ends):Fl->Mem->Prop
 |.next ρ',M'=>∀σ' H' μ',Ext μ H μ' H'->a8 fa X.K μ' H' σ' ρ'->RelM fa X.K μ' H' M'->D.nx σ' H'
 |.ret d,M'=>a7 fa X.K μ H D.rt d M'
 |.exc x ρ',M'=>XW fa X μ H x ρ' M'
noncomputable def tF (fa:Fa)(X:Cx)(g:Env->Mem->Res Fl):TS:=fun D σ H=>∃μ Z M,a8 fa X.K μ H σ Z/\RelM fa X.K μ H M/\ah (g Z M) (oM fa X μ H D)
theorem XW.ext {fa:Fa}{X:Cx}{μ μ':Mu}{H H':Hp}{x:D}{Z:Env}{M:Mem}(h:XW fa X μ H x Z M)(y:Ext μ H μ' H'):XW fa X μ' H' x Z M:=fun pins σ1 H1 μ1 s1 a C dx c p I e=>h pins σ1 H1 μ1 s1 a C dx c p I (y.trans e)
section
variable {fa:Fa}{K:LH}{μ μ':Mu}{H H':Hp}{Q:VK}
theorem a7.ext {d:D}{M:Mem}(h:a7 fa K μ H Q d M)(x:Ext μ H μ' H'):a7 fa K μ' H' Q d M:=fun v H'' μ'' y m r=>h v H'' μ'' (x.trans y) m r
theorem jr {r:Res D}(h:ah r (a7 fa K μ H Q))(x:Ext μ H μ' H'):ah r (a7 fa K μ' H' Q):=aQ h fun _ _ w=>w.ext x
end
theorem bq {X:Cx}{e:Expr}{t t':TE}(h:PE X e t)(i:∀σ H Q,t' σ H Q->t σ H Q):PE X e t':=fun pins s σ H Q I q=>h pins s σ H Q I (i σ H Q q)
theorem jO {X:Cx}{e:Expr}{t t':TT}(h:PT X e t)(i:∀σ H Q,t' σ H Q->t σ H Q):PT X e t':=fun pins s σ H Q I q=>h pins s σ H Q I (i σ H Q q)
theorem w9 {X:Cx}{e:Expr}{t t':TT}(h:PW X e t)(i:∀σ H Q,t' σ H Q->t σ H Q):PW X e t':=fun w pins s σ H Q I q=>h w pins s σ H Q I (i σ H Q q)
theorem xt {X:Cx}{e:List Expr}{t t':TA}(h:PA X e t)(i:∀σ H Q,t' σ H Q->t σ H Q):PA X e t':=fun pos pins s σ H Q I q=>h pos pins s σ H Q I (i σ H Q q)
theorem dU {X:Cx}{e:Stmt}{t t':TS}(h:PS X e t)(i:∀D σ H,t' D σ H->t D σ H):PS X e t':=fun pins s σ H D I q=>h pins s σ H D I (i D σ H q)
theorem t8 {X:Cx}{e:List Stmt}{t t':TS}(h:lQ X e t)(i:∀D σ H,t' D σ H->t D σ H):lQ X e t':=fun pins s σ H D I q=>h pins s σ H D I (i D σ H q)
section
variable {fa:Fa}{K:LH}{μ:Mu}{H:Hp}{σ:L2.St}{Z:Env}{M:Mem}
theorem t1 {g:Env->Mem->Res D}{β:Type}{f:D->Mem->Res β}{P:β->Mem->Prop}{R:V->Hp->Prop}(hE:a8 fa K μ H σ Z)(hM:RelM fa K μ H M)(h:ah ((g Z M).bind f) P)
 (k:∀x M1 v H1 μ1,Ext μ H μ1 H1->a8 fa K μ1 H1 σ Z->RelM fa K μ1 H1 M1->Rep fa K μ1 H1 x v->ah (f x M1) P->R v H1):tE fa K g σ H R:=by
 obtain ⟨x,M1,e,q⟩:=aK h
 refine ⟨μ,Z,M,hE,hM,?_⟩
 rw [e]
 exact fun v H1 μ1 x1 m1 r1=>k x M1 v H1 μ1 x1 (hE.ext x1) m1 r1 q
theorem wB {g:Env->Mem->Res Bool}{β:Type}{f:Bool->Mem->Res β}{P:β->Mem->Prop}{R:Bool->Hp->Prop}(hE:a8 fa K μ H σ Z)(hM:RelM fa K μ H M)(h:ah ((g Z M).bind f) P)
 (k:∀b M1 H1 μ1,Ext μ H μ1 H1->a8 fa K μ1 H1 σ Z->RelM fa K μ1 H1 M1->ah (f b M1) P->R b H1):tT fa K g σ H R:=by
 obtain ⟨b,M1,e,q⟩:=aK h
 refine ⟨μ,Z,M,hE,hM,?_⟩
 rw [e]
 exact fun H1 μ1 x1 m1=>k b M1 H1 μ1 x1 (hE.ext x1) m1 q
theorem pR {g:Env->Mem->Res (List D)}{β:Type}{f:List D->Mem->Res β}{P:β->Mem->Prop}{R:List V->Hp->Prop}(hE:a8 fa K μ H σ Z)(hM:RelM fa K μ H M)(h:ah ((g Z M).bind f) P)
 (k:∀ds M1 vs H1 μ1,Ext μ H μ1 H1->a8 fa K μ1 H1 σ Z->RelM fa K μ1 H1 M1->aG fa K μ1 H1 ds vs->ah (f ds M1) P->R vs H1):tA fa K g σ H R:=by
 obtain ⟨ds,M1,e,q⟩:=aK h
 refine ⟨μ,Z,M,hE,hM,?_⟩
 rw [e]
 exact fun v H1 μ1 x1 m1 r1=>k ds M1 v H1 μ1 x1 (hE.ext x1) m1 r1 q
end
end LD
namespace LD
open PySem PySem.Spec PyProof.Rows L2
mutual
noncomputable def toPy:D->PyData
 |.non=>.none
 |.bl b=>.bool b
 |.int i=>.int i
 |.str x=>.str x
 |.tup ds=>.tuple (cf ds)
 |.lst ds=>.list (cf ds)
 |.frz _=>.none
 |.cell _=>.none
 |.fn _=>.none
 |.exc _ _=>.none
noncomputable def cf:List D->List PyData
 |[]=>[]
 |d::r=>toPy d::cf r
end
theorem oP:∀(n:Nat) (d:D),aC n d=true->(toPy d).canLay0=true/\(toPy d).depth<=n:=by
 have all:∀(n:Nat),(∀d,aC n d=true->(toPy d).canLay0=true/\(toPy d).depth<=n)->∀ds:List D,ds.all (aC n)=true->PyData.canLayAll0 (cf ds)=true/\PyData.depthAll (cf ds)<=n:=by
  intro n h ds
  induction ds with
  |nil=>intro _;simp [cf,PyData.canLayAll0,PyData.depthAll]
  | cons d r ih =>
    intro q
    simp only [MB,LN] at q
    obtain ⟨h1,h2⟩:=h d q.1
    obtain ⟨h3,h4⟩:=ih q.2
    simp only [cf,PyData.canLayAll0,PyData.depthAll,h1,h3,Bool.and_self,true_and]
    omega
 intro n
 induction n with
 | zero =>
   intro d h
   cases d with
   |str x=>exact ⟨by simpa [toPy,PyData.canLay0,PyData.strOk,aC] using h,by simp [toPy,PyData.depth]⟩
   |tup _=>simp [aC] at h
   |lst _=>simp [aC] at h
   |frz _=>simp [aC] at h
   |cell _=>simp [aC] at h
   |fn _=>simp [aC] at h
   |exc y p=>simp [aC] at h
   |_=>exact ⟨by simp [toPy,PyData.canLay0],by simp [toPy,PyData.depth]⟩
 | succ n ih =>
   intro d h
   cases d with
   |str x=>exact ⟨by simpa [toPy,PyData.canLay0,PyData.strOk,aC] using h,by simp [toPy,PyData.depth]⟩
   | tup ds =>
     obtain ⟨h1,h2⟩:=all n ih ds (by simpa [aC] using h)
     simp only [toPy,PyData.canLay0,PyData.depth,h1,true_and]
     omega
   | lst ds =>
     obtain ⟨h1,h2⟩:=all n ih ds (by simpa [aC] using h)
     simp only [toPy,PyData.canLay0,PyData.depth,h1,true_and]
     omega
   |frz _=>simp [aC] at h
   |cell _=>simp [aC] at h
   |fn _=>simp [aC] at h
   |exc y p=>simp [aC] at h
   |_=>exact ⟨by simp [toPy,PyData.canLay0],by simp [toPy,PyData.depth]⟩
theorem jq {d:D}(h:aC 64 d=true):SeqAt.shaped (toPy d)=true:=by
 obtain ⟨h1,h2⟩:=oP 64 d h
 simp [SeqAt.shaped,h1,h2]
mutual
theorem mn:∀(n m:Nat) (a b:D),aC n a=true->aC m b=true->PyData.eqv (toPy a) (toPy b)=gG a b
 | n, m, .tup a, .tup b, ha, hb => by
   cases n with
   |zero=>simp [aC] at ha
   | succ n =>
     cases m with
     |zero=>simp [aC] at hb
     | succ m =>
       exact nt n m a b (by simpa [aC] using ha) (by simpa [aC] using hb)
 | n, m, .lst a, .lst b, ha, hb => by
   cases n with
   |zero=>simp [aC] at ha
   | succ n =>
     cases m with
     |zero=>simp [aC] at hb
     | succ m =>
       exact nt n m a b (by simpa [aC] using ha) (by simpa [aC] using hb)
 |n,m,.frz _,_,ha,hb=>by cases n<;>simp [aC] at ha
 |n,m,.cell _,_,ha,hb=>by cases n<;>simp [aC] at ha
 |n,m,.fn _,_,ha,hb=>by cases n<;>simp [aC] at ha
 |n,m,.exc _ _,_,ha,hb=>by cases n<;>simp [aC] at ha
 |n,m,_,.frz _,ha,hb=>by cases m<;>simp [aC] at hb
 |n,m,_,.cell _,ha,hb=>by cases m<;>simp [aC] at hb
 |n,m,_,.fn _,ha,hb=>by cases m<;>simp [aC] at hb
 |n,m,_,.exc _ _,ha,hb=>by cases m<;>simp [aC] at hb
 |_,_,.non,.non,_,_=>by first|rfl|simp [toPy,PyData.eqv];rfl
 |_,_,.non,.bl _,_,_=>by first|rfl|simp [toPy,PyData.eqv];rfl
 |_,_,.non,.int _,_,_=>by first|rfl|simp [toPy,PyData.eqv];rfl
 |_,_,.non,.str _,_,_=>by first|rfl|simp [toPy,PyData.eqv];rfl
 |_,_,.non,.tup _,_,_=>by first|rfl|simp [toPy,PyData.eqv];rfl
 |_,_,.non,.lst _,_,_=>by first|rfl|simp [toPy,PyData.eqv];rfl
 |_,_,.bl _,.non,_,_=>by first|rfl|simp [toPy,PyData.eqv];rfl
 |_,_,.bl _,.bl _,_,_=>by first|rfl|simp [toPy,PyData.eqv];rfl
 |_,_,.bl _,.int _,_,_=>by first|rfl|simp [toPy,PyData.eqv];rfl
 |_,_,.bl _,.str _,_,_=>by first|rfl|simp [toPy,PyData.eqv];rfl
 |_,_,.bl _,.tup _,_,_=>by first|rfl|simp [toPy,PyData.eqv];rfl
 |_,_,.bl _,.lst _,_,_=>by first|rfl|simp [toPy,PyData.eqv];rfl
 |_,_,.int _,.non,_,_=>by first|rfl|simp [toPy,PyData.eqv];rfl
 |_,_,.int _,.bl _,_,_=>by first|rfl|simp [toPy,PyData.eqv];rfl
 |_,_,.int _,.int _,_,_=>by first|rfl|simp [toPy,PyData.eqv];rfl
 |_,_,.int _,.str _,_,_=>by first|rfl|simp [toPy,PyData.eqv];rfl
 |_,_,.int _,.tup _,_,_=>by first|rfl|simp [toPy,PyData.eqv];rfl
 |_,_,.int _,.lst _,_,_=>by first|rfl|simp [toPy,PyData.eqv];rfl
 |_,_,.str _,.non,_,_=>by first|rfl|simp [toPy,PyData.eqv];rfl
 |_,_,.str _,.bl _,_,_=>by first|rfl|simp [toPy,PyData.eqv];rfl
 |_,_,.str _,.int _,_,_=>by first|rfl|simp [toPy,PyData.eqv];rfl
 |_,_,.str _,.str _,_,_=>by first|rfl|simp [toPy,PyData.eqv];rfl
 |_,_,.str _,.tup _,_,_=>by first|rfl|simp [toPy,PyData.eqv];rfl
 |_,_,.str _,.lst _,_,_=>by first|rfl|simp [toPy,PyData.eqv];rfl
 |_,_,.tup _,.non,_,_=>by first|rfl|simp [toPy,PyData.eqv];rfl
 |_,_,.tup _,.bl _,_,_=>by first|rfl|simp [toPy,PyData.eqv];rfl
 |_,_,.tup _,.int _,_,_=>by first|rfl|simp [toPy,PyData.eqv];rfl
 |_,_,.tup _,.str _,_,_=>by first|rfl|simp [toPy,PyData.eqv];rfl
 |_,_,.tup _,.lst _,_,_=>by first|rfl|simp [toPy,PyData.eqv];rfl
 |_,_,.lst _,.non,_,_=>by first|rfl|simp [toPy,PyData.eqv];rfl
 |_,_,.lst _,.bl _,_,_=>by first|rfl|simp [toPy,PyData.eqv];rfl
 |_,_,.lst _,.int _,_,_=>by first|rfl|simp [toPy,PyData.eqv];rfl
 |_,_,.lst _,.str _,_,_=>by first|rfl|simp [toPy,PyData.eqv];rfl
 |_,_,.lst _,.tup _,_,_=>by first|rfl|simp [toPy,PyData.eqv];rfl
theorem nt:∀(n m:Nat) (a b:List D),a.all (aC n)=true->b.all (aC m)=true->PyData.eqvAll (cf a) (cf b)=jH a b
 |n,m,[],[],_,_=>by simp [cf,PyData.eqvAll,jH]
 |n,m,[],_::_,_,_=>by simp [cf,PyData.eqvAll,jH]
 |n,m,_::_,[],_,_=>by simp [cf,PyData.eqvAll,jH]
 | n, m, x :: a, y :: b, ha, hb => by
   simp only [MB,LN] at ha hb
   simp only [cf,PyData.eqvAll,jH]
   rw [mn n m x y ha.1 hb.1,nt n m a b ha.2 hb.2]
end
section
variable {fa:Fa}{X:Cx}{μ:Mu}{H:Hp}{σ:L2.St}{pins:List (Addr×Obj)}{s:LM}{M:Mem}
theorem i7 {d:D}{v:V}{ds:List D}(hM:RelM fa X.K μ H M)(h:Rep fa X.K μ H d v)(e:jc M d=some ds):∃a vs,v=.ref a/\H a=some (.lst vs)/\aG fa X.K μ H ds vs:=by
 cases d with
 | lst xs =>
   cases e
   obtain ⟨a,vs,e,s,r⟩:=h
   exact ⟨a,vs,e,s.1,r⟩
 | cell k =>
   obtain ⟨a,rfl,hk⟩:=h
   obtain ⟨vs,h2,h3⟩:=hM.at_ e hk
   exact ⟨a,vs,rfl,h2,h3⟩
 |_=>cases e
theorem bA {d:D}{v:V}{ds:List D}(hM:RelM fa X.K μ H M)(h:Rep fa X.K μ H d v)(e:eG M d=some ds):∃a vs,v=.ref a/\b9 X.K H a vs/\aG fa X.K μ H ds vs:=by
 cases d with
 | lst xs =>
   obtain ⟨a,vs,h1,h2,h3⟩:=i7 (ds:=ds) hM h e
   exact ⟨a,vs,h1,.of h2,h3⟩
 | frz xs =>
   cases e
   obtain ⟨a,vs,e,s,r⟩:=h
   exact ⟨a,vs,e,s.elim (fun z=>.inl (.inr z)) .inr,r⟩
 | cell k =>
   obtain ⟨a,vs,h1,h2,h3⟩:=i7 (ds:=ds) hM h e
   exact ⟨a,vs,h1,.of h2,h3⟩
 |_=>cases e
theorem i6 {d:D}{v:V}{ds:List D}(hM:RelM fa X.K μ H M)(h:Rep fa X.K μ H d v)(e:bH M d=some ds):∃a vs,v=.ref a/\(b9 X.K H a vs\/c9 X.K H a vs)/\aG fa X.K μ H ds vs:=by
 cases d with
 | tup xs =>
   cases e
   obtain ⟨a,vs,rfl,h1,h2⟩:=h
   exact ⟨a,vs,rfl,.inr h1,h2⟩
 | lst xs =>
   obtain ⟨a,vs,h1,h2,h3⟩:=bA (ds:=ds) hM h e
   exact ⟨a,vs,h1,.inl h2,h3⟩
 | frz xs =>
   obtain ⟨a,vs,h1,h2,h3⟩:=bA (ds:=ds) hM h e
   exact ⟨a,vs,h1,.inl h2,h3⟩
 | cell k =>
   obtain ⟨a,vs,h1,h2,h3⟩:=bA (ds:=ds) hM h e
   exact ⟨a,vs,h1,.inl h2,h3⟩
 |_=>cases e
mutual
theorem dE (I:Inv X pins σ H s):∀(d:D) (n:Nat) (v:V) (u:LI),aC n d=true->Rep fa X.K μ H d v->RelV v u->∃as,Reads s.heap u (toPy d) as
 | .non, n, v, u, _, h, r => by
   obtain rfl:v=.non:=h
   obtain rfl:u=Value.none:=r
   exact ⟨_,.none⟩
 | .bl b, n, v, u, _, h, r => by
   obtain rfl:v=.bl b:=h
   obtain rfl:u=Value.bool b:=r
   exact ⟨_,.bool b⟩
 | .int i, n, v, u, _, h, r => by
   obtain rfl:v=.int i:=h
   obtain ⟨t,rfl⟩:=r
   exact ⟨_,.int i t⟩
 | .str x, n, v, u, _, h, r => by
   obtain rfl:v=.str x:=h
   obtain ⟨t,rfl⟩:=r
   exact ⟨_,.str x t⟩
 | .tup ds, n, v, u, hp, h, r => by
   cases n with
   |zero=>simp [aC] at hp
   | succ n =>
     obtain ⟨a,vs,rfl,h1,h2⟩:=h
     obtain rfl:u=Value.ref a:=r
     obtain ⟨its,rv,⟨o,e1,e2,k,e3⟩,_⟩:=I.tuple h1
     obtain ⟨as,q⟩:=fi I ds n vs its (by simpa [aC] using hp) h2 rv
     exact ⟨_,.tuple e1 e2 e3 (by simpa using q)⟩
 | .lst ds, n, v, u, hp, h, r => by
   cases n with
   |zero=>simp [aC] at hp
   | succ n =>
     obtain ⟨a,vs,rfl,h1,h2⟩:=h
     obtain rfl:u=Value.ref a:=r
     obtain ⟨its,rv,⟨o,k,e1,e2,e4,e3⟩,_⟩:=I.list (b9.of h1.1)
     obtain ⟨as,q⟩:=fi I ds n vs its (by simpa [aC] using hp) h2 rv
     exact ⟨_,.list e1 e2 e3 (by simpa using q)⟩
 |.frz k,n,v,u,hp,_,_=>by cases n<;>simp [aC] at hp
 |.cell k,n,v,u,hp,_,_=>by cases n<;>simp [aC] at hp
 |.fn f,n,v,u,hp,_,_=>by cases n<;>simp [aC] at hp
 |.exc _ _,n,v,u,hp,_,_=>by cases n<;>simp [aC] at hp
theorem fi (I:Inv X pins σ H s):∀(ds:List D) (n:Nat) (vs:List V) (us:List LI),ds.all (aC n)=true->aG fa X.K μ H ds vs->Vals vs us->∃as,ReadsAll s.heap us (cf ds) as
 | [], n, vs, us, _, h, r => by
   obtain rfl:vs=[]:=h
   cases r
   exact ⟨_,.nil⟩
 | d :: ds, n, vs, us, hp, h, r => by
   obtain ⟨v,vr,rfl,h1,h2⟩:=h
   simp only [MB,LN] at hp
   cases r with
   | cons r1 r2 =>
     obtain ⟨as,q1⟩:=dE I d n v _ hp.1 h1 r1
     obtain ⟨bs,q2⟩:=fi I ds n vr _ hp.2 h2 r2
     exact ⟨_,.cons q1 q2⟩
end
theorem Cr {d:D}{n:Nat}(h:aC n (view M d)=true):(view M d=d/\aC n d=true)\/∃ds,eG M d=some ds/\view M d=.lst ds:=by
 cases d with
 | cell k =>
   cases e:M[k]? with
   | none =>
     have ev:view M (.cell k)=.cell k:=by simp [view,e]
     rw [ev] at h
     cases n<;>simp [aC] at h
   |some ds=>exact .inr ⟨ds,e,by simp [view,e]⟩
 |frz ds=>exact .inr ⟨ds,rfl,rfl⟩
 |_=>exact .inl ⟨rfl,h⟩
theorem j6 (I:Inv X pins σ H s)(hM:RelM fa X.K μ H M){d:D}{v:V}{u:LI}(hp:aC 64 (view M d)=true)(h:Rep fa X.K μ H d v)(r:RelV v u):∃as,Reads s.heap u (toPy (view M d)) as:=by
 rcases Cr hp with ⟨e,hp'⟩|⟨ds,e,ev⟩
 ·rw [e];exact dE I _ 64 v u hp' h r
 ·rw [ev] at hp ⊢
  obtain ⟨a,vs,rfl,h1,h2⟩:=bA (ds:=ds) hM h e
  obtain rfl:u=Value.ref a:=r
  obtain ⟨its,rv,⟨o,k,e1,e2,e4,e3⟩,_⟩:=I.list h1
  obtain ⟨as,q⟩:=fi I ds 63 vs its (by simpa [aC] using hp) h2 rv
  exact ⟨_,.list e1 e2 e3 (by simpa using q)⟩
theorem jE (I:Inv X pins σ H s)(hM:RelM fa X.K μ H M):∀(n m:Nat) (d:D) (v:V) (u:LI),aC m (cW n M d)=true->Rep fa X.K μ H d v->RelV v u->∃as,Reads s.heap u (toPy (cW n M d)) as
 |0,m,d,v,u,hp,h,r=>dE I d m v u hp h r
 | n + 1, m, d, v, u, hp, h, r => by
   have ih:=jE I hM n
   have all:∀(m:Nat) (ds:List D) (vs:List V) (us:List LI),(ds.map (cW n M)).all (aC m)=true->aG fa X.K μ H ds vs->Vals vs us->∃as,ReadsAll s.heap us (cf (ds.map (cW n M))) as:=by
    intro m ds
    induction ds with
    | nil =>
      intro vs us _ h r
      obtain rfl:vs=[]:=h
      cases r
      exact ⟨_,.nil⟩
    | cons d ds ihl =>
      intro vs us hp h r
      obtain ⟨v,vr,rfl,h1,h2⟩:=h
      simp only [MO,MB,LN] at hp
      cases r with
      | cons r1 r2 =>
        obtain ⟨as,q1⟩:=ih m d v _ hp.1 h1 r1
        obtain ⟨bs,q2⟩:=ihl vr _ hp.2 h2 r2
        exact ⟨_,.cons q1 q2⟩
   have lst:∀(ds:List D) (a:Addr) (vs:List V),aC m (.lst (ds.map (cW n M)))=true->b9 X.K H a vs->aG fa X.K μ H ds vs->u=.ref a->∃as,Reads s.heap u (toPy (.lst (ds.map (cW n M)))) as:=by
    intro ds a vs hp h1 h2 e
    subst e
    cases m with
    |zero=>simp [aC] at hp
    | succ m =>
      obtain ⟨its,rv,⟨o,k,e1,e2,e4,e3⟩,_⟩:=I.list h1
      obtain ⟨as,q⟩:=all m ds vs its (by simpa [aC] using hp) h2 rv
      exact ⟨_,.list e1 e2 e3 (by simpa using q)⟩
   cases d with
   | cell k =>
     cases e:M[k]? with
     | none =>
       have ev:cW (n+1) M (.cell k)=.cell k:=by simp [cW,e]
       rw [ev] at hp
       cases m<;>simp [aC] at hp
     | some ds =>
       have ev:cW (n+1) M (.cell k)=.lst (ds.map (cW n M)):=by simp [cW,e]
       rw [ev] at hp ⊢
       obtain ⟨a,vs,rfl,h1,h2⟩:=bA (ds:=ds) hM h e
       exact lst ds a vs hp h1 h2 r
   | frz ds =>
     obtain ⟨a,vs,rfl,h1,h2⟩:=bA (ds:=ds) hM h rfl
     exact lst ds a vs hp h1 h2 r
   | lst ds =>
     obtain ⟨a,vs,rfl,h1,h2⟩:=bA (ds:=ds) hM h rfl
     exact lst ds a vs hp h1 h2 r
   | tup ds =>
     have hp:aC m (.tup (ds.map (cW n M)))=true:=hp
     cases m with
     |zero=>simp [aC] at hp
     | succ m =>
       obtain ⟨a,vs,rfl,h1,h2⟩:=h
       obtain rfl:u=Value.ref a:=r
       obtain ⟨its,rv,⟨o,e1,e2,k,e3⟩,_⟩:=I.tuple h1
       obtain ⟨as,q⟩:=all m ds vs its (by simpa [aC] using hp) h2 rv
       exact ⟨_,.tuple e1 e2 e3 (by simpa using q)⟩
   |non=>exact dE I .non m v u hp h r
   |bl b=>exact dE I (.bl b) m v u hp h r
   |int i=>exact dE I (.int i) m v u hp h r
   |str x=>exact dE I (.str x) m v u hp h r
   |fn f=>exact dE I (.fn f) m v u hp h r
   |exc y p=>exact dE I (.exc y p) m v u hp h r
abbrev Rm (X:Cx):Prop:=X.A.units+100<cLine
noncomputable def gr (fa:Fa)(K:LH)(o:iC):R2:=fun x y H Q=>∃μ M dx dy b,RelM fa K μ H M/\Rep fa K μ H dx x/\Rep fa K μ H dy y/\bu o dx dy M=some b/\Q (.bl b) H
theorem sI {a b:D}{k:Bool}(hs:(gK a&&gK b)=false)(h:oq a b=some k):aC 64 a=true/\aC 64 b=true/\k=gG a b:=by
 unfold oq at h
 rw [hs,Bool.false_or] at h
 split at h
 ·next q=>
  simp only [LN] at q
  exact ⟨q.1,q.2,(LO h).symm⟩
 ·cases h
theorem sC (d:D):gK (view M d)=gK d:=by
 cases d with
 |cell k=>cases e:M[k]?<;>simp [view,e,gK]
 |_=>rfl
theorem qp (n:Nat)(d:D):gK (cW n M d)=gK d:=by
 cases n with
 |zero=>rfl
 | succ n =>
   cases d with
   |cell k=>cases e:M[k]?<;>simp [cW,e,gK]
   |_=>rfl
theorem qt (I:Inv X pins σ H s)(hM:RelM fa X.K μ H M){a b:D}{x y:V}{v u:LI}{k:Bool}(hs:(gK a&&gK b)=false)(h:kL M a b=some k)(h1:Rep fa X.K μ H a x)(h2:Rep fa X.K μ H b y)(rx:RelV x v)(ry:RelV y u) :
 ∃c e as bs,aC 64 c=true/\aC 64 e=true/\k=gG c e/\Reads s.heap v (toPy c) as/\Reads s.heap u (toPy e) bs:=by
 unfold kL at h
 cases q:oq (view M a) (view M b) with
 | some r =>
   rw [q] at h
   cases h
   obtain ⟨p1,p2,e⟩:=sI (by rw [sC,sC];exact hs) q
   obtain ⟨as,r1⟩:=j6 I hM p1 h1 rx
   obtain ⟨bs,r2⟩:=j6 I hM p2 h2 ry
   exact ⟨_,_,as,bs,p1,p2,e,r1,r2⟩
 | none =>
   rw [q] at h
   obtain ⟨p1,p2,e⟩:=sI (by rw [qp,qp];exact hs) h
   obtain ⟨as,r1⟩:=jE I hM 64 64 a x v p1 h1 rx
   obtain ⟨bs,r2⟩:=jE I hM 64 64 b y u p2 h2 ry
   exact ⟨_,_,as,bs,p1,p2,e,r1,r2⟩
theorem rC {a b:D}(h:(gK a&&gK b)=true):∃x y,a=.str x/\b=.str y:=by
 cases a with
 | str x =>
   cases b with
   |str y=>exact ⟨x,y,rfl,rfl⟩
   |_=>cases h
 |_=>cases h
theorem uy {x y:Str}:kL M (.str x) (.str y)=some (x==y):=by
 have e:gG (.str x) (.str y)=(x==y):=rfl
 rw [<- e];rfl
theorem Le (hu:Rm X):bz X (compareOp .Eq) (gr fa X.K .eq):=by
 intro pins s σ H x y v u Q I rx ry h
 obtain ⟨μ,M,dx,dy,b,hM,h1,h2,e,q⟩:=h
 cases hs:gK dx&&gK dy with
 | true =>
   obtain ⟨i,j,rfl,rfl⟩:=rC hs
   obtain rfl:x=.str i:=h1
   obtain rfl:y=.str j:=h2
   obtain rfl:(i==j)=b:=LO (uy.symm.trans e)
   exact IB pins s σ H _ _ v u Q I rx ry ⟨rfl,by rw [mw];exact q⟩
 | false =>
   obtain ⟨_,_,as,bs,p1,p2,rfl,r1,r2⟩:=qt I hM hs (show kL M dx dy=some b from e) h1 h2 rx ry
   refine SeqAt.compareEq_shaped r1 r2 (jq p1) (jq p2) (by unfold Rm at hu;omega) ?_
   rw [mn 64 64 _ _ p1 p2]
   exact ⟨.bl _,H,I,rfl,q⟩
theorem K8 (hu:Rm X):bz X (compareOp .NotEq) (gr fa X.K .ne):=by
 intro pins s σ H x y v u Q I rx ry h
 obtain ⟨μ,M,dx,dy,b,hM,h1,h2,e,q⟩:=h
 have e:(kL M dx dy).map (!·)=some b:=e
 cases e':kL M dx dy with
 |none=>rw [e'] at e;cases e
 | some k =>
   rw [e'] at e
   obtain rfl:(!k)=b:=LO e
   cases hs:gK dx&&gK dy with
   | true =>
     obtain ⟨i,j,rfl,rfl⟩:=rC hs
     obtain rfl:x=.str i:=h1
     obtain rfl:y=.str j:=h2
     obtain rfl:(i==j)=k:=LO (uy.symm.trans e')
     exact Iu pins s σ H _ _ v u Q I rx ry ⟨rfl,by rw [mw];exact q⟩
   | false =>
     obtain ⟨_,_,as,bs,p1,p2,rfl,r1,r2⟩:=qt I hM hs e' h1 h2 rx ry
     refine SeqAt.compareNe_shaped r1 r2 (jq p1) (jq p2) (by unfold Rm at hu;omega) ?_
     rw [mn 64 64 _ _ p1 p2]
     exact ⟨.bl _,H,I,rfl,q⟩
end
end LD
namespace LD
open PySem PySem.Spec PyProof.Rows L2
section
variable {fa:Fa}{X:Cx}{μ:Mu}{H:Hp}{σ:L2.St}{pins:List (Addr×Obj)}{s:LM}{M:Mem}
theorem ic {f:LI->LI->Sem LI}{r r':R2}(h:bz X f r)(i:∀x y H Q,r' x y H Q->r x y H Q):bz X f r':=fun pins s σ H x y v u Q I rx ry q=>h pins s σ H x y v u Q I rx ry (i x y H Q q)
theorem jh {f:LI}{r r':List V->Hp->VK->Prop}(h:cF X f r)(i:∀xs H Q,r' xs H Q->r xs H Q):cF X f r':=fun pins s σ H xs us Q I rx q=>h pins s σ H xs us Q I rx (i xs H Q q)
theorem mx {o:iC}{g:Int->Int->Bool}(ho:o=.lt\/o=.le\/o=.gt\/o=.ge)(hg:∀i j,bu o (.int i) (.int j) []=some (g i j)){x y:V}{Q:VK}(h:gr fa X.K o x y H Q) :
 ∃i j,x=.int i/\y=.int j/\Q (.bl (g i j)) H:=by
 obtain ⟨μ,M,dx,dy,b,hM,h1,h2,e,q⟩:=h
 have key:∀i j,dx=.int i->dy=.int j->∃i j,x=.int i/\y=.int j/\Q (.bl (g i j)) H:=fun i j e1 e2=>by
  subst e1 e2
  have e3:bu o (.int i) (.int j) M=some (g i j):=by
   have:=hg i j
   rcases ho with rfl|rfl|rfl|rfl<;>exact this
  rw [e] at e3
  have e4:=LO e3
  subst e4
  exact ⟨i,j,h1,h2,q⟩
 rcases ho with rfl|rfl|rfl|rfl<;>
 ·cases dx with
  |int i=>cases dy<;>first|exact key _ _ rfl rfl|cases e
  |_=>cases e
theorem K9:bz X (compareOp .Lt) (gr fa X.K .lt):=ic Iv fun x y H Q h=>mx (.inl rfl) (fun _ _=>rfl) h
theorem La:bz X (compareOp .LtE) (gr fa X.K .le):=ic Iw fun x y H Q h=>mx (.inr (.inl rfl)) (fun _ _=>rfl) h
theorem Lc:bz X (compareOp .Gt) (gr fa X.K .gt):=ic Iy fun x y H Q h=>mx (.inr (.inr (.inl rfl))) (fun _ _=>rfl) h
theorem Ld:bz X (compareOp .GtE) (gr fa X.K .ge):=ic Iz fun x y H Q h=>mx (.inr (.inr (.inr rfl))) (fun _ _=>rfl) h
theorem tZ {d:D}{v:V}{K:LH}(h:Rep fa K μ H d v):decide (v=.non)=jv d:=by
 cases d with
 |non=>obtain rfl:v=.non:=h;rfl
 |bl b=>obtain rfl:v=.bl b:=h;rfl
 |int b=>obtain rfl:v=.int b:=h;rfl
 |str b=>obtain rfl:v=.str b:=h;rfl
 |tup b=>obtain ⟨a,vs,rfl,_⟩:=h;rfl
 |lst b=>obtain ⟨a,vs,rfl,_⟩:=h;rfl
 |frz b=>obtain ⟨a,vs,rfl,_⟩:=h;rfl
 |cell b=>obtain ⟨a,rfl,_⟩:=h;rfl
 |fn b=>obtain ⟨a,rfl,_⟩:=h;rfl
 |exc y p=>obtain ⟨a,_,_,rfl,_⟩:=h;rfl
theorem Jm:bz X (compareOp .Is) (gr fa X.K .isN):=ic F5 fun x y H Q h=>by
 obtain ⟨μ,M,dx,dy,b,hM,h1,h2,e,q⟩:=h
 cases dy<;>first|cases (show (none:Option Bool)=some b from e)|skip
 refine ⟨h2,?_⟩
 rw [tZ h1]
 have e:some (jv dx)=some b:=e
 rw [LO e];exact q
theorem Hr:bz X (compareOp .IsNot) (gr fa X.K .notN):=ic DC fun x y H Q h=>by
 obtain ⟨μ,M,dx,dy,b,hM,h1,h2,e,q⟩:=h
 cases dy<;>first|cases (show (none:Option Bool)=some b from e)|skip
 refine ⟨h2,?_⟩
 rw [tZ h1]
 have e:some (!jv dx)=some b:=e
 rw [LO e];exact q
theorem s8 (x:D)(hx:aC 64 x=true):∀(ds:List D),ds.all (aC 63)=true->((cf ds).any fun y=>PyData.eqv y (toPy x))=ds.any fun y=>gG y x
 |[],_=>rfl
 | d :: r, h => by
   simp only [MB,LN] at h
   simp only [cf,List.any_cons,mn 63 64 d x h.1 hx,s8 x hx r h.2]
theorem rj (n:Nat):∀ds:List D,ds.all (aC n)=true->PyData.canLayAll0 (cf ds)=true/\PyData.depthAll (cf ds)<=n
 |[],_=>by simp [cf,PyData.canLayAll0,PyData.depthAll]
 | d :: r, h => by
   simp only [MB,LN] at h
   obtain ⟨h1,h2⟩:=oP n d h.1
   obtain ⟨h3,h4⟩:=rj n r h.2
   simp only [cf,PyData.canLayAll0,PyData.depthAll,h1,h3,Bool.and_self,true_and]
   omega
theorem wX (I:Inv X pins σ H s)(hM:RelM fa X.K μ H M){d:D}{v:V}{u:LI}{ds:List D}(hp:ds.all (aC 63)=true)(h:Rep fa X.K μ H d v)(r:RelV v u)(e:bH M d=some ds) :
 (∃as,Reads s.heap u (.list (cf ds)) as)\/∃as,Reads s.heap u (.tuple (cf ds)) as:=by
 obtain ⟨a,vs,rfl,h1,h2⟩:=i6 (ds:=ds) hM h e
 obtain rfl:u=Value.ref a:=r
 rcases h1 with h1|h1
 ·obtain ⟨its,rv,⟨o,k,e1,e2,e4,e3⟩,_⟩:=I.list h1
  obtain ⟨as,q⟩:=fi I ds 63 vs its hp h2 rv
  exact .inl ⟨_,.list e1 e2 e3 (by simpa using q)⟩
 ·obtain ⟨its,rv,⟨o,e1,e2,k,e3⟩,_⟩:=I.tuple h1
  obtain ⟨as,q⟩:=fi I ds 63 vs its hp h2 rv
  exact .inr ⟨_,.tuple e1 e2 e3 (by simpa using q)⟩
theorem xX (hu:Rm X){x y:V}{v u:LI}{dx dy:D}{ds:List D}{b:Bool}{Q:LI->LM->Prop}(I:Inv X pins σ H s)(hM:RelM fa X.K μ H M)(h1:Rep fa X.K μ H dx x)(h2:Rep fa X.K μ H dy y)(rx:RelV x v)(ry:RelV y u)
 (e1:bH M dy=some ds) (e2:mM (view M dx) ds=some b) (neg:Bool) (q:Q (.bool (if neg then !b else b)) s):wpAny (model X.prog X.w) X.A (compareOp (if neg then .NotIn else .In) v u) Q X.xe s:=by
 unfold mM at e2
 split at e2
 ·next z=>
  simp only [LN] at z
  obtain ⟨p1,p2⟩:=z
  have e3:=LO e2
  subst e3
  obtain ⟨as,r1⟩:=j6 I hM p1 h1 rx
  obtain ⟨c1,d1⟩:=oP 64 _ p1
  obtain ⟨c2,d2⟩:=rj 63 ds p2
  have hu':X.A.units+1+min (PyData.depthAll (cf ds)) (toPy (view M dx)).depth<cLine:=by unfold Rm at hu;omega
  rw [<- s8 _ p1 ds p2] at q
  rcases wX I hM p2 h2 ry e1 with ⟨bs,r2⟩|⟨bs,r2⟩
  ·cases neg
   ·exact SeqAt.in_list_reads r2 r1 c2 c1 hu' q
   ·exact SeqAt.notIn_list_reads r2 r1 c2 c1 hu' q
  ·cases neg
   ·exact SeqAt.in_tuple_reads r2 r1 c2 c1 hu' q
   ·exact SeqAt.notIn_tuple_reads r2 r1 c2 c1 hu' q
 ·cases e2
theorem Lb (hu:Rm X):bz X (compareOp .In) (gr fa X.K .isin):=by
 intro pins s σ H x y v u Q I rx ry h
 obtain ⟨μ,M,dx,dy,b,hM,h1,h2,e,q⟩:=h
 have gen:(bH M dy).bind (mM (view M dx))=some b->wpAny (model X.prog X.w) X.A (compareOp .In v u) (EP X pins σ Q) X.xe s:=fun e=>by
  cases e1:bH M dy with
  |none=>rw [e1] at e;cases e
  | some ds =>
    rw [e1] at e
    exact xX hu I hM h1 h2 rx ry e1 e false ⟨.bl b,H,I,rfl,q⟩
 by_cases hs:(∃a,dx=.str a)/\∃c,dy=.str c
 ·obtain ⟨⟨a,rfl⟩,c,rfl⟩:=hs
  have e:some (nN a c)=some b:=e
  have e':=LO e
  subst e'
  exact xu pins s σ H x y v u Q I rx ry ⟨a,c,h1,h2,q⟩
 ·refine gen ?_
  cases dx<;>first|exact e|(cases dy<;>first|exact e|exact absurd ⟨⟨_,rfl⟩,_,rfl⟩ hs)
theorem Et (hu:Rm X):bz X (compareOp .NotIn) (gr fa X.K .notin):=by
 intro pins s σ H x y v u Q I rx ry h
 obtain ⟨μ,M,dx,dy,b,hM,h1,h2,e,q⟩:=h
 have gen:((bH M dy).bind (mM (view M dx))).map (!·)=some b->wpAny (model X.prog X.w) X.A (compareOp .NotIn v u) (EP X pins σ Q) X.xe s:=fun e=>by
  cases e1:bH M dy with
  |none=>rw [e1] at e;cases e
  | some ds =>
    rw [e1] at e
    cases e2:mM (view M dx) ds with
    |none=>rw [Option.bind_some,e2] at e;cases e
    | some k =>
      rw [Option.bind_some,e2] at e
      have e':=LO e
      subst e'
      exact xX hu I hM h1 h2 rx ry e1 e2 true ⟨.bl _,H,I,rfl,q⟩
 by_cases hs:(∃a,dx=.str a)/\∃c,dy=.str c
 ·obtain ⟨⟨a,rfl⟩,c,rfl⟩:=hs
  have e:some (!nN a c)=some b:=e
  have e':=LO e
  subst e'
  exact r8 pins s σ H x y v u Q I rx ry ⟨a,c,h1,h2,q⟩
 ·refine gen ?_
  cases dx<;>first|exact e|(cases dy<;>first|exact e|exact absurd ⟨⟨_,rfl⟩,_,rfl⟩ hs)
noncomputable def dP:iC->CmpOp
 |.eq=>.Eq|.ne=>.NotEq|.lt=>.Lt|.le=>.LtE|.gt=>.Gt|.ge=>.GtE|.isN=>.Is|.notN=>.IsNot|.isin=>.In|.notin=>.NotIn
theorem my (hu:Rm X):∀o:iC,bz X (compareOp (dP o)) (gr fa X.K o)
 |.eq=>Le hu|.ne=>K8 hu|.lt=>K9|.le=>La|.gt=>Lc|.ge=>Ld|.isN=>Jm|.notN=>Hr|.isin=>Lb hu|.notin=>Et hu
noncomputable def kZ (fa:Fa)(K:LH)(m:Bool)(o:kO):R2:=fun x y H Q=>∃μ M dx dy,RelM fa K μ H M/\Rep fa K μ H dx x/\Rep fa K μ H dy y/\ah (fR m o dx dy M) (a7 fa K μ H Q)
theorem aZ {Q:VK}{d:D}{v:V}(hM:RelM fa X.K μ H M)(h:a7 fa X.K μ H Q d M)(r:Rep fa X.K μ H d v):Q v H:=h v H μ .refl hM r
theorem fO {Q:VK}{m:Bool}{ds:List D}{vs:List V}(hM:RelM fa X.K μ H M)(r:aG fa X.K μ H ds vs)(h:ah (ba m ds M) (a7 fa X.K μ H Q)):ds.length<=sz/\∀p,H p=none->Q (.ref p) (upd H p (.lst vs)):=by
 unfold ba at h
 split at h
 ·next hz=>
  refine ⟨hz,fun p hp=>?_⟩
  cases m with
  | true =>
    have h:a7 fa X.K μ H Q (.cell M.length) (M++[ds]):=h
    exact h (.ref p) _ (fk μ M.length p) (Ext.cell hM hp) (hM.cell hp r) ⟨p,rfl,by simp [fk]⟩
  | false =>
    have h:a7 fa X.K μ H Q (.lst ds) M:=h
    exact h (.ref p) _ μ (Ext.alloc hM hp) (hM.alloc hp) ⟨p,vs,rfl,⟨bt,hM.fresh hp⟩,r.ext (Ext.alloc hM hp)⟩
 ·exact h.elim
theorem gL {Q:VK}{ds:List D}{vs:List V}(hM:RelM fa X.K μ H M)(r:aG fa X.K μ H ds vs)(h:a7 fa X.K μ H Q (.tup ds) M):∀p,H p=none->Q (.ref p) (upd H p (.tup vs)):=fun p hp=>
 h (.ref p) _ μ (Ext.alloc hM hp) (hM.alloc hp) ⟨p,vs,rfl,.of bt,r.ext (Ext.alloc hM hp)⟩
theorem cX:sz=sizeLine:=by rw [sizeLine_eq];rfl
theorem zV:bz X (binaryOp .Add) (fun x y H Q=>∃a b ys,x=.ref a/\y=.ref b/\c9 X.K H a []/\c9 X.K H b ys/\Q (.ref b) H):=by
 intro pins s σ H x y v u Q I rx ry h
 obtain ⟨a,b,ys,rfl,rfl,ha,hb,q⟩:=h
 cases rx
 cases ry
 obtain ⟨its,r1,p1,_⟩:=I.tuple ha
 obtain ⟨its2,r2,p2,_⟩:=I.tuple hb
 cases r1
 obtain ⟨⟨cls,dd,data,sl⟩,ho,hc,n,hd⟩:=id p1
 obtain ⟨⟨cls2,dd2,data2,sl2⟩,ho2,hc2,n2,hd2⟩:=id p2
 simp only at hc hd hc2 hd2
 subst hc hd hc2 hd2
 exact concat_meets ⟨_,ho,rfl⟩ ⟨_,ho2,rfl⟩ noFill_tuple_add seq_tuple_add PySem.F.slot_tuple_add PySem.F.entry_tuple_add (PySem.F.args_tuple_add_2 _ _)
  (tuple_addW0 a b #[] its2.toArray n n2 dd dd2 sl sl2 rfl) ⟨ho,ho2,⟨.ref b,H,I,rfl,q⟩⟩
theorem AR {m:Bool}{x y:V}{v u:LI}{dx dy:D}{Q:VK}(I:Inv X pins σ H s)(hM:RelM fa X.K μ H M)(h1:Rep fa X.K μ H dx x)(h2:Rep fa X.K μ H dy y)(rx:RelV x v)(ry:RelV y u)
 (h:ah (match jc M dx,jc M dy with|some x,some y=>ba m (x++y) M|_,_=>.bad) (a7 fa X.K μ H Q)):wpAny (model X.prog X.w) X.A (binaryOp .Add v u) (EP X pins σ Q) X.xe s:=by
 cases e1:jc M dx with
 |none=>rw [e1] at h;exact h.elim
 | some xs =>
   cases e2:jc M dy with
   |none=>rw [e1,e2] at h;exact h.elim
   | some ys =>
     rw [e1,e2] at h
     obtain ⟨a,vs,rfl,ha,ra⟩:=i7 hM h1 e1
     obtain ⟨b,ws,rfl,hb,rb⟩:=i7 hM h2 e2
     obtain ⟨hz,k⟩:=fO hM (ra.append rb) h
     refine F6 pins s σ H _ _ v u Q I rx ry ⟨a,b,vs,ws,rfl,rfl,ha,hb,?_,k⟩
     rw [ra.length,rb.length,<- ME,<- cX];exact hz
theorem Jt (m:Bool):bz X (binaryOp .Add) (kZ fa X.K m .add):=by
 intro pins s σ H x y v u Q I rx ry h
 obtain ⟨μ,M,dx,dy,hM,h1,h2,h⟩:=h
 have hi:∀i j,dx=.int i->dy=.int j->wpAny (model X.prog X.w) X.A (binaryOp .Add v u) (EP X pins σ Q) X.xe s:=fun i j e1 e2=>by
  subst e1 e2
  exact F7 pins s σ H x y v u Q I rx ry ⟨i,j,h1,h2,aZ (v:=.int (i+j)) hM h rfl⟩
 have hs:∀i j,dx=.str i->dy=.str j->wpAny (model X.prog X.w) X.A (binaryOp .Add v u) (EP X pins σ Q) X.xe s:=fun i j e1 e2=>by
  subst e1 e2
  have h:ah (if i.cps.size+j.cps.size<=sz then .ok (.str ⟨i.cps++j.cps⟩) M else .bad) (a7 fa X.K μ H Q):=h
  split at h
  ·next hz=>exact uY pins s σ H x y v u Q I rx ry ⟨i,j,h1,h2,by rw [<- cX];exact hz,aZ (v:=.str ⟨i.cps++j.cps⟩) hM h rfl⟩
  ·exact h.elim
 have ht:∀i j,dx=.tup i->dy=.tup j->wpAny (model X.prog X.w) X.A (binaryOp .Add v u) (EP X pins σ Q) X.xe s:=fun i j e1 e2=>by
  subst e1 e2
  have h:ah (if (i++j).length<=sz then .ok (.tup (i++j)) M else .bad) (a7 fa X.K μ H Q):=h
  split at h
  ·next hz=>
   have h:a7 fa X.K μ H Q (.tup (i++j)) M:=h
   obtain ⟨a,vs,e1,ha,ra⟩:=id h1
   obtain ⟨b,ws,e2,hb,rb⟩:=id h2
   by_cases h0:i=[]
   ·subst h0
    obtain rfl:vs=[]:=ra
    exact zV pins s σ H x y v u Q I rx ry ⟨a,b,ws,e1,e2,ha,hb,aZ hM h ⟨b,ws,rfl,hb,rb⟩⟩
   ·have hv:vs≠[]:=fun z=>h0 (by have:=ra.length;rw [z] at this;exact NZ.mp this.symm)
    refine DF pins s σ H x y v u Q I rx ry ⟨a,b,vs,ws,e1,e2,ha,hb,hv,?_,fun z=>?_,fun _=>gL hM (ra.append rb) h⟩
    ·rw [ra.length,rb.length,<- ME,<- cX];exact hz
    ·subst z
     have ej:j=[]:=NZ.mp rb.length.symm
     subst ej
     exact aZ hM h ⟨a,vs,rfl,ha,by simpa using ra⟩
  ·exact h.elim
 cases dx<;>cases dy<;>first|exact hi _ _ rfl rfl|exact hs _ _ rfl rfl|exact ht _ _ rfl rfl|exact AR (m:=m) I hM h1 h2 rx ry h
theorem qW {op:Operator}{o:kO}{m:Bool}{C:Int->Int->Prop}{g:Int->Int->Int}(hr:bz X (binaryOp op) (rI C fun i j=>.int (g i j)))
 (hD:∀dx dy M (P:D->Mem->Prop),ah (fR m o dx dy M) P->∃i j,dx=.int i/\dy=.int j/\C i j/\P (.int (g i j)) M):bz X (binaryOp op) (kZ fa X.K m o):=ic hr fun x y H Q h=>by
 obtain ⟨μ,M,dx,dy,hM,h1,h2,h⟩:=h
 obtain ⟨i,j,rfl,rfl,c,q⟩:=hD dx dy M _ h
 exact ⟨i,j,h1,h2,c,aZ (v:=.int (g i j)) hM q rfl⟩
theorem Jo (m:Bool):bz X (binaryOp .Sub) (kZ fa X.K m .sub):=qW (C:=fun _ _=>True) (g:=fun i j=>i-j) (ic F0 fun x y H Q ⟨i,j,e1,e2,_,q⟩=>⟨i,j,e1,e2,q⟩) fun dx dy M P h=>by
 cases dx<;>cases dy<;>first|exact ⟨_,_,rfl,rfl,trivial,h⟩|exact h.elim
theorem Hu (m:Bool):bz X (binaryOp .FloorDiv) (kZ fa X.K m .fdiv):=qW DD fun dx dy M P h=>by
 have key:∀i j,dx=.int i->dy=.int j->∃i j,dx=.int i/\dy=.int j/\HL i j/\P (.int (i / j)) M:=fun i j e1 e2=>by
  subst e1 e2
  have h:ah (if 0<j/\j<1073741824 then .ok (.int (i / j)) M else .bad) P:=h
  split at h
  ·next c=>exact ⟨i,j,rfl,rfl,c,h⟩
  ·exact h.elim
 cases dx<;>cases dy<;>first|exact key _ _ rfl rfl|exact h.elim
theorem Jr (m:Bool):bz X (binaryOp .Mod) (kZ fa X.K m .mod):=qW F4 fun dx dy M P h=>by
 have key:∀i j,dx=.int i->dy=.int j->∃i j,dx=.int i/\dy=.int j/\0<j/\P (.int (i % j)) M:=fun i j e1 e2=>by
  subst e1 e2
  have h:ah (if 0<j then .ok (.int (i % j)) M else .bad) P:=h
  split at h
  ·next c=>exact ⟨i,j,rfl,rfl,c,h⟩
  ·exact h.elim
 cases dx<;>cases dy<;>first|exact key _ _ rfl rfl|exact h.elim
theorem Jp (m:Bool):bz X (binaryOp .Pow) (kZ fa X.K m .pow):=qW F2 fun dx dy M P h=>by
 have key:∀i j,dx=.int i->dy=.int j->∃i j,dx=.int i/\dy=.int j/\HK i j/\P (.int (i^j.toNat)) M:=fun i j e1 e2=>by
  subst e1 e2
  have h:ah (if 0<=j/\j<=1000000/\i.natAbs<2^64 then .ok (.int (i^j.toNat)) M else .bad) P:=h
  split at h
  ·next c=>exact ⟨i,j,rfl,rfl,c,h⟩
  ·exact h.elim
 cases dx<;>cases dy<;>first|exact key _ _ rfl rfl|exact h.elim
theorem zH {m:Bool}{x y:V}{v u:LI}{dx:D}{j:Int}{Q:VK}(I:Inv X pins σ H s)(hM:RelM fa X.K μ H M)(h1:Rep fa X.K μ H dx x)(h2:Rep fa X.K μ H (.int j) y)(rx:RelV x v)(ry:RelV y u)
 (h:ah (match jc M dx with|some x=>if x.length*j.toNat<=sz/\-(2^63)<=j/\j<2^63 then ba m (List.replicate j.toNat x).flatten M else .bad|none=>.bad) (a7 fa X.K μ H Q)) :
 wpAny (model X.prog X.w) X.A (binaryOp .Mult v u) (EP X pins σ Q) X.xe s:=by
 cases e1:jc M dx with
 |none=>rw [e1] at h;exact h.elim
 | some xs =>
   rw [e1] at h
   simp only at h
   split at h
   ·next c=>
    obtain ⟨a,vs,rfl,ha,ra⟩:=i7 hM h1 e1
    obtain ⟨hz,k⟩:=fO hM (ra.rep j.toNat) h
    exact F1 pins s σ H _ _ v u Q I rx ry ⟨a,j,vs,rfl,h2,ha,c.2.1,c.2.2,by rw [ra.length,<- cX];exact c.1,k⟩
   ·exact h.elim
end
end LD
namespace LD
open PySem PySem.Spec PyProof.Rows L2 PySem.Builtin
open PySem.Sem (wp)
theorem ni:fillsNumberSlot (.type "tuple") "mul"=pure false:=
 PySem.fillsNumberSlot_seq (id:="tuple.__mul__") (r:=some (.builtin "tuple.__rmul__")) F.slot_tuple_mul.lookup (by decide +kernel) F.slot_tuple_rmul.lookup (by decide +kernel)
theorem rO:seqRepeat? (.type "tuple")=pure (some (.builtin "tuple.__mul__")):=by
 unfold seqRepeat?
 rw [PySem.seqSlot_of (T:="tuple") (name:="__mul__") (id:="tuple.__mul__") F.slot_tuple_mul.lookup (by decide +kernel),PySem.seqSlot_of (T:="tuple") (name:="__rmul__") (id:="tuple.__rmul__") F.slot_tuple_rmul.lookup (by decide +kernel)]
 rfl
theorem oR (a:Int)(t:Tok)(l:Addr)(items:Array LI)(n:Nat)(dd:Option Addr)(sl:Array (Option LI)) :
 Meets (Builtin.«int.__rmul__» ⟨[.int a t,.ref l],[]⟩) (fun _ R s=>s.heap.get? l=some {cls:=.type "tuple",dict:=dd,data:=.seq items n,slots:=sl}/\R (.ok (.ret Value.notImplemented)) s):=
 .of_wp fun prog w A R s h=>by obtain ⟨hp,g,d,tk,os⟩:=s;obtain ⟨hl,h⟩:=h;wp_walk using wpAny_loadPart' hl;exact ⟨_,rfl,h⟩
theorem uX {x:Int}(h0:-(2^63)<=x)(h1:x<2^63):(decide (x < -2^63)||decide (x≥2^63))=false:=by
 rw [decide_eq_false (by omega),decide_eq_false (by omega)];rfl
theorem oY (l:Addr)(items:Array LI)(n:Nat)(dd:Option Addr)(sl:Array (Option LI))(x:Int)(u:Tok)(h0:-(2^63)<=x)(h1:x<2^63)(hc:(items.isEmpty||x==1)=true) :
 Meets (Builtin.«tuple.__mul__» ⟨[.ref l,.int x u],[]⟩) (fun _ R s=>s.heap.get? l=some {cls:=.type "tuple",dict:=dd,data:=.seq items n,slots:=sl}/\R (.ok (.ret (.ref l))) s):=
 .of_wp fun prog w A R s h=>by
  obtain ⟨hp,g,d,tk,os⟩:=s;obtain ⟨hl,h⟩:=h;have f1:=AutoSeq1.idx_int
  wp_walk using wpAny_loadPart' hl
  refine wpAny_ite_false (by rw [uX h0 h1];rfl) ?_
  wp_walk using wpAny_loadPart' hl
  exact ⟨_,rfl,h⟩
theorem oZ (l:Addr)(items:Array LI)(n:Nat)(dd:Option Addr)(sl:Array (Option LI))(x:Int)(u:Tok)(h0:-(2^63)<=x)(h1:x<2^63)(hc:(items.isEmpty||x==1)=false)(hc1:(decide (x<=0)||items.isEmpty)=true) :
 Meets (Builtin.«tuple.__mul__» ⟨[.ref l,.int x u],[]⟩) (fun _ R s=>s.heap.get? l=some {cls:=.type "tuple",dict:=dd,data:=.seq items n,slots:=sl}/\R (.ok (.ret (.ref s.heap.objs.size))) {s with heap:=s.heap.push {cls:=Value.type "tuple",data:=Data.seq #[]},toks:=s.toks}):=
 .of_wp fun prog w A R s h=>by
  obtain ⟨hp,g,d,tk,os⟩:=s;obtain ⟨hl,h⟩:=h;have f1:=AutoSeq1.idx_int
  wp_walk using wpAny_loadPart' hl
  refine wpAny_ite_false (by rw [uX h0 h1];rfl) ?_
  wp_walk using wpAny_loadPart' hl
  exact ⟨_,rfl,h⟩
theorem pb (l:Addr)(items:Array LI)(n:Nat)(dd:Option Addr)(sl:Array (Option LI))(x:Int)(u:Tok)(h0:-(2^63)<=x)(h1:x<2^63)(hc:(items.isEmpty||x==1)=false)(hc1:(decide (x<=0)||items.isEmpty)=false)
 (hs:(items.size:Int)*x<=16777216) (hs2:(List.foldl (fun x1 x2=>x1++x2) #[] (List.replicate x.toNat items)).size<=sizeLine) :
 Meets (Builtin.«tuple.__mul__» ⟨[.ref l,.int x u],[]⟩) (fun _ R s=>s.heap.get? l=some {cls:=.type "tuple",dict:=dd,data:=.seq items n,slots:=sl}/\R (.ok (.ret (.ref s.heap.objs.size))) {s with heap:=s.heap.push {cls:=Value.type "tuple",data:=Data.seq (List.foldl (fun x1 x2=>x1++x2) #[] (List.replicate x.toNat items))},toks:=s.toks}):=
 .of_wp fun prog w A R s h=>by
  obtain ⟨hp,g,d,tk,os⟩:=s;obtain ⟨hl,h⟩:=h;have f1:=AutoSeq1.idx_int
  wp_walk using wpAny_loadPart' hl
  refine wpAny_ite_false (by rw [uX h0 h1];rfl) ?_
  wp_walk using wpAny_loadPart' hl
  refine wpAny_ite_false (decide_eq_false (by omega)) ?_
  wp_walk using wpAny_loadPart' hl
  refine wpAny_ite_false (decide_eq_false (by unfold Tuple.tupleTooMany;rw [sizeLine_eq];simp;omega)) ?_
  wp_walk using wpAny_loadPart' hl
  exact ⟨_,rfl,h⟩
section
variable {fa:Fa}{X:Cx}{μ:Mu}{H:Hp}{σ:L2.St}{pins:List (Addr×Obj)}{s:LM}{M:Mem}
theorem qc (its:List LI)(m:Nat):List.foldl (fun x1 x2=>x1++x2) #[] (List.replicate m its.toArray)=(List.replicate m its).flatten.toArray:=by
 have:=foldl_rep its m []
 rw [NB] at this
 exact this
theorem Dy:bz X (binaryOp .Mult) (fun x y H Q=>∃l k xs,x=.ref l/\y=.int k/\c9 X.K H l xs/\-(2^63)<=k/\k<2^63/\xs.length*k.toNat<=sz/\
 ((List.replicate k.toNat xs).flatten=xs->Q (.ref l) H)/\∀p,H p=none->Q (.ref p) (upd H p (.tup (List.replicate k.toNat xs).flatten))):=by
 intro pins s σ H x y v u Q I rx ry h
 obtain ⟨l,k,xs,rfl,rfl,hq,h1,h2,hz,q1,q2⟩:=h
 cases rx
 obtain ⟨t,rfl⟩:=ry
 obtain ⟨its,r,p,hzz⟩:=I.tuple hq
 have hl:=r.length
 obtain ⟨⟨cls,dd,data,sl⟩,ho,hc,n,hd⟩:=id p
 simp only at hc hd
 subst hc hd
 refine wpAny_binaryOp_repeat_ref (T:="tuple") (U:="int") (by decide) ⟨_,ho,rfl⟩ (fun s'=>typeIs_int s' k t) ni F.fills_int_mul F.slot_int_rmul rO F.slot_int_index.lookup
  (call_meets F.slot_int_rmul (typeIs_int s k t) F.entry_int_rmul (F.args_int_rmul_2 _ _) (oR k t l its.toArray n dd sl) ⟨ho,rfl,⟨_,ho,rfl⟩,?_⟩)
 have new:∀(its':List LI),Vals (List.replicate k.toNat xs).flatten its'->EP X pins σ Q (.ref s.heap.objs.size) {s with heap:=s.heap.push {cls:=Value.type "tuple",data:=Data.seq its'.toArray}}:=fun its' r'=>by
  refine ⟨.ref s.heap.objs.size,_,I.laid (t':=s.toks) (o:=.tup (List.replicate k.toNat xs).flatten) (fun b ob q=>LK _ q) (LP _) ?_,rfl,q2 _ (I.hok.fresh (LP _))⟩
  exact ⟨by rw [len_rep,Nat.mul_comm,<- cX];exact hz,_,r',IsTup.new _ _⟩
 by_cases c1:(its.toArray.isEmpty||k==1)=true
 ·refine call_meets F.slot_tuple_mul ⟨_,ho,rfl⟩ F.entry_tuple_mul (F.args_tuple_mul_2 _ _) (oY l its.toArray n dd sl k t h1 h2 c1) ⟨ho,⟨.ref l,H,I,rfl,q1 ?_⟩⟩
  rcases Bool.or_eq_true_iff.mp c1 with z|z
  ·have e:its=[]:=by simpa using z
   subst e
   have e2:xs=[]:=NZ.mp hl
   subst e2
   simp
  ·have e:k=1:=by simpa using z
   subst e
   simp
 ·have c1':(its.toArray.isEmpty||k==1)=false:=by simpa using c1
  by_cases c2:(decide (k<=0)||its.toArray.isEmpty)=true
  ·refine call_meets F.slot_tuple_mul ⟨_,ho,rfl⟩ F.entry_tuple_mul (F.args_tuple_mul_2 _ _) (oZ l its.toArray n dd sl k t h1 h2 c1' c2) ⟨ho,new [] ?_⟩
   have hk:k<=0:=by
    rcases Bool.or_eq_true_iff.mp c2 with z|z
    ·simpa using z
    ·rw [z] at c1';cases c1'
   have hk0:k.toNat=0:=by omega
   rw [hk0];exact .nil
  ·have c2':(decide (k<=0)||its.toArray.isEmpty)=false:=by simpa using c2
   have hk:0<k:=by
    have:=(Bool.or_eq_false_iff.mp c2').1
    simpa using this
   have hs:(its.toArray.size:Int)*k<=16777216:=by
    have e1:(its.toArray.size:Int)*k=((xs.length*k.toNat:Nat):Int):=by
     rw [LQ,<- hl,Int.natCast_mul,Int.toNat_of_nonneg (by omega)]
    rw [e1]
    have:xs.length*k.toNat<=16777216:=hz
    omega
   have hs2:(List.foldl (fun x1 x2=>x1++x2) #[] (List.replicate k.toNat its.toArray)).size<=sizeLine:=by
    rw [qc,LQ,len_rep,Nat.mul_comm,<- hl,<- cX];exact hz
   refine call_meets F.slot_tuple_mul ⟨_,ho,rfl⟩ F.entry_tuple_mul (F.args_tuple_mul_2 _ _) (pb l its.toArray n dd sl k t h1 h2 c1' c2' hs hs2) ⟨ho,?_⟩
   rw [qc]
   exact new _ (r.rep k.toNat)
theorem Jq (m:Bool):bz X (binaryOp .Mult) (kZ fa X.K m .mul):=by
 intro pins s σ H x y v u Q I rx ry h
 obtain ⟨μ,M,dx,dy,hM,h1,h2,h⟩:=h
 have hi:∀i j,dx=.int i->dy=.int j->wpAny (model X.prog X.w) X.A (binaryOp .Mult v u) (EP X pins σ Q) X.xe s:=fun i j e1 e2=>by
  subst e1 e2
  have h:ah (if (-(2^64)<i/\i<2^64)\/(-(2^64)<j/\j<2^64) then .ok (.int (i*j)) M else .bad) (a7 fa X.K μ H Q):=h
  split at h
  ·next c=>exact F3 pins s σ H x y v u Q I rx ry ⟨i,j,h1,h2,c,aZ (v:=.int (i*j)) hM h rfl⟩
  ·exact h.elim
 have ht:∀i j,dx=.tup i->dy=.int j->wpAny (model X.prog X.w) X.A (binaryOp .Mult v u) (EP X pins σ Q) X.xe s:=fun i j e1 e2=>by
  subst e1 e2
  have h:ah (if i.length*j.toNat<=sz/\-(2^63)<=j/\j<2^63 then .ok (.tup (List.replicate j.toNat i).flatten) M else .bad) (a7 fa X.K μ H Q):=h
  split at h
  ·next c=>
   have h:a7 fa X.K μ H Q (.tup (List.replicate j.toNat i).flatten) M:=h
   obtain ⟨a,vs,e1,ha,ra⟩:=id h1
   refine Dy pins s σ H x y v u Q I rx ry ⟨a,j,vs,e1,h2,ha,c.2.1,c.2.2,by rw [ra.length];exact c.1,fun z=>?_,gL hM (ra.rep j.toNat) h⟩
   refine aZ hM h ⟨a,vs,rfl,ha,?_⟩
   have:=ra.rep j.toNat
   rw [z] at this
   exact this
  ·exact h.elim
 have hl:∀j,dy=.int j->ah (match jc M dx with|some x=>if x.length*j.toNat<=sz/\-(2^63)<=j/\j<2^63 then ba m (List.replicate j.toNat x).flatten M else .bad|none=>.bad) (a7 fa X.K μ H Q)->
  wpAny (model X.prog X.w) X.A (binaryOp .Mult v u) (EP X pins σ Q) X.xe s:=fun j e1 h'=>by
  subst e1
  exact zH (m:=m) I hM h1 h2 rx ry h'
 cases dy with
 |int j=>cases dx<;>first|exact hi _ _ rfl rfl|exact ht _ _ rfl rfl|exact hl _ rfl h
 |_=>cases dx<;>exact h.elim
noncomputable def binOp:kO->Operator
 |.add=>.Add|.sub=>.Sub|.mul=>.Mult|.fdiv=>.FloorDiv|.mod=>.Mod|.pow=>.Pow
theorem Js (m:Bool):∀o:kO,bz X (binaryOp (binOp o)) (kZ fa X.K m o)
 |.add=>Jt m|.sub=>Jo m|.mul=>Jq m|.fdiv=>Hu m|.mod=>Jr m|.pow=>Jp m
end
end LD
namespace LD
open PySem PySem.Spec PyProof.Rows L2
section
variable {fa:Fa}{X:Cx}{μ:Mu}{H:Hp}{σ:L2.St}{pins:List (Addr×Obj)}{s:LM}{M:Mem}
theorem GL {r r':R2}(h:j3 X r)(i:∀x y H Q,r' x y H Q->r x y H Q):j3 X r':=fun value slice pins s σ H x y v u Q I rx ry q hs=>h value slice pins s σ H x y v u Q I rx ry (i x y H Q q) hs
noncomputable def rIdx (fa:Fa)(K:LH):R2:=fun x y H Q=>∃μ M dx dy d,RelM fa K μ H M/\Rep fa K μ H dx x/\Rep fa K μ H dy y/\bO dx dy M=some d/\a7 fa K μ H Q d M
theorem sA (n:Nat)(i:Int):LD.bL n i=L2.bL n i:=rfl
theorem IH:j3 X (rIdx fa X.K):=GL GK fun x y H Q h=>by
 obtain ⟨μ,M,dx,dy,d,hM,h1,h2,e,q⟩:=h
 have gen:∀i,dy=.int i->((bH M dx).bind fun ds=>(LD.bL ds.length i).bind fun j=>ds[j]?)=some d->Fy X.K x y H Q:=fun i e0 e'=>by
  subst e0
  clear e
  have e:=e'
  clear e'
  cases e1:bH M dx with
  |none=>rw [e1] at e;cases e
  | some ds =>
    rw [e1,Option.bind_some] at e
    obtain ⟨a,vs,rfl,hq,r⟩:=i6 hM h1 e1
    cases e2:LD.bL ds.length i with
    |none=>rw [e2] at e;cases e
    | some j =>
      rw [e2,Option.bind_some] at e
      obtain ⟨v,hv,rv⟩:=r.get e
      have he:qA vs i=some v:=by
       unfold qA
       rw [r.length,<- sA,e2];exact hv
      rcases hq with hq|hq
      ·exact .inl ⟨a,vs,i,v,rfl,h2,hq,he,aZ hM q rv⟩
      ·exact .inr (.inl ⟨a,vs,i,v,rfl,h2,hq,he,aZ hM q rv⟩)
 have str:∀z i,dx=.str z->dy=.int i->Fy X.K x y H Q:=fun z i e1 e2=>by
  subst e1 e2
  have e:(if z.cps.size<=sz then (LD.bL z.cps.size i).bind fun j=>(z.cps[j]?).map fun c=>D.str ⟨#[c]⟩ else none)=some d:=e
  split at e
  ·next hz=>
   cases e2:LD.bL z.cps.size i with
   |none=>rw [e2] at e;cases e
   | some j =>
     rw [e2,Option.bind_some] at e
     cases e3:z.cps[j]? with
     |none=>rw [e3] at e;cases e
     | some c =>
       rw [e3] at e
       have e4:D.str ⟨#[c]⟩=d:=LO e
       subst e4
       refine .inr (.inr ⟨z,i,c,h1,h2,by rw [<- cX];exact hz,?_,aZ hM q rfl⟩)
       unfold qA
       rw [show z.cps.toList.length=z.cps.size by simp,<- sA,e2]
       simpa using e3
  ·cases e
 cases dy with
 |int i=>cases dx<;>first|exact str _ _ rfl rfl|exact gen _ rfl e
 |_=>cases dx<;>cases (show (none:Option D)=some d from e)
theorem E5 {r r':V->Option Int->Option Int->Hp->VK->Prop}(h:kN X r)(i:∀x lo hi H Q,r' x lo hi H Q->r x lo hi H Q):kN X r':=fun pins s σ H x v vl vu lo hi sl Q I rx hs pl pu q=>h pins s σ H x v vl vu lo hi sl Q I rx hs pl pu (i x lo hi H Q q)
noncomputable def nW:D->Option (Option Int)
 |.non=>some none
 |.int i=>some (some i)
 |_=>none
theorem mZ (n d:Nat)(x:D):LD.aI n d x=(nW x).map (HT.aI n d):=by
 cases x<;>rfl
theorem rL:kN X (fun x lo hi H Q=>∃a xs,x=.ref a/\c9 X.K H a xs/\(HT.aI xs.length 0 lo=0/\HT.aI xs.length xs.length hi=xs.length)/\Q (.ref a) H):=by
 intro pins s σ H x v vl vu lo hi sl Q I rx hs pl pu h
 obtain ⟨a,xs,rfl,hx,hw,q⟩:=h
 cases rx
 obtain ⟨its,r,ht,hz⟩:=I.tuple hx
 refine ⟨"tuple",_,Mv.lookup,ht.typeIs,?_⟩
 have hlen:its.toArray.size=xs.length:=by rw [LQ];exact r.length.symm
 rw [<- hlen] at hw
 obtain ⟨os,hos,hcs,hds⟩:=id hs
 have hTs:s.TypeIs (.ref sl) "slice":=⟨os,hos,hcs⟩
 unfold getItem
 try with_reducible refine tqo ?_
 first|refine tqa (tqb ?_)|skip
 refine tqa (wpAny_sequenceKey ht.typeIs (by decide) ?_)
 refine tqa (wpAny_callSpecial?_slot (name:=Str.ofString "__getitem__") ht.typeIs Mv
  (wpAny_call_entry Mv ht.typeIs entry_tuple_getitem ?_ (args_tuple_getitem _ _)))
 show wpAny _ _ (Builtin.Tuple.tupleItemsOf (.ref a) >>= _) _ _ s
 refine tqa (tupleItemsOf_ ht ?_)
 refine tqa (wpAny_typeOf hTs ?_)
 rw [if_pos (by decide)]
 refine tqa (HT.i4 hs pl pu ?_)
 have hyes:(((HT.aI its.toArray.size 0 lo:Nat):Int)==0&&(1:Int)==1&&(HT.aI its.toArray.size its.toArray.size hi-HT.aI its.toArray.size 0 lo)==its.toArray.size)=true:=by
  rw [hw.1,hw.2];simp
 show wpAny _ _ (if (((HT.aI its.toArray.size 0 lo:Nat):Int)==0&&(1:Int)==1&&(HT.aI its.toArray.size its.toArray.size hi-HT.aI its.toArray.size 0 lo)==its.toArray.size)=true then _ else _) _ _ s
 rw [if_pos hyes]
 refine tqa (m:=Builtin.Tuple.tupleIsExact (.ref a)) ?_
 unfold Builtin.Tuple.tupleIsExact
 refine tqa (wpAny_typeOf ht.typeIs ?_)
 refine tqb ?_
 rw [if_pos (by decide)]
 exact tqa (wpAny_rule (tqb ⟨_,rfl,tqb ⟨.ref a,H,I,rfl,q⟩⟩))
noncomputable def Kk (fa:Fa)(K:LH)(m:Bool):V->Option Int->Option Int->Hp->VK->Prop:=fun x lo hi H Q=>∃μ M dx dl dh,RelM fa K μ H M/\Rep fa K μ H dx x/\nW dl=some lo/\nW dh=some hi/\ah (fQ m dx dl dh M) (a7 fa K μ H Q)
theorem C1 (m:Bool):kN X (Kk fa X.K m):=by
 refine E5 (C3.or (E3.or rL)) fun x lo hi H Q h=>?_
 obtain ⟨μ,M,dx,dl,dh,hM,h1,e1,e2,h⟩:=h
 have gen:ah (match eG M dx with
  | some xs => match LD.aI xs.length 0 dl, LD.aI xs.length xs.length dh with
    |some l,some h=>ba m (cut xs l h) M
    |_,_=>.bad
  |none=>.bad) (a7 fa X.K μ H Q)->Ft X.K x lo hi H Q:=fun h=>by
  cases e:eG M dx with
  |none=>rw [e] at h;exact h.elim
  | some xs =>
    rw [e] at h
    simp only [mZ,e1,e2,Option.map_some] at h
    obtain ⟨a,vs,rfl,hq,r⟩:=bA hM h1 e
    have hl:=r.length
    obtain ⟨_,k⟩:=fO hM ((r.drop (HT.aI xs.length 0 lo)).take (HT.aI xs.length xs.length hi-HT.aI xs.length 0 lo)) h
    refine ⟨a,vs,rfl,hq,?_⟩
    unfold lJ
    rw [hl]
    exact k
 have tup:∀xs,dx=.tup xs->Fs X.K x lo hi H Q\/∃a xs,x=.ref a/\c9 X.K H a xs/\(HT.aI xs.length 0 lo=0/\HT.aI xs.length xs.length hi=xs.length)/\Q (.ref a) H:=fun xs e=>by
  subst e
  have h:ah (match LD.aI xs.length 0 dl,LD.aI xs.length xs.length dh with
   |some l,some h=>.ok (.tup (cut xs l h)) M
   |_,_=>.bad) (a7 fa X.K μ H Q):=h
  simp only [mZ,e1,e2,Option.map_some] at h
  have h:a7 fa X.K μ H Q (.tup (cut xs (HT.aI xs.length 0 lo) (HT.aI xs.length xs.length hi))) M:=h
  obtain ⟨a,vs,rfl,hq,r⟩:=h1
  have hl:=r.length
  by_cases hw:HT.aI vs.length 0 lo=0/\HT.aI vs.length vs.length hi=vs.length
  ·refine .inr ⟨a,vs,rfl,hq,hw,?_⟩
   rw [hl] at hw
   have e3:cut xs (HT.aI xs.length 0 lo) (HT.aI xs.length xs.length hi)=xs:=by rw [hw.1,hw.2];simp [cut]
   rw [e3] at h
   exact aZ hM h ⟨a,vs,rfl,hq,r⟩
  ·refine .inl ⟨a,vs,rfl,hq,hw,?_⟩
   have k:=gL hM ((r.drop (HT.aI xs.length 0 lo)).take (HT.aI xs.length xs.length hi-HT.aI xs.length 0 lo)) h
   unfold lJ
   rw [hl]
   exact k
 cases dx<;>first|exact .inr (tup _ rfl)|exact .inl (gen h)
noncomputable def m7 (fa:Fa)(K:LH)(f:tm):List V->Hp->VK->Prop:=fun vs H Q=>∃μ M ds,RelM fa K μ H M/\aG fa K μ H ds vs/\ah (dj f ds M) (a7 fa K μ H Q)
theorem nR {d:D}{vs:List V}{K:LH}(h:aG fa K μ H [d] vs):∃v,vs=[v]/\Rep fa K μ H d v:=by
 obtain ⟨v,r,rfl,h1,h2⟩:=h
 obtain rfl:r=[]:=h2
 exact ⟨v,rfl,h1⟩
theorem IQ:cF X (.builtin "len") (m7 fa X.K .len):=jh (sT.or sS) fun vs H Q h=>by
 obtain ⟨μ,M,ds,hM,r,h⟩:=h
 match ds,r,h with
 |[],_,h=>exact h.elim
 |d::_::_,_,h=>cases d<;>exact h.elim
 | [d], r, h =>
   obtain ⟨v,rfl,hv⟩:=nR r
   have gen:ah (match bH M d with|some xs=>.ok (.int xs.length) M|none=>.bad) (a7 fa X.K μ H Q)->∃p ys,[v]=[.ref p]/\(b9 X.K H p ys\/c9 X.K H p ys)/\Q (.int ys.length) H:=fun h=>by
    cases e:bH M d with
    |none=>rw [e] at h;exact h.elim
    | some xs =>
      rw [e] at h
      obtain ⟨a,vs,rfl,hq,r⟩:=i6 hM hv e
      refine ⟨a,vs,rfl,hq,?_⟩
      rw [r.length]
      exact aZ (v:=.int xs.length) hM h rfl
   have str:∀x,d=.str x->∃z,[v]=[V.str z]/\z.length<=sizeLine/\Q (.int z.length) H:=fun x e=>by
    subst e
    have h:ah (if x.cps.size<=sz then .ok (.int x.cps.size) M else .bad) (a7 fa X.K μ H Q):=h
    split at h
    ·next c=>exact ⟨x,by rw [show v=.str x from hv],by rw [<- cX];exact c,aZ (v:=.int x.cps.size) hM h rfl⟩
    ·exact h.elim
   cases d<;>first|exact .inr (str _ rfl)|exact .inl (gen h)
theorem D3:cF X (.type "tuple") (m7 fa X.K .tuple):=jh qI fun vs H Q h=>by
 obtain ⟨μ,M,ds,hM,r,h⟩:=h
 match ds,r,h with
 |[],_,h=>exact h.elim
 |d::_::_,_,h=>cases d<;>exact h.elim
 | [d], r, h =>
   obtain ⟨v,rfl,hv⟩:=nR r
   have gen:ah (match eG M d with|some xs=>.ok (.tup xs) M|none=>.bad) (a7 fa X.K μ H Q)->∃p ys,[v]=[.ref p]/\((b9 X.K H p ys/\∀l,H l=none->Q (.ref l) (upd H l (.tup ys)))\/(c9 X.K H p ys/\Q (.ref p) H)):=fun h=>by
    cases e:eG M d with
    |none=>rw [e] at h;exact h.elim
    | some xs =>
      rw [e] at h
      obtain ⟨a,vs,rfl,hq,r⟩:=bA hM hv e
      exact ⟨a,vs,rfl,.inl ⟨hq,gL hM r h⟩⟩
   have tup:∀x,d=.tup x->∃p ys,[v]=[.ref p]/\((b9 X.K H p ys/\∀l,H l=none->Q (.ref l) (upd H l (.tup ys)))\/(c9 X.K H p ys/\Q (.ref p) H)):=fun x e=>by
    subst e
    obtain ⟨a,vs,rfl,hq,r⟩:=id hv
    exact ⟨a,vs,rfl,.inr ⟨hq,aZ hM h hv⟩⟩
   cases d<;>first|exact tup _ rfl|exact gen h
theorem GZ (m:Bool):cF X (.type "list") (m7 fa X.K (.list m)):=jh sR fun vs H Q h=>by
 obtain ⟨μ,M,ds,hM,r,h⟩:=h
 match ds,r,h with
 |[],_,h=>exact h.elim
 |_::_::_,_,h=>exact h.elim
 | [d], r, h =>
   obtain ⟨v,rfl,hv⟩:=nR r
   have h:ah (match bH M d with|some xs=>ba m xs M|none=>.bad) (a7 fa X.K μ H Q):=h
   cases e:bH M d with
   |none=>rw [e] at h;exact h.elim
   | some xs =>
     rw [e] at h
     obtain ⟨a,vs,rfl,hq,r⟩:=i6 hM hv e
     obtain ⟨_,k⟩:=fO hM r h
     exact ⟨a,vs,rfl,hq,k⟩
end
end LD
namespace LD
open PySem PySem.Spec PyProof.Rows L2
section
variable {fa:Fa}{X:Cx}{μ:Mu}{H:Hp}{σ:L2.St}{pins:List (Addr×Obj)}{s:LM}{M:Mem}
theorem J1 {d:D}{v:V}{k:Bool}(hM:RelM fa X.K μ H M)(h:Rep fa X.K μ H d v)(e:jF M d=some k):AX X.K v H k:=by
 cases d with
 |non=>obtain rfl:v=.non:=h;exact (LO e).symm
 |bl b=>obtain rfl:v=.bl b:=h;exact (LO e).symm
 |int i=>obtain rfl:v=.int i:=h;exact (LO e).symm
 | str x =>
   obtain rfl:v=.str x:=h
   have e:(if x.cps.size<=sz then some (x.cps.size != 0) else none)=some k:=e
   split at e
   ·next c=>
    refine ⟨by rw [<- cX];exact c,?_⟩
    rw [<- LO e]
    show (x.cps.size != 0)=((x.cps.size:Int) != 0)
    rw [NC];simp
   ·cases e
 | tup ds =>
   obtain ⟨a,vs,rfl,hq,r⟩:=h
   refine .inr (.inl ⟨vs,hq,?_⟩)
   rw [<- LO e]
   have:=r.length
   cases vs<;>cases ds<;>simp_all
 | lst ds =>
   obtain ⟨a,vs,rfl,hq,r⟩:=bA (ds:=ds) hM h rfl
   refine .inl ⟨vs,hq,?_⟩
   rw [<- LO e]
   have:=r.length
   cases vs<;>cases ds<;>simp_all
 | frz ds =>
   obtain ⟨a,vs,rfl,hq,r⟩:=bA (ds:=ds) hM h rfl
   refine .inl ⟨vs,hq,?_⟩
   rw [<- LO e]
   have:=r.length
   cases vs<;>cases ds<;>simp_all
 | cell c =>
   have e:(M[c]?).map (fun ds=>!ds.isEmpty)=some k:=e
   cases e1:M[c]? with
   |none=>rw [e1] at e;cases e
   | some ds =>
     rw [e1] at e
     obtain ⟨a,vs,rfl,hq,r⟩:=bA (ds:=ds) hM h e1
     refine .inl ⟨vs,hq,?_⟩
     rw [<- LO e]
     have:=r.length
     cases vs<;>cases ds<;>simp_all
 |fn f=>cases e
 |exc y p=>cases e
theorem w6:∀{ds:List D}{bs:List Bool}{vs:List V}{us:List LI},boolsOf ds=some bs->aG fa X.K μ H ds vs->Vals vs us->PyProof.Rows.LSm.BoolsAre us bs:=by
 intro ds
 induction ds with
 | nil =>
   intro bs vs us e h r
   obtain rfl:vs=[]:=h
   cases r;cases e
   exact .nil
 | cons d ds ih =>
   intro bs vs us e h r
   obtain ⟨v,vr,rfl,h1,h2⟩:=h
   cases r with
   | cons r1 r2 =>
     cases d with
     | bl b =>
       have e:(boolsOf ds).map (b::·)=some bs:=e
       cases e1:boolsOf ds with
       |none=>rw [e1] at e;cases e
       | some cs =>
         rw [e1] at e
         have e2:b::cs=bs:=LO e
         subst e2
         obtain rfl:v=.bl b:=h1
         obtain rfl:_=Value.bool b:=r1
         exact .cons b (ih e1 h2 r2)
     |_=>cases e
theorem pA:cF X (.builtin "all") (fun xs H Q=>∃μ ds bs p vs,xs=[.ref p]/\X.calm=true/\b9 X.K H p vs/\aG fa X.K μ H ds vs/\boolsOf ds=some bs/\Q (.bl (bs.all id)) H):=by
 intro pins s σ H xs us Q I r h
 obtain ⟨μ,ds,bs,p,vs,rfl,hc,hq,rl,eb,q⟩:=h
 obtain ⟨u,rfl,rx⟩:=vals1 r
 cases rx
 obtain ⟨its,rv,pl,hz⟩:=I.list hq
 have hb:=w6 eb rl rv
 have hlt:p<s.heap.objs.size:=pl.lt
 refine call_all_walk (wpAny_pyIter_list pl.isList ?_)
 refine ⟨s.heap.objs.size,[s.heap.objs.size,p],[s.heap.objs.size],its.toArray.size,_,_,fun i=>(bs[i]?).getD true,rfl,Walks.list (A:=X.A.in1) (I.ok.hd hc) _ p (MA hlt) its.toArray,
  ⟨⟨_,L6 _ rfl,rfl,rfl⟩,pl.isList.push _⟩,fun i v s' Q' E' hP hQ=>?_,fun h' tk hk=>?_⟩
 ·obtain ⟨b,e,rfl⟩:=hb.get i v (by simpa using hP)
  simp only [e,NO] at hQ
  exact tqp hQ
 ·have e:((List.range its.toArray.size).all fun i=>(bs[i]?).getD true)=bs.all id:=by
   rw [LQ,hb.length];exact PyProof.Rows.LSm.range_all bs
  rw [e]
  exact ⟨.bl _,H,I.kept (PyProof.Rows.LSm.kept_iter hk),rfl,q⟩
theorem zG:∀{ds:List D}{bs:List Int}{vs:List V}{us:List LI},intsOf ds=some bs->aG fa X.K μ H ds vs->Vals vs us->IntsAre us bs:=by
 intro ds
 induction ds with
 | nil =>
   intro bs vs us e h r
   obtain rfl:vs=[]:=h
   cases r;cases e
   exact .nil
 | cons d ds ih =>
   intro bs vs us e h r
   obtain ⟨v,vr,rfl,h1,h2⟩:=h
   cases r with
   | cons r1 r2 =>
     cases d with
     | int b =>
       have e:(intsOf ds).map (b::·)=some bs:=e
       cases e1:intsOf ds with
       |none=>rw [e1] at e;cases e
       | some cs =>
         rw [e1] at e
         have e2:b::cs=bs:=LO e
         subst e2
         obtain rfl:v=.int b:=h1
         obtain ⟨t,rfl⟩:=r1
         exact .cons b t (ih e1 h2 r2)
     |_=>cases e
theorem qJ:cF X (.builtin "sum") (fun xs H Q=>∃μ ds bs p vs,xs=[.ref p]/\X.calm=true/\b9 X.K H p vs/\aG fa X.K μ H ds vs/\intsOf ds=some bs/\Q (.int bs.sum) H):=by
 intro pins s σ H xs us Q I r h
 obtain ⟨μ,ds,ns,p,vs,rfl,hc,hq,rl,eb,q⟩:=h
 obtain ⟨u,rfl,rx⟩:=vals1 r
 cases rx
 obtain ⟨its,rv,pl,hz⟩:=I.list hq
 have hi:=zG eb rl rv
 obtain ⟨xs,hx⟩:=hi.allInts.items
 have hl':s.heap.IsList p (intItems xs):=hx ▸ pl.isList
 refine sum_intListG (I.ok.hd hc) hl' fun h' tk t' hk=>?_
 have e1:ns=xs.toList.map (·.1):=by
  rw [<- nums_intItems,<- hx]
  exact (show numsOf its.toArray.toList=ns from hi.numsOf).symm
 have e2:preSum (numAt xs) xs.size=ns.sum:=by
  rw [preSum_eq,MV (by simp),e1]
 rw [e2]
 exact ⟨.int _,H,I.kept hk,⟨t',rfl⟩,q⟩
theorem IS (hc:X.calm=true):cF X (.builtin "all") (m7 fa X.K .all):=jh (pA (fa:=fa)) fun vs H Q h=>by
 obtain ⟨μ,M,ds,hM,r,h⟩:=h
 match ds,r,h with
 |[],_,h=>exact h.elim
 |d::_::_,_,h=>exact h.elim
 | [d], r, h =>
   obtain ⟨v,rfl,hv⟩:=nR r
   have h:ah (match eG M d with|some xs=>(match boolsOf xs with|some bs=>.ok (.bl (bs.all id)) M|none=>.bad)|none=>.bad) (a7 fa X.K μ H Q):=h
   cases e:eG M d with
   |none=>rw [e] at h;exact h.elim
   | some xs =>
     rw [e] at h
     simp only at h
     cases e2:boolsOf xs with
     |none=>rw [e2] at h;exact h.elim
     | some bs =>
       rw [e2] at h
       obtain ⟨a,vs,rfl,hq,r⟩:=bA hM hv e
       exact ⟨μ,xs,bs,a,vs,rfl,hc,hq,r,e2,aZ (v:=.bl (bs.all id)) hM h rfl⟩
theorem IP (hc:X.calm=true):cF X (.builtin "sum") (m7 fa X.K .sum):=jh (qJ (fa:=fa)) fun vs H Q h=>by
 obtain ⟨μ,M,ds,hM,r,h⟩:=h
 match ds,r,h with
 |[],_,h=>exact h.elim
 |d::_::_,_,h=>exact h.elim
 | [d], r, h =>
   obtain ⟨v,rfl,hv⟩:=nR r
   have h:ah (match eG M d with|some xs=>(match intsOf xs with|some bs=>.ok (.int bs.sum) M|none=>.bad)|none=>.bad) (a7 fa X.K μ H Q):=h
   cases e:eG M d with
   |none=>rw [e] at h;exact h.elim
   | some xs =>
     rw [e] at h
     simp only at h
     cases e2:intsOf xs with
     |none=>rw [e2] at h;exact h.elim
     | some bs =>
       rw [e2] at h
       obtain ⟨a,vs,rfl,hq,r⟩:=bA hM hv e
       exact ⟨μ,xs,bs,a,vs,rfl,hc,hq,r,e2,aZ (v:=.int bs.sum) hM h rfl⟩
noncomputable def tyName:Ty->String
 |.int=>"int" | .bool=>"bool" | .str=>"str" | .tuple=>"tuple" | .list=>"list" | .own _=>""
noncomputable def Jx:D->String
 |.non=>"NoneType" | .bl _=>"bool" | .int _=>"int" | .str _=>"str" | .tup _=>"tuple" | _=>"list"
theorem HQ (t:Ty)(d:D)(b:Bool)(ht:∀c,t≠.own c)(e:dN t d=some b):PySem.W.kitOne X.K (.type (Jx d)) (.type (tyName t))=some b:=by
 cases t with
 |own c=>exact absurd rfl (ht c)
 |_=>cases d<;>first|(cases (show (none:Option Bool)=some b from e))|(have e':=LO e;subst e';(first|rfl|decide +kernel))
theorem yV {d:D}{v:V}{b:Bool}{t:Ty}(hM:RelM fa X.K μ H M)(h:Rep fa X.K μ H d v)(e:dN t d=some b)(I:Inv X pins σ H s){u c:LI}(r:RelV v u){Q:LI->LM->Prop}
 (ek:PySem.W.kitOne X.K (.type (Jx d)) c=some b) (q:∀tk,Q (.bool b) {s with toks:=tk}):wpAny (model X.prog X.w) X.A (call (.builtin "isinstance") [u,c]) Q X.xe s:=by
 cases d with
 |non=>obtain rfl:v=.non:=h;exact ju I r .non ek q
 |bl x=>obtain rfl:v=.bl x:=h;exact ju I r (.bl x) ek q
 |int x=>obtain rfl:v=.int x:=h;exact ju I r (.int x) ek q
 |str x=>obtain rfl:v=.str x:=h;exact ju I r (.str x) ek q
 | tup ds =>
   obtain ⟨a,vs,rfl,hq,_⟩:=h
   obtain rfl:u=Value.ref a:=r
   obtain ⟨its,rv,⟨o,h1,h2,_⟩,_⟩:=I.tuple hq
   exact MH PySem.W.kitx_tuple I.kIn ⟨o,h1,h2⟩ ek (fun z=>nomatch z) q
 | lst ds =>
   obtain ⟨a,vs,rfl,hq,_⟩:=bA (ds:=ds) hM h rfl
   obtain rfl:u=Value.ref a:=r
   obtain ⟨its,rv,⟨o,n,h1,h2,_⟩,_⟩:=I.list hq
   exact MH PySem.W.kitx_list I.kIn ⟨o,h1,h2⟩ ek (fun z=>nomatch z) q
 | frz ds =>
   obtain ⟨a,vs,rfl,hq,_⟩:=bA (ds:=ds) hM h rfl
   obtain rfl:u=Value.ref a:=r
   obtain ⟨its,rv,⟨o,n,h1,h2,_⟩,_⟩:=I.list hq
   exact MH PySem.W.kitx_list I.kIn ⟨o,h1,h2⟩ ek (fun z=>nomatch z) q
 | cell k =>
   obtain ⟨a,rfl,hk⟩:=h
   obtain ⟨ds,vs,_,hq,_⟩:=hM.mu_lt hk
   obtain rfl:u=Value.ref a:=r
   obtain ⟨its,rv,⟨o,n,h1,h2,_⟩,_⟩:=I.list (b9.of hq)
   exact MH PySem.W.kitx_list I.kIn ⟨o,h1,h2⟩ ek (fun z=>nomatch z) q
 |fn f=>cases e
 |exc y p=>cases e
noncomputable def Ig (fa:Fa)(K:LH)(t:Ty):List V->Hp->VK->Prop:=fun vs H Q=>∃μ M d v b,vs=[v,.ty (tyName t)]/\RelM fa K μ H M/\Rep fa K μ H d v/\dN t d=some b/\Q (.bl b) H
theorem G0 (t:Ty)(ht:∀c,t≠.own c):cF X (.builtin "isinstance") (Ig fa X.K t):=by
 intro pins s σ H xs us Q I r h
 obtain ⟨μ,M,d,v,b,rfl,hM,hv,e,q⟩:=h
 obtain ⟨u,w,rfl,r1,r2⟩:=vals2 r
 obtain rfl:w=Value.type (tyName t):=r2
 exact yV hM hv e I r1 (HQ t d b ht e) fun tk=>⟨.bl b,H,I.tok _,rfl,q⟩
end
end LD
namespace LD
open PySem PySem.Spec PyProof.Rows L2
section
variable {fa:Fa}{X:Cx}
abbrev DE (fa:Fa)(X:Cx)(e:Expr)(g:Env->Mem->Res D):Prop:=PE X e (tE fa X.K g)
abbrev DT (fa:Fa)(X:Cx)(e:Expr)(g:Env->Mem->Res Bool):Prop:=PT X e (tT fa X.K g)
abbrev DW (fa:Fa)(X:Cx)(e:Expr)(g:Env->Mem->Res Bool):Prop:=PW X e (tT fa X.K g)
abbrev DA (fa:Fa)(X:Cx)(es:List Expr)(g:Env->Mem->Res (List D)):Prop:=PA X es (tA fa X.K g)
abbrev DS (fa:Fa)(X:Cx)(st:Stmt)(g:Env->Mem->Res Fl):Prop:=PS X st (tF fa X g)
abbrev mS (fa:Fa)(X:Cx)(st:List Stmt)(g:Env->Mem->Res Fl):Prop:=lQ X st (tF fa X g)
variable {a b d:Expr}{ga gb gd:Env->Mem->Res D}{pos:Pos}
theorem IY {i:Nat}{x:Str}(hN:X.N[i]?=some x)(hv:qC X.env.scope x)(hd:(x==("__debug__":Str))=false)(hcd:(x==("__classdict__":Str))=false) :
 DE fa X (.Name x pos) (fun Z M=>bV M (Z[i]?.getD none)):=bq (nV hN hv hd hcd) fun σ H Q ⟨μ,Z,M,hE,hM,h⟩=>by
 obtain ⟨d,e,w⟩:=jR h
 have e':Z[i]?=some (some d):=by
  cases q:Z[i]? with
  |none=>rw [q] at e;cases e
  |some o=>rw [q] at e;simp at e;rw [e]
 obtain ⟨v,h1,h2⟩:=hE.at' i d e'
 exact ⟨v,h1,aZ hM w h2⟩
theorem iX {e:Expr}{dc:D}{v:V}(h:PE X e (tC v))(r:∀μ H,Rep fa X.K μ H dc v):DE fa X e (fun _ M=>.ok dc M):=bq h fun σ H Q ⟨μ,Z,M,hE,hM,h⟩=>aZ hM h (r μ H)
theorem Jf {i:Int}{j:Nat}:DE fa X (.Constant (.int i) j pos) (fun _ M=>.ok (.int i) M):=iX (v:=.int i) xl fun _ _=>rfl
theorem Hq {i:Bool}{j:Nat}:DE fa X (.Constant (.bool i) j pos) (fun _ M=>.ok (.bl i) M):=iX (v:=.bl i) Iq fun _ _=>rfl
theorem I0 {i:Str}{j:Nat}:DE fa X (.Constant (.str i) j pos) (fun _ M=>.ok (.str i) M):=iX (v:=.str i) FO fun _ _=>rfl
theorem Jb {j:Nat}:DE fa X (.Constant .none j pos) (fun _ M=>.ok .non M):=iX (v:=.non) FT fun _ _=>rfl
theorem t2 {μ:Mu}{H:Hp}{σ:L2.St}{Z:Env}{M:Mem}{β:Type}{f:D->D->Mem->Res β}{P:β->Mem->Prop}{R:V->V->Hp->Prop}(hE:a8 fa X.K μ H σ Z)(hM:RelM fa X.K μ H M)
 (h:ah ((ga Z M).bind fun x M=>(gb Z M).bind fun y M=>f x y M) P)
 (k:∀x y M2 v u H2 μ2,Ext μ H μ2 H2->a8 fa X.K μ2 H2 σ Z->RelM fa X.K μ2 H2 M2->Rep fa X.K μ2 H2 x v->Rep fa X.K μ2 H2 y u->ah (f x y M2) P->R v u H2) :
 tE fa X.K ga σ H fun v H1=>tE fa X.K gb σ H1 fun u H2=>R v u H2:=
 t1 hE hM h fun x M1 v H1 μ1 x1 hE1 hM1 r1 h1=>t1 hE1 hM1 h1 fun y M2 u H2 μ2 x2 hE2 hM2 r2 h2=>k x y M2 v u H2 μ2 (x1.trans x2) hE2 hM2 (r1.ext x2) r2 h2
theorem Jk (m:Bool)(o:kO)(ha:DE fa X a ga)(hb:DE fa X b gb):DE fa X (.BinOp a (binOp o) b pos) (fun Z M=>(ga Z M).bind fun x M=>(gb Z M).bind fun y M=>fR m o x y M):=
 bq (Il (Js m o) ha hb) fun σ H Q ⟨μ,Z,M,hE,hM,h⟩=>t2 hE hM h fun x y M2 v u H2 μ2 x2 hE2 hM2 r1 r2 h2=>⟨μ2,M2,x,y,hM2,r1,r2,jr h2 x2⟩
theorem nZ {r:Option Bool}{M:Mem}{P:D->Mem->Prop}(h:ah ((bV M r).bind fun b M=>.ok (.bl b) M) P):∃b,r=some b/\P (.bl b) M:=by
 obtain ⟨b,M1,e,q⟩:=aK h
 cases r with
 |none=>cases e
 |some b'=>cases e;exact ⟨_,rfl,q⟩
theorem Ji (hu:Rm X)(o:iC)(ha:DE fa X a ga)(hb:DE fa X b gb)(hm:behindInMarks (dP o) b=false) :
 DE fa X (.Compare a [dP o] [b] pos) (fun Z M=>(ga Z M).bind fun x M=>(gb Z M).bind fun y M=>(bV M (bu o x y M)).bind fun b M=>.ok (.bl b) M):=
 bq (ub (my hu o) ha hb hm) fun σ H Q ⟨μ,Z,M,hE,hM,h⟩=>t2 hE hM h fun x y M2 v u H2 μ2 x2 hE2 hM2 r1 r2 h2=>by
  obtain ⟨b,e,q⟩:=nZ h2
  exact ⟨μ2,M2,x,y,b,hM2,r1,r2,e,aZ (v:=.bl b) hM2 (q.ext x2) rfl⟩
theorem G7 (hu:Rm X)(o:iC)(ha:DE fa X a ga)(hb:DE fa X b gb)(hm:behindInMarks (dP o) b=false) :
 DT fa X (.Compare a [dP o] [b] pos) (fun Z M=>((ga Z M).bind fun x M=>(gb Z M).bind fun y M=>(bV M (bu o x y M)).bind fun b M=>.ok (.bl b) M).bind fun x M=>bV M (jF M x)):=
 jO (oU (my hu o) ha hb hm) fun σ H Q ⟨μ,Z,M,hE,hM,h⟩=>by
  obtain ⟨z,M3,e,q⟩:=aK h
  have h':ah ((ga Z M).bind fun x M=>(gb Z M).bind fun y M=>(bV M (bu o x y M)).bind fun b M=>.ok (.bl b) M) (fun d M=>d=z/\M=M3):=by rw [e];exact ⟨rfl,rfl⟩
  refine t2 hE hM h' fun x y M2 v u H2 μ2 x2 hE2 hM2 r1 r2 h2=>?_
  obtain ⟨b,e1,e2,e3⟩:=nZ h2
  subst e2 e3
  exact ⟨μ2,M2,x,y,b,hM2,r1,r2,e1,b,rfl,q H2 μ2 x2 hM2⟩
theorem CI {g:Env->Mem->Res D}{σ:L2.St}{H:Hp}{Q:Bool->Hp->Prop}(hb:∀Z M x M',g Z M=.ok x M'->∃k,x=.bl k)(h:tT fa X.K (fun Z M=>(g Z M).bind fun x M=>bV M (jF M x)) σ H Q) :
 tE fa X.K g σ H (fun x H'=>∃k,x=.bl k/\Q k H'):=by
 obtain ⟨μ,Z,M,hE,hM,h⟩:=h
 obtain ⟨x,M1,e,q⟩:=aK h
 obtain ⟨k,rfl⟩:=hb Z M x M1 e
 refine ⟨μ,Z,M,hE,hM,?_⟩
 rw [e]
 intro v H1 μ1 x1 m1 r1
 obtain rfl:v=.bl k:=r1
 exact ⟨k,rfl,q H1 μ1 x1 m1⟩
theorem BU {o o':iC}{gc:Env->Mem->Res D}(σ:L2.St)(H:Hp)(Q:VK):tE fa X.K (fun Z M=>(ga Z M).bind fun x M=>(gb Z M).bind fun y M=>(bV M (bu o x y M)).bind fun k M=>
 if k then (gc Z M).bind fun z M=>(bV M (bu o' y z M)).bind fun b M=>.ok (.bl b) M else .ok (.bl false) M) σ H Q->rA (gr fa X.K o) (gr fa X.K o') (tE fa X.K ga) (tE fa X.K gb) (tE fa X.K gc) σ H Q:=fun ⟨μ,Z,M,hE,hM,h⟩=>by
 refine t2 hE hM h fun x y M2 v u H2 μ2 x2 hE2 hM2 r1 r2 h2=>?_
 obtain ⟨k,M3,e,q⟩:=aK h2
 cases ec:bu o x y M2 with
 |none=>rw [ec] at e;cases e
 | some k' =>
   rw [ec] at e
   cases e
   refine ⟨μ2,_,x,y,k,hM2,r1,r2,ec,k,rfl,?_⟩
   cases k with
   |false=>exact aZ (v:=.bl false) hM2 (a7.ext q x2) rfl
   | true =>
     refine t1 hE2 hM2 q fun z M4 w H4 μ4 x4 hE4 hM4 r4 h4=>?_
     obtain ⟨b,e4,q4⟩:=nZ h4
     exact ⟨μ4,M4,y,z,b,hM4,r2.ext x4,r4,e4,aZ (v:=.bl b) hM4 (q4.ext (x2.trans x4)) rfl⟩
theorem Jj (hu:Rm X)(o o':iC){gc:Env->Mem->Res D}(ha:DE fa X a ga)(hb:DE fa X b gb)(hc:DE fa X d gc)(hm:lastMarks [dP o,dP o'] [b,d]=false) :
 DE fa X (.Compare a [dP o,dP o'] [b,d] pos) (fun Z M=>(ga Z M).bind fun x M=>(gb Z M).bind fun y M=>(bV M (bu o x y M)).bind fun k M=>
  if k then (gc Z M).bind fun z M=>(bV M (bu o' y z M)).bind fun b M=>.ok (.bl b) M else .ok (.bl false) M):=bq (zS (my hu o) (my hu o') ha hb hc hm) BU
theorem zW {r:Option Bool}{M M':Mem}{x:D}(h:((bV M r).bind fun b M=>Res.ok (.bl b) M)=.ok x M'):∃k,x=.bl k:=by
 cases r with
 |none=>cases h
 |some b=>cases h;exact ⟨b,rfl⟩
theorem eC {α β:Type}{r:Res α}{f:α->Mem->Res β}{x:β}{M:Mem}(h:r.bind f=.ok x M):∃a M1,r=.ok a M1/\f a M1=.ok x M:=by
 cases r with
 |ok a M1=>exact ⟨a,M1,rfl,h⟩
 |err=>cases h
 |bad=>cases h
theorem G8 (hu:Rm X)(o o':iC){gc:Env->Mem->Res D}(ha:DE fa X a ga)(hb:DE fa X b gb)(hc:DE fa X d gc)(hm:lastMarks [dP o,dP o'] [b,d]=false) :
 DT fa X (.Compare a [dP o,dP o'] [b,d] pos) (fun Z M=>((ga Z M).bind fun x M=>(gb Z M).bind fun y M=>(bV M (bu o x y M)).bind fun k M=>
  if k then (gc Z M).bind fun z M=>(bV M (bu o' y z M)).bind fun b M=>.ok (.bl b) M else .ok (.bl false) M).bind fun x M=>bV M (jF M x)):=
 jO (zN (my hu o) (my hu o') ha hb hc hm) fun σ H Q h=>BU σ H _ (CI (fun Z M x M' e=>by
  obtain ⟨x1,M1,_,e⟩:=eC e
  obtain ⟨x2,M2,_,e⟩:=eC e
  obtain ⟨k,M3,_,e⟩:=eC e
  cases k with
  |false=>cases e;exact ⟨_,rfl⟩
  | true =>
    obtain ⟨x4,M4,_,e⟩:=eC e
    exact zW e) h)
theorem Jc (ha:DE fa X a ga):DE fa X (.UnaryOp .USub a pos) (fun Z M=>(ga Z M).bind fun x M=>match x with|.int i=>.ok (.int (-i)) M|_=>.bad):=
 bq (Bu wb ha) fun σ H Q ⟨μ,Z,M,hE,hM,h⟩=>t1 hE hM h fun x M1 v H1 μ1 x1 hE1 hM1 r1 h1=>by
  cases x with
  |int i=>exact ⟨i,r1,aZ (v:=.int (-i)) hM1 (a7.ext h1 x1) rfl⟩
  |_=>exact h1.elim
theorem Jl {rest:List Expr}(ha:DE fa X a ga)(hb:DE fa X (.BoolOp .And (b::rest) pos) gb):DE fa X (.BoolOp .And (a::b::rest) pos) (fun Z M=>(ga Z M).bind fun x M=>match x with
 |.bl true=>gb Z M
 |.bl false=>.ok (.bl false) M
 |_=>.bad):=
 bq (FX ha hb) fun σ H Q ⟨μ,Z,M,hE,hM,h⟩=>t1 hE hM h fun x M1 v H1 μ1 x1 hE1 hM1 r1 h1=>by
  cases x with
  | bl k =>
    refine ⟨k,r1,?_⟩
    cases k with
    |true=>exact ⟨μ1,Z,M1,hE1,hM1,jr h1 x1⟩
    |false=>exact aZ (v:=.bl false) hM1 (a7.ext h1 x1) rfl
  |_=>exact h1.elim
theorem K5 {rest:List Expr}(ha:DE fa X a ga)(hb:DE fa X (.BoolOp .Or (b::rest) pos) gb):DE fa X (.BoolOp .Or (a::b::rest) pos) (fun Z M=>(ga Z M).bind fun x M=>match x with
 |.bl true=>.ok (.bl true) M
 |.bl false=>gb Z M
 |_=>.bad):=
 bq (Ik ha hb) fun σ H Q ⟨μ,Z,M,hE,hM,h⟩=>t1 hE hM h fun x M1 v H1 μ1 x1 hE1 hM1 r1 h1=>by
  cases x with
  | bl k =>
    refine ⟨k,r1,?_⟩
    cases k with
    |true=>exact aZ (v:=.bl true) hM1 (a7.ext h1 x1) rfl
    |false=>exact ⟨μ1,Z,M1,hE1,hM1,jr h1 x1⟩
  |_=>exact h1.elim
theorem B1 {op:PySem.BoolOp}(ha:DE fa X a ga):DE fa X (.BoolOp op [a] pos) ga:=FQ ha
theorem Ja (ha:DE fa X a ga):DE fa X (.UnaryOp .Not a pos) (fun Z M=>(ga Z M).bind fun x M=>match x with|.bl k=>.ok (.bl (!k)) M|_=>.bad):=
 bq (FR ha) fun σ H Q ⟨μ,Z,M,hE,hM,h⟩=>t1 hE hM h fun x M1 v H1 μ1 x1 hE1 hM1 r1 h1=>by
  cases x with
  |bl k=>exact ⟨k,r1,aZ (v:=.bl (!k)) hM1 (a7.ext h1 x1) rfl⟩
  |_=>exact h1.elim
variable {ta tb:Env->Mem->Res Bool}
theorem D7 (ha:DT fa X a ta):DW fa X (.BoolOp .And [a] pos) ta:=Dj ha
theorem G4 (ha:DT fa X a ta):DW fa X (.BoolOp .Or [a] pos) ta:=FC ha
theorem JH {b':Res Bool}{μ μ':Mu}{H H':Hp}{Q:Bool->Hp->Prop}(x:Ext μ H μ' H')(h:ah b' fun b M'=>∀H'' μ'',Ext μ H μ'' H''->RelM fa X.K μ'' H'' M'->Q b H''):ah b' fun b M'=>∀H'' μ'',Ext μ' H' μ'' H''->RelM fa X.K μ'' H'' M'->Q b H'':=
 aQ h fun b M q H'' μ'' y m=>q H'' μ'' (x.trans y) m
theorem G5 {rest:List Expr}(ha:DT fa X a ta)(hb:DW fa X (.BoolOp .And (b::rest) pos) tb):DW fa X (.BoolOp .And (a::b::rest) pos) (fun Z M=>(ta Z M).bind fun k M=>if k then tb Z M else .ok false M):=
 w9 (FD ha hb) fun σ H Q ⟨μ,Z,M,hE,hM,h⟩=>wB hE hM h fun k M1 H1 μ1 x1 hE1 hM1 h1=>by
  cases k with
  |true=>exact ⟨μ1,Z,M1,hE1,hM1,JH x1 h1⟩
  |false=>exact h1 H1 μ1 x1 hM1
theorem IV {rest:List Expr}(ha:DT fa X a ta)(hb:DW fa X (.BoolOp .Or (b::rest) pos) tb):DW fa X (.BoolOp .Or (a::b::rest) pos) (fun Z M=>(ta Z M).bind fun k M=>if k then .ok true M else tb Z M):=
 w9 (Ii ha hb) fun σ H Q ⟨μ,Z,M,hE,hM,h⟩=>wB hE hM h fun k M1 H1 μ1 x1 hE1 hM1 h1=>by
  cases k with
  |true=>exact h1 H1 μ1 x1 hM1
  |false=>exact ⟨μ1,Z,M1,hE1,hM1,JH x1 h1⟩
theorem G6 (ha:DT fa X a ta):DT fa X (.UnaryOp .Not a pos) (fun Z M=>(ta Z M).bind fun k M=>.ok (!k) M):=
 jO (FE ha) fun σ H Q ⟨μ,Z,M,hE,hM,h⟩=>wB hE hM h fun k M1 H1 μ1 x1 hE1 hM1 h1=>h1 H1 μ1 x1 hM1
theorem AI (ha:DE fa X a ga)(he:∀whole,isTrue a X.env whole=(do let v <- whole;standAt a.pos;holding [v] (truthy v))):DT fa X a (fun Z M=>(ga Z M).bind fun x M=>bV M (jF M x)):=
 jO (zM ha he) fun σ H Q ⟨μ,Z,M,hE,hM,h⟩=>t1 hE hM h fun x M1 v H1 μ1 x1 hE1 hM1 r1 h1=>by
  obtain ⟨k,e,q⟩:=jR h1
  exact ⟨k,J1 hM1 r1 e,q H1 μ1 x1 hM1⟩
theorem Je {c:Expr}{gc:Env->Mem->Res Bool}(hc:DT fa X c gc)(ha:DE fa X a ga)(hb:DE fa X b gb):DE fa X (.IfExp c a b pos) (fun Z M=>(gc Z M).bind fun k M=>if k then ga Z M else gb Z M):=
 bq (rX hc ha hb) fun σ H Q ⟨μ,Z,M,hE,hM,h⟩=>wB hE hM h fun k M1 H1 μ1 x1 hE1 hM1 h1=>by
  cases k with
  |true=>exact ⟨μ1,Z,M1,hE1,hM1,jr h1 x1⟩
  |false=>exact ⟨μ1,Z,M1,hE1,hM1,jr h1 x1⟩
theorem Jg (ha:DE fa X a ga)(hb:DE fa X b gb)(hs:j0 b):DE fa X (.Subscript a b pos) (fun Z M=>(ga Z M).bind fun x M=>(gb Z M).bind fun y M=>bV M (bO x y M)):=
 bq (Bv IH ha hb hs) fun σ H Q ⟨μ,Z,M,hE,hM,h⟩=>t2 hE hM h fun x y M2 v u H2 μ2 x2 hE2 hM2 r1 r2 h2=>by
  obtain ⟨d,e,q⟩:=jR h2
  exact ⟨μ2,M2,x,y,d,hM2,r1,r2,e,q.ext x2⟩
noncomputable def DO (fa:Fa)(X:Cx)(e:Option Expr)(hp:Bool)(g:Env->Mem->Res D):Prop:=PO X e fun σ H Q=>∃μ Z M,a8 fa X.K μ H σ Z/\RelM fa X.K μ H M/\ah (g Z M) fun d M'=>∃o,du hp d=true/\nW d=some o/\∀H' μ',Ext μ H μ' H'->RelM fa X.K μ' H' M'->Q o H'
theorem Ec:DO fa X none false (fun _ M=>.ok .non M):=fun pins s σ H Q I ⟨μ,Z,M,hE,hM,o,_,e,k⟩=>by
 cases e
 exact Dq pins s σ H Q I (k H μ .refl hM)
theorem Eb (ha:DE fa X a ga):DO fa X (some a) true ga:=fun pins s σ H Q I ⟨μ,Z,M,hE,hM,h⟩=>Dp ha pins s σ H Q I ⟨μ,Z,M,hE,hM,aQ h fun d M' ⟨o,p,e,k⟩ v H' μ' x m r=>by
 cases d with
 |int i=>cases e;exact ⟨i,r,k H' μ' x m⟩
 |_=>cases p⟩
theorem part_of {hp:Bool}{d:D}(h:du hp d=true):∃o,nW d=some o:=by
 cases hp<;>cases d<;>first|exact ⟨_,rfl⟩|cases h
theorem I8 (m hl hh:Bool){lo hi:Option Expr}{gl gh:Env->Mem->Res D}{p2:Pos}(ha:DE fa X a ga)(hlo:DO fa X lo hl gl)(hhi:DO fa X hi hh gh):DE fa X (.Subscript a (.Slice lo hi none p2) pos)
 (fun Z M=>(ga Z M).bind fun x M=>(gl Z M).bind fun l M=>(gh Z M).bind fun h M=>if du hl l&&du hh h then fQ m x l h M else .bad):=
 bq (rW (C1 (fa:=fa) m) ha hlo hhi) fun σ H Q ⟨μ,Z,M,hE,hM,h⟩=>t1 hE hM h fun x M1 v H1 μ1 x1 hE1 hM1 r1 h1=>by
  obtain ⟨l,M2,e2,h2⟩:=aK h1
  obtain ⟨u,M3,e3,h3⟩:=aK h2
  split at h3
  ·next c=>
   rw [LN] at c
   obtain ⟨ol,el⟩:=part_of c.1
   obtain ⟨ou,eu⟩:=part_of c.2
   refine ⟨μ1,Z,M1,hE1,hM1,?_⟩
   rw [e2]
   refine ⟨ol,c.1,el,fun H2 μ2 x2 hM2=>⟨μ2,Z,M2,hE1.ext x2,hM2,?_⟩⟩
   rw [e3]
   exact ⟨ou,c.2,eu,fun H3 μ3 x3 hM3=>⟨μ3,M3,x,l,u,hM3,(r1.ext x2).ext x3,el,eu,jr h3 ((x1.trans x2).trans x3)⟩⟩
  ·exact h3.elim
theorem Hi:DA fa X [] (fun _ M=>.ok [] M):=xt fD fun σ H Q ⟨μ,Z,M,hE,hM,h⟩=>h [] H μ .refl hM rfl
theorem Ek {es:List Expr}{gs:Env->Mem->Res (List D)}(ha:DE fa X a ga)(hs:DA fa X es gs)(h0:starEach (a::es) X.env=(false,eval a X.env)::starEach es X.env) :
 DA fa X (a::es) (fun Z M=>(ga Z M).bind fun x M=>(gs Z M).bind fun xs M=>.ok (x::xs) M):=
 xt (cK ha hs h0) fun σ H Q ⟨μ,Z,M,hE,hM,h⟩=>t1 hE hM h fun x M1 v H1 μ1 x1 hE1 hM1 r1 h1=>pR hE1 hM1 h1 fun xs M2 vs H2 μ2 x2 hE2 hM2 r2 h2=>h2 (v::vs) H2 μ2 (x1.trans x2) hM2 ⟨v,vs,rfl,r1.ext x2,r2⟩
theorem IZ {es:List Expr}{gs:Env->Mem->Res (List D)}{k:Nat}(hs:DA fa X es gs):DE fa X (.Tuple es k pos) (fun Z M=>(gs Z M).bind ko):=
 bq (FN hs) fun σ H Q ⟨μ,Z,M,hE,hM,h⟩=>pR hE hM h fun xs M1 vs H1 μ1 x1 hE1 hM1 r1 h1=>by
  unfold ko at h1
  split at h1
  ·next c=>exact ⟨by rw [r1.length,<- cX];exact c,gL hM1 r1 (a7.ext h1 x1)⟩
  ·exact h1.elim
theorem Jd (m:Bool){es:List Expr}{gs:Env->Mem->Res (List D)}(hs:DA fa X es gs):DE fa X (.List es pos) (fun Z M=>(gs Z M).bind (ba m)):=
 bq (FU hs) fun σ H Q ⟨μ,Z,M,hE,hM,h⟩=>pR hE hM h fun xs M1 vs H1 μ1 x1 hE1 hM1 r1 h1=>by
  obtain ⟨c,k⟩:=fO hM1 r1 (jr h1 x1)
  exact ⟨by rw [r1.length,<- cX];exact c,k⟩
end
end LD
namespace LD
open PySem PySem.Spec PyProof.Rows L2
theorem lI (o:Obj)(f:Array LI->Array LI):(o.mapFields f).dict=o.dict:=by
 obtain ⟨c,d,dt,sl⟩:=o
 cases dt<;>rfl
section
variable {P:Mc}{w:Me}{M:Model}{A:MK}{E:LI->LM->Prop}{base:Heap}{env:Mw}{outer:List Mw}{L a C:Addr}{dx:Option Addr}{New:Addr->Prop}{H:Hp}{s:LM}{Q:Unit->LM->Prop}
theorem tN {oe:Obj}{vs:Array LI}{head:LI}{had:Bool}(hfr:A.frames=some (env::outer))(hl:s.heap.FunFrames base (env::outer))(hf:env.frame=some L)
 (he:s.heap.get? a=some oe) (hd:oe.data=.fields vs) (hsz:1<vs.size)
 (h:∀h' T oT ts,(∀b o,b∉fG (env::outer)->b≠a->s.heap.get? b=some o->h'.get? b=some o)->(∀b o,b≠a->s.heap.get? b=some o->∃sl,h'.get? b=some {o with slots:=sl})->s.heap.objs.size<=T->T≠a->
  h'.get? a=some (oe.mapFields (·.setIfInBounds 1 (.ref T)))->h'.get? T=some oT->oT.data=.fields ts->ts[3]?=some .none->Q () {s with heap:=h'}) :
 wpAny M A (do let f <- frameOf env;let pl <- entryPlaceOf L had;let b <- EntryCells.newEntry head f .none (rawInt L) .none pl;setField (.ref a) 1 b) (fun _ s'=>wpAny M A (setFlight (.ref a) none) Q E s') E s:=by
 have hene:a∉fG (env::outer):=fun hm=>by
  obtain ⟨_,o,ho,hnf⟩:=hl.mem hm
  rw [he] at ho;cases ho;exact hnf vs hd
 refine tqa (wpAny_frameOf_fun hfr hl hf fun h₁ hs₁=>?_)
 refine tqa (wpAny_entryPlaceOf fun pl hpl=>?_)
 unfold EntryCells.newEntry newFields
 refine tqa (wpAny_newObj_type ?_ (hpl.sizeOk5 _ _ _ _ _))
 have he₁:h₁.get? a=some oe:=(hs₁.2.1 a hene).trans he
 generalize ho:({cls:=.type "traceback",dict:=none,data:=.fields ([head,.ref L,.none,rawInt L,.none]++(if pl.isEmpty then List.replicate 6 Value.none else pl)).toArray}:Obj)=o
 have hod:o.data=.fields ([head,.ref L,.none,rawInt L,.none]++(if pl.isEmpty then List.replicate 6 Value.none else pl)).toArray:=by rw [<- ho]
 have he₂:=LK (h:=h₁) o he₁
 refine wpAny_setField he₂ hd hsz ?_
 have hTe:h₁.objs.size≠a:=MU (L4 he₁)
 have hd₃:=Nc hd (·.setIfInBounds 1 (Value.ref h₁.objs.size))
 have he₃:=Nj (Obj.mapFields (·.setIfInBounds 1 (Value.ref h₁.objs.size))) he₂ (NN hd₃)
 have hT₃:=(MM (h₁.push o) (Obj.mapFields (·.setIfInBounds 1 (Value.ref h₁.objs.size))) (MR hTe)).trans (L6 h₁ (NN hod))
 unfold setFlight
 refine tqa (tqf he₃ hd₃ (x:=.ref h₁.objs.size) (by simp [hsz]) ?_)
 rw [if_pos (show (Value.ref h₁.objs.size != Value.none)=true from by simp)]
 refine wpAny_setField hT₃ hod (by simp only [LQ,ME,MC,List.length_nil]<;>omega) ?_
 have keep:∀b u,b≠a->h₁.get? b=some u->(((h₁.push o).update a (Obj.mapFields (·.setIfInBounds 1 (Value.ref h₁.objs.size)))).update h₁.objs.size (Obj.mapFields (·.setIfInBounds 3 ((none:Option Addr).elim Value.none fun f=>rawInt f)))).get? b=some u:=fun b u hbe hb=>by
  have hbT:h₁.objs.size≠b:=MU (L4 hb)
  rw [MM _ _ hbT,MM _ _ (MR hbe)]
  exact LK _ hb
 refine h _ h₁.objs.size _ _ (fun b u hb hbe q=>keep b u hbe ((hs₁.2.1 b hb).trans q)) (fun b u hbe q=>?_) (Nat.le_of_eq hs₁.1.symm) hTe ?_ (Nj _ hT₃ (NN (Nc hod _))) (Nc hod _) ?_
 ·obtain ⟨sl,e⟩:=hs₁.2.2 b u q
  exact ⟨sl,keep b _ hbe e⟩
 ·rw [MM _ _ hTe];exact he₃
 ·first|(simp;done)|(rcases hpl with rfl|⟨_,_,_,_,_,_,_,rfl⟩<;>simp)
theorem DH (hfr:A.frames=some (env::outer))(hl:s.heap.FunFrames base (env::outer))(hf:env.frame=some L)(hF:mR New C dx a s.heap H)(hN:∀b,s.heap.objs.size<=b->New b)(hok:d5 P w H s.heap)(hfree:∀b∈fG (env::outer),H b=none)
 (h:∀h' ch,(∀b∈ch,New b/\H b=none/\∃o vs,s.heap.get? b=some o/\o.data=.fields vs)->Un (fG (env::outer)) ch H H s.heap h'->d5 P w H h'->mR New C dx a h' H->Q () {s with heap:=h'}) :
 wpAny M A (noteFrame (.ref a) env) (fun _ s1=>wpAny M A (setFlight (.ref a) none) Q E s1) E s:=by
 obtain ⟨na,ha,oe,vs,he,hc,hdx,hd,tr⟩:=hF
 have fin:∀h' ch,(∀b∈ch,New b/\H b=none/\∃o vs,s.heap.get? b=some o/\o.data=.fields vs)->(∀b o,b∉fG (env::outer)->b∉ch->s.heap.get? b=some o->h'.get? b=some o)->(∀b o,b∉ch->s.heap.get? b=some o->∃sl,h'.get? b=some {o with slots:=sl})->mR New C dx a h' H->Q () {s with heap:=h'}:=fun h' ch hch keep slot fl=>by
  refine h h' ch hch ⟨fun b o q _ hb hx=>keep b o hb hx q,fun b o q _ _ hx=>slot b o hx q,fun _ _ _ n _=>n,fun b o q hx=>let ⟨sl,e⟩:=slot b o hx q;⟨_,e⟩,fun _ _ e=>e,fun _ _ _ e=>e,fun b ps e=>⟨#[],by rw [e];simp⟩⟩ (fun b u e=>(hok b u e).stay (fun c v hc q=>?_) (fun _ q=>q) fun _ _ q=>q) fl
  have nn:H c≠none:=by rcases hc with z|z<;>(intro z';first|(rw [z,e] at z';cases z')|(rw [z] at z';cases z'))
  exact keep c v (fun z=>nn (hfree c z)) (fun z=>nn (hch c z).2.1) q
 unfold noteFrame
 simp only [hf]
 rcases tr with h1|⟨T,oT,ts,h1,hTa,nT,hT0,hT,hdT,h3⟩
 ·refine tqa (tqf he hd h1 ?_)
  rw [if_neg (by decide)]
  refine tN hfr hl hf he hd (MN.mp h1).1 fun h' T oT ts k1 k2 k3 k4 k5 k6 k7 k8=>?_
  refine fin h' [a] (fun b hb=>?_) (fun b o hb hx q=>k1 b o hb (fun z=>hx (by simp [z])) q) (fun b o hx q=>k2 b o (fun z=>hx (by simp [z])) q) ⟨na,ha,_,_,k5,?_,?_,Nc hd _,.inr ⟨T,oT,ts,by simp [(MN.mp h1).1],k4,hN _ k3,hok.fresh k3,k6,k7,k8⟩⟩
  ·rcases Nn.mp hb with rfl
   exact ⟨na,ha,oe,vs,he,hd⟩
  ·rw [Obj.cls_mapFields];exact hc
  ·rw [lI];exact hdx
 ·refine tqa (tqf he hd h1 ?_)
  rw [if_pos (show (Value.ref T != Value.none)=true from by simp)]
  refine tqa (tqf hT hdT h3 ?_)
  rw [if_neg (show ¬ ((Value.none==rawInt L)=true) from by simp [rawInt])]
  refine tqa (wpAny_setField hT hdT (MN.mp h3).1 ?_)
  have other:∀b,b≠T->(s.heap.update T (Obj.mapFields (·.setIfInBounds 3 Value.none))).get? b=s.heap.get? b:=fun b hb=>MM _ _ (MR hb)
  have noRec:∀b o,s.heap.get? b=some o->(∀vs,o.data≠.fields vs)->b≠T:=fun b o hb hnf q=>by
   rw [q,hT] at hb;cases hb;exact hnf ts hdT
  have hz:(s.heap.update T (Obj.mapFields (·.setIfInBounds 3 Value.none))).objs.size=s.heap.objs.size:=Heap.size_after_update ..
  refine tN (s:={s with heap:=s.heap.update T (Obj.mapFields (·.setIfInBounds 3 Value.none))}) hfr (hl.of_keeps fun b o hb hnf=>⟨o,(other b (noRec b o hb hnf)).trans hb,rfl⟩) hf ((other a (MR hTa)).trans he) hd (MN.mp h1).1 fun h' T' oT' ts' k1 k2 k3 k4 k5 k6 k7 k8=>?_
  have k3:s.heap.objs.size<=T':=by rw [<- hz];exact k3
  refine fin h' [a,T] (fun b hb=>?_) (fun b o hb hx q=>k1 b o hb (fun z=>hx (by simp [z])) ((other b (fun z=>hx (by simp [z]))).trans q)) (fun b o hx q=>k2 b o (fun z=>hx (by simp [z])) ((other b (fun z=>hx (by simp [z]))).trans q)) ⟨na,ha,_,_,k5,?_,?_,Nc hd _,.inr ⟨T',oT',ts',by simp [(MN.mp h1).1],k4,hN _ k3,hok.fresh k3,k6,k7,k8⟩⟩
  ·rcases My.mp hb with rfl|hb
   ·exact ⟨na,ha,oe,vs,he,hd⟩
   ·rcases Nn.mp hb with rfl
    exact ⟨nT,hT0,oT,ts,hT,hdT⟩
  ·rw [Obj.cls_mapFields];exact hc
  ·rw [lI];exact hdx
end
noncomputable def fH (P:Mc)(w:Me):mT:=fun outer H s E e s'=>∃a C dx H',e=.ref a/\s'.os=s.os/\AllBare s'.gens/\Un (fG outer) [] H H' s.heap s'.heap/\d5 P w H' s'.heap/\mR (fun b=>s.heap.get? b=none) C dx a s'.heap H'/\E (.ref C) dx H'
theorem mR.imp {New New':Addr->Prop}{C a:Addr}{dx:Option Addr}{h:Heap}{H:Hp}(f:mR New C dx a h H)(i:∀b,New b->New' b):mR New' C dx a h H:=by
 obtain ⟨na,ha,o,vs,h1,h2,h3,h4,tr⟩:=f
 refine ⟨i _ na,ha,o,vs,h1,h2,h3,h4,?_⟩
 rcases tr with t|⟨T,oT,ts,t1,t2,t3,t4⟩
 ·exact .inl t
 ·exact .inr ⟨T,oT,ts,t1,t2,i _ t3,t4⟩
section
variable {P:Mc}{w:Me}{K:LH}{mg:Str->Option LI}{base:Heap}{N:List Str}{qual:Str}{scope:Scope}{f:Addr}{cd:LI}{A:MK}{outer:List Mw}{s:LM}{H:Hp}{E:XK}
theorem Aj {pins:List (Addr×Obj)}{σ:L2.St}{H':Hp}{s':LM}{a C:Addr}{dx:Option Addr}(I:Inv (eB (fH P w) P w K mg base N qual scope f cd A outer s H E) pins σ H' s')(hF:mR (nH (eB (fH P w) P w K mg base N qual scope f cd A outer s H E)) C dx a s'.heap H')(hE:E (.ref C) dx H') :
 (eB (fH P w) P w K mg base N qual scope f cd A outer s H E).xe (.ref a) s':=by
 have hst:=I.stack
 have hsz:s.heap.objs.size<=s'.heap.objs.size:=I.sz
 have hL:∀b o,s.heap.get? b=some o->b∈fG (envOfC qual scope s.heap.objs.size f cd::outer)->b∈fG outer:=fun b o q hb=>by
  rcases My.mp (show b∈s.heap.objs.size::fG outer from hb) with e|e
  ·exact absurd (L4 q) (by rw [e];exact MX _)
  ·exact e
 unfold eB
 dsimp only
 unfold leaving
 refine tqa (DH (P:=P) (w:=w) (New:=fun b=>s.heap.get? b=none) I.ok.frames hst rfl (hF.imp fun b z=>z.1) (fun b z=>Heap.get?_none_of_le (LR hsz z)) I.hok I.stkFree fun h' ch hch u hok fl=>?_)
 have nch:∀b o,s.heap.get? b=some o->b∉ch:=fun b o q z=>by have:=(hch b z).1;rw [q] at this;cases this
 have hb0:Un (fG outer) [] H H' s.heap s'.heap:=I.base
 refine ⟨a,C,dx,H',rfl,I.os,I.bare,⟨fun b o q n hb hx=>?_,fun b o q n hb hx=>?_,hb0.free,fun b o q hx=>?_,hb0.tups,hb0.frzs,hb0.tbls⟩,hok,fl,hE⟩
 ·exact u.keep b o (hb0.keep b o q n hb hx) (hb0.free b o q n hx) (fun z=>hb (hL b o q z)) (nch b o q)
 ·obtain ⟨sl,e⟩:=hb0.slot b o q n hb hx
  obtain ⟨sl',e'⟩:=u.any e (hb0.free b o q n hx) (nch b o q)
  exact ⟨sl',e'⟩
 ·obtain ⟨o',e⟩:=hb0.there b o q hx
  exact u.there b o' e (nch b o q)
end
section
variable {X:Cx}{pins:List (Addr×Obj)}{σ:L2.St}{H H':Hp}{s s':LM}{E:XK}{e:LI}
theorem xW (I:Inv X pins σ H s)(hx:X.ex=[])(h:fH X.prog X.w X.stack H s E e s'):∃a C dx H',e=.ref a/\Inv X pins σ H' s'/\mR (nH X) C dx a s'.heap H'/\E (.ref C) dx H':=by
 obtain ⟨a,C,dx,H',rfl,os,bare,un,hok,fl,q⟩:=h
 refine ⟨a,C,dx,H',rfl,I.call' os un hok bare (fun b z=>absurd z (by simp)),fl.imp fun b z=>⟨?_,fun p hp e=>?_⟩,q⟩
 ·cases e:X.s₀.heap.get? b with
  |none=>rfl
  | some o =>
    obtain ⟨o',e'⟩:=I.base.there b o e (by rw [hx];simp)
    rw [z] at e';cases e'
 ·have:=(I.pin p (NK _ hp)).1
  rw [e,z] at this;cases this
theorem xU {a:Addr}{o:HO}(I:Inv X pins σ H s)(hx:X.ex=[])(hn:H a=none)(h0:X.s₀.heap.get? a=none)(hf:∃ob vs,s.heap.get? a=some ob/\ob.data=.fields vs)(hp:∀p∈X.pn++pins,p.1≠a)(new:cj X.prog X.w (upd H a o) s.heap a o):Inv X pins σ (upd H a o) s:=by
 obtain ⟨ob,vs,hob,hd⟩:=hf
 have ne:∀b u,H b=some u->b≠a:=fun b u e=>aN e hn
 refine ⟨I.ok,I.os,I.bare,⟨I.base.keep,I.base.slot,fun b o e n hx=>?_,I.base.there,fun b xs e=>?_,fun b o u e=>?_,fun b ps e=>?_⟩,I.loc,I.cell,?_,fun x c e=>?_,fun p hp'=>?_,fun b u e=>?_,I.len⟩
 ·rw [ax (fun z=>by rw [z,h0] at e;cases e)];exact I.base.free b o e n hx
 ·have q:=I.base.tups b xs e
  rw [ax (ne b _ q)];exact q
 ·have q:=I.base.frzs b o u e
  rw [ax (ne b _ q)];exact q
 ·obtain ⟨m,q⟩:=I.base.tbls b ps e
  exact ⟨m,by rw [ax (ne b _ q)];exact q⟩
 ·obtain ⟨m,⟨oL,es,ep,ho,hdL,_⟩,_⟩:=id I.loc
  rw [ax (fun z=>by rw [z,hob] at ho;cases ho;rw [hd] at hdL;cases hdL)];exact I.free
 ·obtain ⟨v,o2,e2,d2⟩:=I.cell x c e
  rw [ax (fun z=>by rw [z,hob] at e2;cases e2;rw [hd] at d2;cases d2)];exact I.freeC x c e
 ·obtain ⟨e,n,r⟩:=I.pin p hp'
  exact ⟨e,by rw [ax (hp p hp')];exact n,r⟩
 ·by_cases hb:b=a
  ·subst hb
   rw [bt] at e;cases e
   exact new
  ·rw [ax hb] at e
   exact (I.hok b u e).stay (fun c v _ q=>q) (fun c q=>by rw [ax (ne c _ q)];exact q) fun c xs q=>by rw [ax (ne c _ q)];exact q
end
noncomputable def kK {α:Type}(r:Res α)(k:α->Mem->Prop)(kx:D->Mem->Prop):Prop:=match r with
 |.ok a M=>k a M
 |.err x M=>kx x M
 |.bad=>False
theorem xv {α:Type}{r:Res α}{k:α->Mem->Prop}{kx:D->Mem->Prop}(h:ah r k):kK r k kx:=by
 cases r with
 |ok a M=>exact h
 |err=>exact h.elim
 |bad=>exact h
noncomputable def vP (fa:Fa)(K:LH)(μ:Mu)(H:Hp)(E:XK)(x:D)(M':Mem):Prop:=∀C dx c p H' μ',Ext μ H μ' H'->RelM fa K μ' H' M'->x=.exc c p->fa (eP c)=some C->vO H' c dx p->E (.ref C) dx H'
theorem lX {P:Mc}{w:Me}{X:Cx}:Passes (fH P w) X E0:=fun _ _ _ _ _ _ _ h=>let ⟨_,_,_,_,_,_,_,_,_,_,z⟩:=h;z.elim
end LD
namespace LD
open PySem PySem.Spec PyProof.Rows L2
noncomputable def Bo (fa:Fa)(K:LH)(k:Nat)(call:List D->Mem->Res D):Sp:=fun vs H Q E=>vs.length=k/\∃μ M ds,RelM fa K μ H M/\aG fa K μ H ds vs/\kK (call ds M) (a7 fa K μ H Q) (vP fa K μ H E)
noncomputable def eK (fa:Fa)(P:Mc)(w:Me)(K:LH)(mg:Str->Option LI)(base:Heap)(n:Nat)(f:Nat)(call:List D->Mem->Res D):Prop:=
 (∀ds M,call ds M=.bad)\/∃(ad:Addr) (fd:NV) (ps:List Str),fa f=some ad/\PySem.W.keepIn K (.ref ad)=true/\Binds K fd ps []/\(∀ds M,ds.length≠ps.length->call ds M=.bad)/\fU P w K mg base (fH P w) (2*n+4) ad fd ps (Bo fa K ps.length call)
section
variable {fa:Fa}{X:Cx}{a b d:Expr}{ga gb gd:Env->Mem->Res D}{pos p:Pos}{es:List Expr}{gs:Env->Mem->Res (List D)}{n:Nat}
theorem sX {call:List D->Mem->Res D}{P:D->Mem->Prop}{r:Res (List D)}(hb:∀ds M,call ds M=.bad)(h:ah (r.bind fun ds M=>call ds M) P):False:=by
 obtain ⟨ds,M,_,q⟩:=aK h
 rw [hb] at q
 exact q
theorem lK {call:List D->Mem->Res D}{k:Nat}{σ:L2.St}{H:Hp}{Q:VK}{μ:Mu}{Z:Env}{M:Mem}(hE:a8 fa X.K μ H σ Z)(hM:RelM fa X.K μ H M)(h:ah ((gs Z M).bind fun ds M=>call ds M) (a7 fa X.K μ H Q))
 (hk:∀ds M1,ds.length≠k->call ds M1=.bad):uM (Bo fa X.K k call) [] E0 (tA fa X.K gs) σ H Q:=by
 refine pR hE hM h fun ds M1 vs H1 μ1 x1 hE1 hM1 r1 h1=>?_
 rw [NW]
 refine ⟨?_,μ1,M1,ds,hM1,r1,xv (jr h1 x1)⟩
 rw [r1.length]
 by_cases hl:ds.length=k
 ·exact hl
 ·rw [hk ds M1 hl] at h1;exact h1.elim
theorem Ho {f:Nat}{x:Str}{call:List D->Mem->Res D}(C:eK fa X.prog X.w X.K X.mg X.base n f call)(hr:bx (2*n+4) X.A)(hg:Gl X x)(hm:∀ad,fa f=some ad->X.mg x=some (.ref ad))(hs:DA fa X (a::es) gs)
 (hdb:(x==("__debug__":Str))=false) (he:starEach (a::es) X.env=(false,eval a X.env)::starEach es X.env) (hpl:(backTo pos (starEach es X.env)).any (·.1)=false) :
 DE fa X (.Call (.Name x p) (a::es) [] pos) (fun Z M=>(gs Z M).bind fun ds M=>call ds M):=by
 rcases C with hb|⟨ad,fd,ps,h1,h2,h3,h4,F⟩
 ·exact fun pins s σ H Q I ⟨μ,Z,M,hE,hM,h⟩=>(sX hb h).elim
 ·exact bq (Dv F hr hg (hm ad h1) h2 h3 .nil lX hs hdb he hpl) fun σ H Q ⟨μ,Z,M,hE,hM,h⟩=>lK hE hM h h4
theorem Em {i:Nat}{x:Str}{call:Nat->List D->Mem->Res D}(C:∀f,eK fa X.prog X.w X.K X.mg X.base n f (call f))(hr:bx (2*n+4) X.A)(hN:X.N[i]?=some x)(hv:qC X.env.scope x)(hs:DA fa X (a::es) gs)
 (hd:(x==("__debug__":Str))=false) (hcd:(x==("__classdict__":Str))=false) (he:starEach (a::es) X.env=(false,eval a X.env)::starEach es X.env) (hpl:(backTo pos (starEach es X.env)).any (·.1)=false) :
 DE fa X (.Call (.Name x p) (a::es) [] pos) (fun Z M=>match Z[i]?.getD none with|some (.fn f)=>(gs Z M).bind fun ds M=>call f ds M|_=>.bad):=by
 intro pins s σ H Q I ⟨μ,Z,M,hE,hM,h⟩
 dsimp only at h
 cases e:Z[i]?.getD none with
 |none=>rw [e] at h;exact h.elim
 | some df =>
   cases df with
   | fn f =>
     rw [e] at h
     simp only at h
     have e':Z[i]?=some (some (.fn f)):=by
      cases q:Z[i]? with
      |none=>rw [q] at e;cases e
      |some o=>rw [q] at e;simp at e;rw [e]
     obtain ⟨v,hv1,hv2⟩:=hE.at' i _ e'
     obtain ⟨ad,rfl,had⟩:=hv2
     rcases C f with hb|⟨ad',fd,ps,h1,h2,h3,h4,F⟩
     ·exact (sX hb h).elim
     ·rcases had with had|⟨had,_⟩<;>rw [had] at h1<;>cases h1
      refine wpAny_Call_Name_kw (aO (nV hN hv hd hcd pins s σ H (fun v H'=>v=.ref ad/\H'=H) I ⟨_,hv1,rfl,rfl⟩) fun u s1 ⟨v,H1,I1,r1,e1,e2⟩=>?_)
      subst e1 e2
      obtain rfl:u=Value.ref ad:=r1
      refine Nz (h₀:=X.base) I1.ok.mod.kin h2 (aO (hs pos pins s1 σ H1 _ I1 (lK hE hM h h4)) fun us s2 ⟨vs,H2,I2,r,q⟩=>⟨I2.kIn,?_⟩) he hpl
      exact kY F hr h3 .nil lX I2 r q
   |_=>rw [e] at h;exact h.elim
theorem vC (f:tm){x:Str}{id:String}(hc:cF X (.builtin id) (m7 fa X.K f))(hg:Gl X x)(hm:X.mg x=none)(hv:bootBuiltins x=some (.builtin id))(hs:DA fa X (a::es) gs)(hn:x≠"__name__")(hdb:(x==("__debug__":Str))=false)
 (he:starEach (a::es) X.env=(false,eval a X.env)::starEach es X.env) (hpl:(backTo pos (starEach es X.env)).any (·.1)=false):DE fa X (.Call (.Name x p) (a::es) [] pos) (fun Z M=>(gs Z M).bind fun ds M=>dj f ds M):=
 bq (rY hc hg hm hv hs hn hdb he hpl) fun σ H Q ⟨μ,Z,M,hE,hM,h⟩=>pR hE hM h fun ds M1 vs H1 μ1 x1 hE1 hM1 r1 h1=>⟨μ1,M1,ds,hM1,r1,jr h1 x1⟩
theorem yk (f:tm){x:Str}{T:String}(hc:cF X (.type T) (m7 fa X.K f))(hg:Gl X x)(hm:X.mg x=none)(hv:bootBuiltins x=some (.type T))(hs:DA fa X (a::es) gs)(hn:x≠"__name__")(hdb:(x==("__debug__":Str))=false)
 (he:starEach (a::es) X.env=(false,eval a X.env)::starEach es X.env) (hpl:(backTo pos (starEach es X.env)).any (·.1)=false):DE fa X (.Call (.Name x p) (a::es) [] pos) (fun Z M=>(gs Z M).bind fun ds M=>dj f ds M):=
 bq (xm hc hg hm hv hs hn hdb he hpl) fun σ H Q ⟨μ,Z,M,hE,hM,h⟩=>pR hE hM h fun ds M1 vs H1 μ1 x1 hE1 hM1 r1 h1=>⟨μ1,M1,ds,hM1,r1,jr h1 x1⟩
theorem Hm (t:Ty)(ht:∀c,t≠.own c){x:Str}{p1 p2:Pos}(ha:DE fa X a ga)(hg:Gl X "isinstance")(hm:X.mg "isinstance"=none)(hv:bootBuiltins "isinstance"=some (.builtin "isinstance"))(hgt:Gl X x)(hmt:X.mg x=none)(hvt:bootBuiltins x=some (.type (tyName t)))
 (hn:x≠"__name__") (hdb:(x==("__debug__":Str))=false)
 (he:starEach [a,.Name x p1] X.env=(false,eval a X.env)::starEach [.Name x p1] X.env):DE fa X (.Call (.Name "isinstance" p2) [a,.Name x p1] [] pos) (fun Z M=>(ga Z M).bind fun x M=>(bV M (dN t x)).bind fun b M=>.ok (.bl b) M):=
 bq (rY (G0 (fa:=fa) t ht) hg hm hv (cK ha (cK (Dw hgt hmt hvt (v:=.ty (tyName t)) rfl hn hdb) fD (by rfl)) he) (by decide) (by decide) he (by rfl)) fun σ H Q ⟨μ,Z,M,hE,hM,h⟩=>t1 hE hM h fun x M1 v H1 μ1 x1 hE1 hM1 r1 h1=>by
  obtain ⟨b,e,q⟩:=nZ h1
  exact ⟨μ1,M1,x,v,b,rfl,hM1,r1,e,aZ (v:=.bl b) hM1 (q.ext x1) rfl⟩
noncomputable def gT (fa:Fa)(K:LH)(t:cy):TG:=fun v σ H Q=>∃μ Z M d ρ1,a8 fa K μ H σ Z/\RelM fa K μ H M/\Rep fa K μ H d v/\bW t d Z=some ρ1/\∀σ1,a8 fa K μ H σ1 ρ1->Q σ1 H
theorem xj {tg:Expr}{g g':TG}(h:PG X tg g)(i:∀v σ H Q,g' v σ H Q->g v σ H Q):PG X tg g':=fun pins s σ H v u Q I r q=>h pins s σ H v u Q I r (i v σ H Q q)
theorem t9 {tg:List Expr}{g g':oG}(h:tf X tg g)(i:∀v σ H Q,g' v σ H Q->g v σ H Q):tf X tg g':=fun pins s σ H v u Q I r q=>h pins s σ H v u Q I r (i v σ H Q q)
theorem Ei {i:Nat}{x:Str}(hN:X.N.Nodup)(hi:X.N[i]?=some x)(hx:Loc X.env.scope x)(hf:X.fn x=true\/X.env.scope.names.lookup x=some .local):PG X (.Name x pos) (gT fa X.K (.one i)):=
 xj (ua hN hi hx hf) fun v σ H Q ⟨μ,Z,M,d,ρ1,hE,hM,r,e,k⟩=>by
  have e':Z.set i (some d)=ρ1:=LO e
  subst e'
  exact k _ (hE.set r)
noncomputable def GV (fa:Fa)(K:LH)(l:List Nat):oG:=fun vs σ H Q=>∃μ Z M ds ρ1,a8 fa K μ H σ Z/\RelM fa K μ H M/\aG fa K μ H ds vs/\eV l ds Z=some ρ1/\∀σ1,a8 fa K μ H σ1 ρ1->Q σ1 H
inductive jD (X:Cx):List Nat->List Expr->Prop
 |nil:jD X [] []
 |cons {i:Nat}{x:Str}{p:Pos}{l:List Nat}{ns:List Expr} (hi:X.N[i]?=some x) (hx:Loc X.env.scope x) (hf:X.fn x=true\/X.env.scope.names.lookup x=some .local) (r:jD X l ns):jD X (i::l) (.Name x p::ns)
theorem jD.each {l:List Nat}{ns:List Expr}(h:jD X l ns):(assignEach ns X.env).length=l.length/\(assignEach ns X.env).findIdx? (·.1)=none:=by
 induction h with
 |nil=>exact ⟨rfl,rfl⟩
 | cons hi hx hf r ih =>
   rename_i i x p l ns
   have e:assignEach (.Name x p::ns) X.env=(false,assign (.Name x p) X.env)::assignEach ns X.env:=rfl
   rw [e]
   refine ⟨by simp [ih.1],?_⟩
   rw [List.findIdx?_cons]
   simp [ih.2]
theorem AL (hN:X.N.Nodup){l:List Nat}{ns:List Expr}(h:jD X l ns):tf X ns (GV fa X.K l):=by
 induction h with
 | nil =>
   refine t9 Ds fun vs σ H Q ⟨μ,Z,M,ds,ρ1,hE,hM,r,e,k⟩=>?_
   cases ds with
   | nil =>
     obtain rfl:vs=[]:=r
     have e':Z=ρ1:=LO e
     subst e'
     exact ⟨rfl,k _ hE⟩
   |cons=>cases e
 | cons hi hx hf r ih =>
   refine t9 (zQ (ua hN hi hx hf) ih (by rfl)) fun vs σ H Q ⟨μ,Z,M,ds,ρ1,hE,hM,r,e,k⟩=>?_
   cases ds with
   |nil=>cases e
   | cons d ds =>
     obtain ⟨v,vr,rfl,r1,r2⟩:=r
     exact ⟨v,vr,rfl,μ,_,M,ds,ρ1,hE.set r1,hM,r2,e,k⟩
theorem kJ:∀{l:List Nat}{ds:List D}{Z ρ1:Env},eV l ds Z=some ρ1->ds.length=l.length
 |[],[],_,_,_=>rfl
 |_::_,[],_,_,h=>by cases h
 |[],_::_,_,_,h=>by cases h
 | _ :: l, _ :: ds, _, _, h => by
   have:=kJ (l:=l) (ds:=ds) h
   simp [this]
theorem Hg (hc:X.calm=true)(hN:X.N.Nodup){l:List Nat}{ns:List Expr}{k:Nat}(h:jD X l ns):PG X (.Tuple ns k pos) (gT fa X.K (.tup l)):=
 xj (FK (n:=l.length) hc (AL (fa:=fa) hN h) h.each.1 h.each.2) fun v σ H Q ⟨μ,Z,M,d,ρ1,hE,hM,r,e,k⟩=>by
  cases d with
  | tup ds =>
    obtain ⟨a,vs,rfl,hq,r⟩:=r
    exact ⟨a,vs,rfl,hq,by rw [r.length];exact kJ e,μ,Z,M,ds,ρ1,hE,hM,r,e,k⟩
  |_=>cases e
end
end LD
namespace LD
open PySem PySem.Spec PyProof.Rows L2
section
variable {fa:Fa}{X:Cx}{a b d:Expr}{ga gb gd:Env->Mem->Res D}{pos p:Pos}{es:List Expr}{gs:Env->Mem->Res (List D)}{n:Nat}
theorem Hd {tg:Expr}{t:cy}(ha:DE fa X a ga)(hg:PG X tg (gT fa X.K t))(hs:swapsWithSole [tg] a pos.line X.env=pure false)(hw:swappedStores [tg] a X.env=pure none)(h1:(assignEach [tg] X.env).map (·.2)=[assign tg X.env]) :
 DS fa X (.Assign [tg] a pos) (fun Z M=>(ga Z M).bind fun x M=>(bV M (bW t x Z)).bind fun ρ1 M=>.ok (.next ρ1) M):=
 dU (rS ha hg hs hw h1) fun D σ H ⟨μ,Z,M,hE,hM,h⟩=>t1 hE hM h fun x M1 v H1 μ1 x1 hE1 hM1 r1 h1=>by
  obtain ⟨ρ1,M2,e,q⟩:=aK h1
  cases eb:bW t x Z with
  |none=>rw [eb] at e;cases e
  | some ρ2 =>
    rw [eb] at e
    cases e
    exact ⟨μ1,Z,M1,x,ρ1,hE1,hM1,r1,eb,fun σ1 hE2=>q σ1 H1 μ1 x1 hE2 hM1⟩
theorem pL {D':Ends}{μ:Mu}{H:Hp}{σ:L2.St}{Z:Env}{M:Mem}{k:Nat}{ad:Addr}{ws:List V}{ds:List D}(hE:a8 fa X.K μ H σ Z)(hM:RelM fa X.K μ H M)(hk:μ.pub k=some ad)(r:aG fa X.K μ H ds ws)
 (q:∀σ' H' μ',Ext μ H μ' H'->a8 fa X.K μ' H' σ' Z->RelM fa X.K μ' H' (M.set k ds)->D'.nx σ' H'):D'.nx σ (upd H ad (.lst ws)):=
 q σ _ μ (Ext.write (vs:=ws) hM hk) (hE.ext (Ext.write (vs:=ws) hM hk)) (hM.write hk r)
theorem Ha (ha:DE fa X a ga)(hb:DE fa X b gb)(hd:DE fa X d gd){p2:Pos}
 (h0:∀v,assign (.Subscript a b p2) X.env v=(do
  let ov <- holding [v] (eval a X.env)
  let iv <- holding [v,ov] (eval b X.env)
  standAt p2
  holding [v,ov,iv] (setItem ov iv v)
  release [v,ov,iv] [])) (hs:swapsWithSole [.Subscript a b p2] d pos.line X.env=pure false) (hw:swappedStores [.Subscript a b p2] d X.env=pure none) (h1:(assignEach [.Subscript a b p2] X.env).map (·.2)=[assign (.Subscript a b p2) X.env]) :
 DS fa X (.Assign [.Subscript a b p2] d pos) (fun Z M=>(gd Z M).bind fun z M=>(ga Z M).bind fun x M=>(gb Z M).bind fun y M=>match x,y with
  | .cell k, .int n => match M[k]? with
    | some ds => match bL ds.length n with
      |some j=>.ok (.next Z) (M.set k (ds.set j z))
      |none=>.bad
    |none=>.bad
  |_,_=>.bad):=
 dU (rS hd (FL ha hb set_list h0) hs hw h1) fun D' σ H ⟨μ,Z,M,hE,hM,h⟩=>t1 hE hM h fun z M1 v H1 μ1 x1 hE1 hM1 r1 h1=>t2 hE1 hM1 h1 fun x y M2 vx vy H2 μ2 x2 hE2 hM2 rx ry h2=>by
  have key:∀k n,x=.cell k->y=.int n->Bt vx vy v H2 fun H3=>D'.nx σ H3:=fun k n e1 e2=>by
   subst e1 e2
   dsimp only at h2
   cases e:M2[k]? with
   |none=>rw [e] at h2;exact h2.elim
   | some ds =>
     rw [e] at h2
     dsimp only at h2
     cases ej:LD.bL ds.length n with
     |none=>rw [ej] at h2;exact h2.elim
     | some j =>
       rw [ej] at h2
       obtain ⟨ad,rfl,hk⟩:=rx
       obtain ⟨ws,h4,h5⟩:=hM2.at_ e hk
       have q:∀σ' H' μ',Ext μ H μ' H'->a8 fa X.K μ' H' σ' Z->RelM fa X.K μ' H' (M2.set k (ds.set j z))->D'.nx σ' H':=h2
       refine ⟨ad,ws,n,j,rfl,ry,h4,by rw [h5.length];exact ej,pL hE2 hM2 hk (h5.set j (r1.ext x2)) fun σ' H' μ' x' e' m'=>q σ' H' μ' ((x1.trans x2).trans x') e' m'⟩
  cases x with
  | cell k => cases y with
    |int n=>exact key k n rfl rfl
    |_=>exact h2.elim
  |_=>exact h2.elim
theorem He (ha:DE fa X a ga)(hd:DE fa X d gd){apos cpos:Pos}(hbase:attributeBase a "append" X.env (eval a X.env)=eval a X.env)(hline:(apos.endLine==cpos.line)=true)(hs:starEach [d] X.env=[(false,eval d X.env)])
 (hsw:swapsWith (.Call (.Attribute a "append" apos) [d] [] cpos) none pos.line X.env=pure false) :
 DS fa X (.Expr (.Call (.Attribute a "append" apos) [d] [] cpos) pos) (fun Z M=>(ga Z M).bind fun x M=>(gd Z M).bind fun z M=>match x with
  | .cell k => match M[k]? with
    |some ds=>if ds.length<sz then .ok (.next Z) (M.set k (ds++[z])) else .bad
    |none=>.bad
  |_=>.bad):=
 dU (lW (Ip PySem.F.plainAttrs_list PySem.F.slot_list_append PySem.F.type_list_append ql ha (cK hd fD hs) hbase (by rw [hs];rfl) hline hs (by rfl)) hsw) fun D' σ H ⟨μ,Z,M,hE,hM,h⟩=>by
  obtain ⟨x,M1,e1,h1⟩:=aK h
  obtain ⟨z,M2,e2,h2⟩:=aK h1
  cases x with
  | cell k =>
    dsimp only at h2
    cases e:M2[k]? with
    |none=>rw [e] at h2;exact h2.elim
    | some ds =>
      rw [e] at h2
      dsimp only at h2
      split at h2
      ·next hz=>
       have q:∀σ' H' μ',Ext μ H μ' H'->a8 fa X.K μ' H' σ' Z->RelM fa X.K μ' H' (M2.set k (ds++[z]))->D'.nx σ' H':=h2
       refine ⟨μ,Z,M,hE,hM,?_⟩
       rw [e1]
       intro vx H1 μ1 x1 hM1 rx
       obtain ⟨ad,rfl,hk⟩:=rx
       obtain ⟨ds1,ws1,_,hH1,_⟩:=hM1.mu_lt hk
       refine ⟨.inl ⟨rfl,ws1,b9.of hH1⟩,μ1,Z,M1,hE.ext x1,hM1,?_⟩
       rw [e2]
       intro vz H2 μ2 x2 hM2 rz
       obtain ⟨ws,h4,h5⟩:=hM2.at_ e (x2.mu k ad hk)
       refine ⟨ad,ws,vz,rfl,rfl,h4,by rw [h5.length,<- cX];exact hz,?_⟩
       exact pL ((hE.ext x1).ext x2) hM2 (x2.mu k ad hk) (h5.append (.one rz)) fun σ' H' μ' x' e' m'=>q σ' H' μ' ((x1.trans x2).trans x') e' m'
      ·exact h2.elim
  |_=>exact h2.elim
theorem IW (ha:DE fa X a ga)(hs:swapsWith a none pos.line X.env=pure false):DS fa X (.Expr a pos) (fun Z M=>(ga Z M).bind fun _ M=>.ok (.next Z) M):=
 dU (lW ha hs) fun D' σ H ⟨μ,Z,M,hE,hM,h⟩=>t1 hE hM h fun x M1 v H1 μ1 x1 hE1 hM1 r1 h1=>h1 σ H1 μ1 x1 hE1 hM1
theorem G9 (ha:DE fa X a ga):DS fa X (.Return (some a) pos) (fun Z M=>(ga Z M).bind fun x M=>.ok (.ret x) M):=
 dU (xa ha) fun D' σ H ⟨μ,Z,M,hE,hM,h⟩=>by
  obtain ⟨x,M1,e,q⟩:=aK h
  refine ⟨μ,Z,M,hE,hM,?_⟩
  rw [e];exact q
theorem D9:DS fa X (.Return none pos) (fun _ M=>.ok (.ret .non) M):=dU Dm fun D' σ H ⟨μ,Z,M,hE,hM,h⟩=>aZ (v:=.non) hM h rfl
theorem Ea:DS fa X (.Pass pos) (fun Z M=>.ok (.next Z) M):=dU Dn fun D' σ H ⟨μ,Z,M,hE,hM,h⟩=>h σ H μ .refl hE hM
theorem oM.ext {μ μ':Mu}{H H':Hp}{D':Ends}(x:Ext μ H μ' H'){fl:Fl}{M:Mem}(q:oM fa X μ H D' fl M):oM fa X μ' H' D' fl M:=by
 cases fl with
 |next ρ'=>exact fun σ' H'' μ'' y e m=>q σ' H'' μ'' (x.trans y) e m
 |ret d=>exact a7.ext q x
 |exc x' ρ'=>exact XW.ext q x
theorem F9 {r:Res Fl}{μ μ':Mu}{H H':Hp}{D':Ends}(x:Ext μ H μ' H')(h:ah r (oM fa X μ H D')):ah r (oM fa X μ' H' D'):=aQ h fun fl M q=>q.ext x
theorem Hb {c:Expr}{gc:Env->Mem->Res Bool}{st sf:List Stmt}{gt gf:Env->Mem->Res Fl}(hc:DT fa X c gc)(ht:mS fa X st gt)(hf:mS fa X sf gf):DS fa X (.If c st sf pos) (fun Z M=>(gc Z M).bind fun k M=>if k then gt Z M else gf Z M):=
 dU (Ij hc ht hf) fun D' σ H ⟨μ,Z,M,hE,hM,h⟩=>wB hE hM h fun k M1 H1 μ1 x1 hE1 hM1 h1=>by
  cases k with
  |true=>exact ⟨μ1,Z,M1,hE1,hM1,F9 x1 h1⟩
  |false=>exact ⟨μ1,Z,M1,hE1,hM1,F9 x1 h1⟩
theorem D8:mS fa X [] (fun Z M=>.ok (.next Z) M):=t8 t7 fun D' σ H ⟨μ,Z,M,hE,hM,h⟩=>h σ H μ .refl hE hM
theorem AJ {st:Stmt}{ss:List Stmt}{g:Env->Mem->Res Fl}{g':Env->Mem->Res Fl}(h1:DS fa X st g)(h2:mS fa X ss g'):mS fa X (st::ss) (fun Z M=>(g Z M).bind fun fl M=>match fl with
 |.next Z=>g' Z M
 |fl=>.ok fl M):=
 t8 (m8 h1 h2) fun D' σ H ⟨μ,Z,M,hE,hM,h⟩=>by
  obtain ⟨fl,M1,e,q⟩:=aK h
  refine ⟨μ,Z,M,hE,hM,?_⟩
  rw [e]
  cases fl with
  |next ρ1=>exact fun σ1 H1 μ1 x1 hE1 hM1=>⟨μ1,ρ1,M1,hE1,hM1,F9 x1 q⟩
  |ret d=>exact q
  |exc x ρ1=>exact q
end
end LD
namespace LD
open PySem PySem.Spec PyProof.Rows L2
noncomputable def c8 (fa:Fa)(K:LH)(μ0:Mu)(H0:Hp)(w:Walk)(J:It):Prop:=
 ∀(μ:Mu) (H:Hp) (M:Mem) (ds:List D),ExtW μ0 H0 μ H->RelM fa K μ H M->w M=some ds->(∀(i:Nat) (d:D),ds[i]?=some d->J.go i H/\∀x H',J.yld i H x H'->Ext μ H μ H'/\RelM fa K μ H' M/\Rep fa K μ H' d x)/\∀i,ds.length<=i->J.stop i H
noncomputable def tI (fa:Fa)(K:LH)(g:Env->Mem->Res Walk):TI:=fun σ H R=>∃μ Z M,a8 fa K μ H σ Z/\RelM fa K μ H M/\ah (g Z M) fun w M'=>∀J H' μ',Ext μ H μ' H'->RelM fa K μ' H' M'->c8 fa K μ' H' w J->R J H'
abbrev DI (fa:Fa)(X:Cx)(tg iter:Expr)(g:Env->Mem->Res Walk):Prop:=PI X tg iter (tI fa X.K g)
theorem v8 {fa:Fa}{K:LH}{μ0 μ1:Mu}{H0 H1:Hp}{w:Walk}{J:It}(h:c8 fa K μ0 H0 w J)(x:ExtW μ0 H0 μ1 H1):c8 fa K μ1 H1 w J:=fun μ H M ds y hM e=>h μ H M ds (x.trans y) hM e
section
variable {fa:Fa}{X:Cx}{tg a b d:Expr}{ga gb gd:Env->Mem->Res D}{pos p:Pos}{es:List Expr}{n:Nat}
theorem v9 {μ0:Mu}{H0:Hp}{dd:D}{ad:Addr}(h:Rep fa X.K μ0 H0 dd (.ref ad)):c8 fa X.K μ0 H0 (fun M=>eG M dd) (HG X.K ad):=fun μ H M ds x hM e=>by
 obtain ⟨ad',vs,ea,s,r⟩:=bA hM (Rep.extW x h) e
 cases ea
 refine ⟨fun i d hd=>?_,fun i hi=>⟨vs,s,by rw [r.length];exact hi⟩⟩
 obtain ⟨v,hv,rv⟩:=r.get hd
 refine ⟨⟨vs,v,s,hv⟩,fun y H' ⟨e,hy⟩=>?_⟩
 subst e
 have:=hy vs s
 rw [hv] at this;cases this
 exact ⟨.refl,hM,rv⟩
theorem yG {μ0:Mu}{H0:Hp}{ds:List D}{ad:Addr}(h:Rep fa X.K μ0 H0 (.tup ds) (.ref ad)):c8 fa X.K μ0 H0 (fun _=>some ds) (HE X.K ad):=fun μ H M ds' x hM e'=>by
 cases e'
 obtain ⟨ad',vs,e,s,r⟩:=Rep.extW x h
 cases e
 refine ⟨fun i d hd=>?_,fun i hi=>⟨vs,s,by rw [r.length];exact hi⟩⟩
 obtain ⟨v,hv,rv⟩:=r.get hd
 refine ⟨⟨vs,v,s,hv⟩,fun y H' ⟨e,hy⟩=>?_⟩
 subst e
 have:=hy vs s
 rw [hv] at this;cases this
 exact ⟨.refl,hM,rv⟩
theorem yI {μ0:Mu}{H0:Hp}(lo:Int)(n:Nat):c8 fa X.K μ0 H0 (fun _=>some ((List.range n).map fun (k:Nat)=>D.int (lo+(k:Int)))) (Cf lo n):=fun μ H M ds x hM e=>by
 cases e
 refine ⟨fun i d hd=>?_,fun i hi=>(show n<=i by simpa using hi)⟩
 rw [Mr] at hd
 by_cases hi:i<n
 ·rw [List.getElem?_range hi] at hd
  have e:D.int (lo+(i:Int))=d:=LO hd
  subst e
  refine ⟨hi,fun y H' ⟨e1,e2⟩=>?_⟩
  subst e1 e2
  exact ⟨.refl,hM,rfl⟩
 ·rw [Nq (by simpa using hi)] at hd;cases hd
noncomputable def eY (ga:Env->Mem->Res D):Env->Mem->Res Walk:=fun Z M=>(ga Z M).bind fun x M=>match x with
 |.lst ds=>.ok (fun _=>some ds) M
 |.tup ds=>.ok (fun _=>some ds) M
 |.frz ds=>.ok (fun _=>some ds) M
 |.cell k=>.ok (fun M=>M[k]?) M
 |_=>.bad
theorem Hf (ha:DE fa X a ga):DI fa X tg a (eY ga):=fun pins s σ H R I ⟨μ,Z,M,hE,hM,h⟩=>by
 obtain ⟨x,M1,e,q⟩:=aK h
 have lst:(∀μ' H',RelM fa X.K μ' H' M1->∀v,Rep fa X.K μ' H' x v->∃ds,eG M1 x=some ds)->(∀J H' μ',Ext μ H μ' H'->RelM fa X.K μ' H' M1->c8 fa X.K μ' H' (fun M=>eG M x) J->R J H')->
  wpAny (model X.prog X.w) X.A (eval a X.env) (fun v s1=>wpAny (model X.prog X.w) X.A (pyIter v) (Cb X pins σ tg R) X.xe s1) X.xe s:=fun hx q=>by
  refine Dr ha pins s σ H R I ⟨μ,Z,M,hE,hM,?_⟩
  rw [e]
  intro v H1 μ1 x1 m1 r1
  obtain ⟨ds,er⟩:=hx μ1 H1 m1 v r1
  obtain ⟨ad,vs,rfl,s1,r⟩:=bA m1 r1 er
  exact ⟨ad,rfl,⟨vs,s1⟩,q _ H1 μ1 x1 m1 (v9 r1)⟩
 cases x with
 |lst ds=>exact lst (fun _ _ _ _ _=>⟨ds,rfl⟩) q
 |frz ds=>exact lst (fun _ _ _ _ _=>⟨ds,rfl⟩) q
 | tup ds =>
   refine FI ha pins s σ H R I ⟨μ,Z,M,hE,hM,?_⟩
   rw [e]
   intro v H1 μ1 x1 m1 r1
   obtain ⟨ad,vs,rfl,s1,r⟩:=id r1
   exact ⟨ad,rfl,⟨vs,s1⟩,q _ H1 μ1 x1 m1 (yG r1)⟩
 |cell k=>exact lst (fun μ' H' m' v ⟨ad,_,hk⟩=>let ⟨ds,_,e,_⟩:=m'.mu_lt hk;⟨ds,e⟩) q
 |_=>exact q.elim
noncomputable def dF (ga:Env->Mem->Res D):Env->Mem->Res Walk:=fun Z M=>(ga Z M).bind fun x M=>match x with
 |.int n=>if -(2^62)<=n/\n<2^62 then .ok (fun _=>some ((List.range n.toNat).map fun (k:Nat)=>D.int (k:Int))) M else .bad
 |_=>.bad
theorem Eg (ha:DE fa X a ga)(hg:Gl X "range")(hm:X.mg "range"=none)(hs:starEach [a] X.env=[(false,eval a X.env)]):DI fa X tg (.Call (.Name "range" p) [a] [] pos) (dF ga):=fun pins s σ H R I ⟨μ,Z,M,hE,hM,h⟩=>by
 refine xh hg hm (cK ha fD hs) hs pins s σ H R I ?_
 refine t1 hE hM h fun x M1 v H1 μ1 x1 hE1 hM1 r1 h1=>?_
 cases x with
 | int n =>
   dsimp only at h1
   split at h1
   ·next c=>
    obtain rfl:v=.int n:=r1
    refine ⟨n,rfl,c.1,c.2,h1 _ H1 μ1 x1 hM1 ?_⟩
    have:=yI (fa:=fa) (X:=X) (μ0:=μ1) (H0:=H1) 0 n.toNat
    simpa using this
   ·exact h1.elim
 |_=>exact h1.elim
noncomputable def gn (t:cy)(gb:Env->Mem->Res Fl):Fl->D->Mem->Res Fl:=fun fl d M=>match fl with
 |.next Z=>(bV M (bW t d Z)).bind fun ρ1 M=>gb ρ1 M
 |fl=>.ok fl M
noncomputable def Fl.out:Fl->Bool
 |.next _=>false
 |_=>true
theorem ku {t:cy}{gb:Env->Mem->Res Fl}{fl:Fl}{w:Walk}{P:Fl->Mem->Prop}(ho:fl.out=true):∀(n i:Nat) (M:Mem),ah (eA (gn t gb) w n i fl M) P->P fl M
 |0,_,_,h=>h.elim
 | n + 1, i, M, h => by
   unfold eA at h
   cases e:w M with
   |none=>rw [e] at h;exact h.elim
   | some ds =>
     rw [e] at h
     dsimp only at h
     cases e2:ds[i]? with
     |none=>rw [e2] at h;exact h
     | some d' =>
       rw [e2] at h
       cases fl with
       |next Z=>cases ho
       |ret d=>exact ku ho n (i+1) M h
       |exc x Z=>exact ku ho n (i+1) M h
theorem Hc {t:cy}{body:List Stmt}{gw:Env->Mem->Res Walk}{gb:Env->Mem->Res Fl}(hp:PassesOwn (model X.prog X.w) X.A X.env X.xe)(hc:X.calm=true)(hi:DI fa X tg a gw)(hg:PG X tg (gT fa X.K t))(hb:mS fa X body gb)
 (hs:∀x,foldedSetIterable a X.env x=pure x):DS fa X (.For tg a body [] pos) (fun Z M=>(gw Z M).bind fun w M=>dg (gn t gb) w (.next Z) M):=
 dU (FG hp hc hi hg hb hs) fun D' σ H ⟨μ,Z,M,hE,hM,h⟩=>by
  obtain ⟨w,M1,e,q⟩:=aK h
  refine ⟨μ,Z,M,hE,hM,?_⟩
  rw [e]
  intro J H1 μ1 x1 hM1 wk
  have hE1:=hE.ext x1
  refine ⟨fun i m σ' H'=>∃μ' ρ' M',Ext μ1 H1 μ' H'/\a8 fa X.K μ' H' σ' ρ'/\RelM fa X.K μ' H' M'/\ah (eA (gn t gb) w m i (.next ρ') M') (oM fa X μ H D'),
   ⟨_,μ1,Z,M1,.refl,hE1,hM1,q⟩,?_⟩
  rintro i m σ2 H2 ⟨μ2,ρ2,M2,x2,hE2,hM2,q2⟩
  cases m with
  |zero=>exact q2.elim
  | succ m =>
    unfold eA at q2
    cases e2:w M2 with
    |none=>rw [e2] at q2;exact q2.elim
    | some ds =>
      rw [e2] at q2
      dsimp only at q2
      obtain ⟨go,stop⟩:=wk μ2 H2 M2 ds x2.toExtW hM2 e2
      cases ed:ds[i]? with
      | none =>
        rw [ed] at q2
        exact .inl ⟨stop i (List.getElem?_eq_none_iff.mp ed),q2 σ2 H2 μ2 (x1.trans x2) hE2 hM2⟩
      | some d =>
        rw [ed] at q2
        obtain ⟨g1,g2⟩:=go i d ed
        refine .inr ⟨g1,fun σ' H'=>∃μ' ρ' M',Ext μ1 H1 μ' H'/\a8 fa X.K μ' H' σ' ρ'/\RelM fa X.K μ' H' M'/\ah (eA (gn t gb) w m (i+1) (.next ρ') M') (oM fa X μ H D'),fun σ' H' z=>⟨m,by omega,z⟩,fun y H3 hy=>?_⟩
        obtain ⟨x3,hM3,r3⟩:=g2 y H3 hy
        have q2:ah (((bV M2 (bW t d ρ2)).bind fun ρ1 M=>gb ρ1 M).bind (eA (gn t gb) w m (i+1))) (oM fa X μ H D'):=q2
        obtain ⟨fl,M4,e4,q4⟩:=aK q2
        obtain ⟨ρ4,M5,e5,e6⟩:=eC e4
        cases eb:bW t d ρ2 with
        |none=>rw [eb] at e5;cases e5
        | some ρ5 =>
          rw [eb] at e5
          cases e5
          refine ⟨μ2,ρ2,_,d,ρ4,hE2.ext x3,hM3,r3,eb,fun σ5 hE5=>⟨μ2,ρ4,_,hE5,hM3,?_⟩⟩
          rw [e6]
          cases fl with
          |next ρ6=>exact fun σ6 H6 μ6 x6 hE6 hM6=>⟨μ6,ρ6,M4,(x2.trans x3).trans x6,hE6,hM6,q4⟩
          |ret d6=>exact (ku rfl m (i+1) M4 q4).ext ((x1.trans x2).trans x3)
          |exc x6 ρ6=>exact (ku rfl m (i+1) M4 q4).ext ((x1.trans x2).trans x3)
end
end LD
namespace LD
open PySem PySem.Spec PyProof.Rows L2
abbrev FF:LI->LM->Prop:=fun _ _=>False
section
variable {prog:Mc}{w:Me}{A:MK}{s:LM}
theorem yo {elt:Expr}{gens:List Nl}{scope:Scope}{pos p:Pos}{k:Nat}{it acc:LI}{env:Mw}{R:Result->LM->Prop}{target:Expr}{body:Sem Unit}
 (heq:compTurn (.ListComp elt gens scope pos) k it acc env=(standAt p >>= fun _=>pyNext it >>= fun r=>match r with
  |none=>pure (.done .next)
  |some v=>letOwnedTupleGo target it v >>= fun _=>assign target env v >>= fun _=>body >>= fun _=>again (.compLoop (.ListComp elt gens scope pos) k it acc env)))
 (I:Nat->LM->Prop)
 (turn:∀n s,I n s->wpAny (model prog w) A (pyNext it) (fun r s₁=>match r with
  |none=>R (.ok .next) s₁
  |some v=>wpAny (model prog w) A (letOwnedTupleGo target it v) (fun _ s₂=>wpAny (model prog w) A (assign target env v) (fun _ s₃=>wpAny (model prog w) A body (fun _ s₄=>∃m,m<n/\I m s₄) FF s₃) FF s₂) FF s₁) FF s)
 (n:Nat) (h:I n s):codeAny (model prog w) A (.compLoop (.ListComp elt gens scope pos) k it acc env) R s:=by
 refine codeAny_loop rfl I (fun n s hI=>?_) n h
 show wpAny _ _ ((compTurn (.ListComp elt gens scope pos) k it acc env).onRaise (fun x=>do noteFrame x env;theTreesLotGoes x)) _ _ s
 refine wpAny_noted ?_
 rw [heq]
 refine wpAny_noRaise ?_
 refine tqa (wpAny_standAt (tqa (aO (turn n s hI) fun r s₁ h₁=>?_)))
 cases r with
 |none=>exact tqb h₁
 | some v =>
   refine tqa (aO h₁ fun _ s₂ h₂=>?_)
   exact tqa (aO h₂ fun _ s₃ h₃=>tqa (aO h₃ fun _ s₄ h₄=>tqb ⟨rfl,h₄⟩))
theorem yZ (elt target iter:Expr)(gs:List Nl)(scope:Scope)(pos:Pos)(it acc:LI)(env:Mw) :
 compTurn (.ListComp elt [⟨target,iter,[],0⟩] scope pos) 0 it acc env=(standAt iter.pos >>= fun _=>pyNext it >>= fun r=>match r with
  |none=>pure (.done .next)
  |some v=>letOwnedTupleGo target it v >>= fun _=>assign target env v >>= fun _=>(eval elt env >>= fun x=>call (.builtin "list.append") [acc,x] >>= fun _=>pure ()) >>= fun _=>again (.compLoop (.ListComp elt [⟨target,iter,[],0⟩] scope pos) 0 it acc env)):=by rfl
theorem turn_if (elt target iter c:Expr)(scope:Scope)(pos:Pos)(it acc:LI)(env:Mw) :
 compTurn (.ListComp elt [⟨target,iter,[c],0⟩] scope pos) 0 it acc env=(standAt iter.pos >>= fun _=>pyNext it >>= fun r=>match r with
  |none=>pure (.done .next)
  |some v=>letOwnedTupleGo target it v >>= fun _=>assign target env v >>= fun _=>(isTrue c env (eval c env) >>= fun ok=>if ok=true then (eval elt env >>= fun x=>call (.builtin "list.append") [acc,x] >>= fun _=>pure ()) else pure ()) >>= fun _=>again (.compLoop (.ListComp elt [⟨target,iter,[c],0⟩] scope pos) 0 it acc env)):=by
 rw [compTurn_list]
 refine congrArg _ (funext fun _=>congrArg _ (funext fun r=>?_))
 cases r with
 |none=>rfl
 | some v =>
   simp only [List.forIn_cons,List.forIn_nil,if_true,bind_assoc,pure_bind]
   refine congrArg _ (funext fun _=>congrArg _ (funext fun _=>congrArg _ (funext fun ok=>?_)))
   cases ok<;>simp
theorem yX (elt target iter t2 i2:Expr)(scope:Scope)(pos:Pos)(it acc:LI)(env:Mw) :
 compTurn (.ListComp elt [⟨target,iter,[],0⟩,⟨t2,i2,[],0⟩] scope pos) 0 it acc env=(standAt iter.pos >>= fun _=>pyNext it >>= fun r=>match r with
  |none=>pure (.done .next)
  |some v=>letOwnedTupleGo target it v >>= fun _=>assign target env v >>= fun _=>(eval i2 env >>= fun x=>standAt i2.pos >>= fun _=>foldedSetIterable i2 env x >>= fun x=>holding [x] (pyIter x) >>= fun j=>runOwn (.compStart (.ListComp elt [⟨target,iter,[],0⟩,⟨t2,i2,[],0⟩] scope pos) 1 j acc env) env >>= fun _=>pure ()) >>= fun _=>again (.compLoop (.ListComp elt [⟨target,iter,[],0⟩,⟨t2,i2,[],0⟩] scope pos) 0 it acc env)):=by
 unfold compTurn
 simp only [Nx,bne_self_eq_false,Bool.false_eq_true,if_false]
 refine bind_congr fun _=>bind_congr fun r=>?_
 cases r with
 |none=>rfl
 |some v=>simp
theorem yY (elt target iter t2 i2:Expr)(scope:Scope)(pos:Pos)(it acc:LI)(env:Mw) :
 compTurn (.ListComp elt [⟨target,iter,[],0⟩,⟨t2,i2,[],0⟩] scope pos) 1 it acc env=(standAt i2.pos >>= fun _=>pyNext it >>= fun r=>match r with
  |none=>pure (.done .next)
  |some v=>letOwnedTupleGo t2 it v >>= fun _=>assign t2 env v >>= fun _=>(eval elt env >>= fun x=>call (.builtin "list.append") [acc,x] >>= fun _=>pure ()) >>= fun _=>again (.compLoop (.ListComp elt [⟨target,iter,[],0⟩,⟨t2,i2,[],0⟩] scope pos) 1 it acc env)):=by
 rfl
theorem kD (env:Mw):∀(ns:List (Str×NameKind)) (cs:List (Str×Addr)),(∀y∈ns,y.2=.free->∃c,env.cells.lookup y.1=some c)->(∀x c,cs.lookup x=some c->env.cells.lookup x=some c)->
 ∃cl,(forIn ns cs fun (y:Str×NameKind) (r:List (Str×Addr))=>if (y.2==NameKind.free)=true then cellOf env y.1 >>= fun a=>pure (ForInStep.yield ((y.1,a)::r)) else pure (ForInStep.yield r):Sem _)=pure cl/\
  (∀x c,cl.lookup x=some c->env.cells.lookup x=some c)/\(∀x c,cs.lookup x=some c->∃c',cl.lookup x=some c')/\∀y∈ns,y.2=.free->∃c,cl.lookup y.1=some c
 |[],cs,_,h2=>⟨cs,by simp,h2,fun x c e=>⟨c,e⟩,fun y hy=>nomatch hy⟩
 | (n, k) :: ns, cs, h1, h2 => by
   by_cases hk:k=.free
   ·subst hk
    obtain ⟨a,ha⟩:=h1 (n,.free) Ml rfl
    have lk:∀x c,((n,a)::cs).lookup x=some c->env.cells.lookup x=some c:=fun x c e=>by
     rw [Mm] at e
     split at e
     ·next q=>cases e;rw [eq_of_beq q];exact ha
     ·exact h2 x c e
    obtain ⟨cl,e,p1,p2,p3⟩:=kD env ns ((n,a)::cs) (fun y hy=>h1 y (LY _ hy)) lk
    refine ⟨cl,?_,p1,fun x c q=>?_,fun y hy hf=>?_⟩
    ·rw [List.forIn_cons]
     have ec:cellOf env n=pure a:=by unfold cellOf;rw [ha]
     simp only [beq_self_eq_true,if_true,ec]
     exact e
    ·by_cases hx:x=n
     ·exact p2 x a (by rw [Mm,hx];simp)
     ·exact p2 x c (by rw [Mm,Mx.mpr hx];exact q)
    ·rcases My.mp hy with z|z
     ·subst z;exact p2 n a (by simp [Mm])
     ·exact p3 y z hf
   ·obtain ⟨cl,e,p1,p2,p3⟩:=kD env ns cs (fun y hy=>h1 y (LY _ hy)) h2
    refine ⟨cl,?_,p1,p2,fun y hy hf=>?_⟩
    ·rw [List.forIn_cons]
     have eb:(k==NameKind.free)=false:=by simpa using hk
     simp only [eb,Bool.false_eq_true,if_false]
     exact e
    ·rcases My.mp hy with z|z
     ·subst z;exact absurd hf hk
     ·exact p3 y z hf
theorem vI {scope:Scope}{env:Mw}(h:∀y∈scope.names,y.2=.free->∃c,env.cells.lookup y.1=some c) :
 ∃cl,closureFor scope env=pure cl/\(∀x c,cl.lookup x=some c->env.cells.lookup x=some c)/\∀y∈scope.names,y.2=.free->∃c,cl.lookup y.1=some c:=by
 obtain ⟨cl,e,p1,_,p3⟩:=kD env scope.names [] h (fun x c q=>nomatch q)
 exact ⟨cl,by unfold closureFor;simp only [bind_pure];exact e,p1,p3⟩
end
end LD
namespace LD
open PySem PySem.Spec PyProof.Rows L2
noncomputable def gF (X:Cx)(own bn:List Str)(scope:Scope)(cl:List (Str×Addr))(C:Addr)(fp:List Addr)(s:LM)(H:Hp):Cx:=
 {X with N:=own++bn,s₀:=s,H₀:=H,env:=compEnvC scope cl C X.env,outer:=X.stack,ex:=fp,fn:=fun _=>false,pn:=[],xe:=FF}
theorem mem_of_lookup {β:Type}:∀{l:List (Str×β)}{x:Str}{k:β},l.lookup x=some k->(x,k)∈l
 |[],_,_,h=>by cases h
 | (n, b) :: r, x, k, h => by
   rw [Mm] at h
   split at h
   ·next q=>cases h;rw [eq_of_beq q];exact Ml
   ·exact LY _ (mem_of_lookup h)
theorem gq {env:Mw}:∀{names:List (Str×NameKind)}{x:Str}{k:NameKind},
 (names.map fun (n,k)=>if (k==NameKind.free&&env.scope.kind==.function&&env.kindOf n==some .cell) then (n,NameKind.cell) else (n,k)).lookup x=some k->
 ∃k0,(x,k0)∈names/\names.lookup x=some k0/\(k=k0\/(k0=.free/\k=.cell))
 |[],_,_,h=>by cases h
 | (n, k0) :: r, x, k, h => by
   have ih:=@gq env r x k
   have h:List.lookup x ((if (k0==NameKind.free&&env.scope.kind==.function&&env.kindOf n==some .cell)=true then (n,NameKind.cell) else (n,k0))::_)=some k:=h
   cases hx:x==n with
   | true =>
     have e:=eq_of_beq hx
     subst e
     refine ⟨k0,Ml,by simp [Mm],?_⟩
     split at h
     ·next c=>
      simp [Mm] at h
      simp at c
      exact .inr ⟨c.1.1,h.symm⟩
     ·simp [Mm] at h
      exact .inl h.symm
   | false =>
     have h':List.lookup x (r.map fun (n,k)=>if (k==NameKind.free&&env.scope.kind==.function&&env.kindOf n==some .cell) then (n,NameKind.cell) else (n,k))=some k:=by
      split at h<;>simpa [Mm,hx] using h
     obtain ⟨k1,h1,h2,h3⟩:=ih h'
     exact ⟨k1,LY _ h1,by simp [Mm,hx];exact h2,h3⟩
theorem nY {α β:Type}{R:α->β->Prop}:∀{l:List α}{r:List β}{i:Nat}{x:α},NT R l r->l[i]?=some x->∃y,r[i]?=some y/\R x y
 |_,_,_,_,.nil,e=>by simp at e
 |_,_,0,_,.cons p _,e=>by simp at e;subst e;exact ⟨_,rfl,p⟩
 | _, _, i + 1, x, .cons _ t, e => by
   obtain ⟨y,h1,h2⟩:=nY (i:=i) (x:=x) t (by simpa using e)
   exact ⟨y,by simpa using h1,h2⟩
structure ik (X:Cx) (own bn:List Str) (scope:Scope):Prop where
 kind:scope.kind=.function
 nocell:∀y∈scope.names,y.2≠.cell
 loc:∀y∈scope.names,y.2=.local->scope.names.lookup y.1=some .local
 free:∀y∈scope.names,y.2=.free->X.env.kindOf y.1=some .cell\/X.env.kindOf y.1=some .free
 dis:NT (fun b x=>(b=x/\scope.names.lookup x≠some .local)\/scope.names.lookup b=none) bn X.N
section
variable {X:Cx}{pins:List (Addr×Obj)}{σ:L2.St}{H:Hp}{s:LM}{fp:List Addr}{scope:Scope}{cl:List (Str×Addr)}{own bn:List Str}
structure Cl (X:Cx) (scope:Scope) (cl:List (Str×Addr)):Prop where
 sub:∀x c,cl.lookup x=some c->X.env.cells.lookup x=some c
 has:∀y∈scope.names,y.2=.free->∃c,cl.lookup y.1=some c
theorem Er (I:Inv X pins σ H s)(S:ik X own bn scope)(hcl:Cl X scope cl)(hfp:∀b∈fp,fC X pins H b)(hfo:∀b∈fp,∃o,s.heap.get? b=some o) :
 (gF X own bn scope cl s.heap.objs.size fp s H).Ok where
 mod:=I.ok.mod
 kind:=S.kind
 glob:=I.ok.glob
 blt:=I.ok.blt
 above:=LP _
 inj:=fun x y c h1 h2=>I.ok.inj x y c (hcl.sub x c h1) (hcl.sub y c h2)
 has:=fun x h=>by
  have key:∀k,(relabel scope X.env).names.lookup x=some k->(k=.cell\/k=.free)->∃c,cl.lookup x=some c:=fun k hk hh=>by
   obtain ⟨k0,h1,h2,h3⟩:=gq hk
   have hf:k0=.free:=by
    rcases h3 with e|⟨e,_⟩
    ·rcases hh with z|z
     ·exact absurd (e.symm.trans z) (S.nocell _ h1)
     ·exact e.symm.trans z
    ·exact e
   exact hcl.has _ h1 hf
  rcases h with h|h
  ·exact key _ h (.inl rfl)
  ·exact key _ h (.inr rfl)
 cab:=fun x c h=>nomatch h
 hd:=I.ok.hd
 frames:=I.ok.frames
 stk:=.inl rfl
 exf:=fun b hb=>⟨fun e=>by
  obtain ⟨o,ho⟩:=hfo b hb
  exact absurd (L4 ho) (by rw [e];exact MX _),fun x c e=>(hfp b hb).2.2.2.2.1 x c (hcl.sub x c e)⟩
 bs:=fun b o e=>I.bs b o e
 bsz:=LR I.ok.bsz I.sz
 noex:=fun b o e hb=>by
  rcases (hfp b hb).2.2.2.1 with z|z
  ·exact I.ok.noex b o e z
  ·exact absurd (L5 (L4 e) (LR I.ok.bsz z)) (MX _)
 exfs:=fun b hb hx=>by
  rcases My.mp (I.stkSub b hx) with e|e
  ·exact (hfp b hb).2.1 e
  ·exact (hfp b hb).2.2.1 e
 funs:=I.stack
 frf:=fun b hb=>I.stkFree b hb
theorem AQ (I:Inv X pins σ H s)(S:ik X own bn scope)(hcl:Cl X scope cl)(hfp:∀b∈fp,fC X pins H b)(hfo:∀b∈fp,∃o,s.heap.get? b=some o){h':Heap}{t':Nat}{m:Str->Option LI}
 (hn:h'.Ns s.heap.objs.size m) (hk:∀b o,s.heap.get? b=some o->h'.get? b=some o) :
 Inv (gF X own bn scope cl s.heap.objs.size fp s H) [] (List.replicate own.length none++σ) H {s with heap:=h',toks:=t'} where
 ok:=Er I S hcl hfp hfo
 os:=rfl
 bare:=I.bare
 base:=Un.kept hk
 loc:=by
  refine ⟨m,hn,fun i x v e1 e2 hv=>?_⟩
  have e1:(own++bn)[i]?=some x:=e1
  have hi:own.length<=i:=by
   by_cases q:i<own.length
   ·rw [Ma (by simpa using q),Nw] at e2
    simp [q] at e2
   ·omega
  rw [MF hi] at e1
  rw [MF (by simpa using hi)] at e2
  simp only [List.length_replicate] at e2
  have hx:X.N[i-own.length]?=some x/\scope.names.lookup x≠some .local:=by
   rcases nY S.dis e1 with ⟨y,h1,⟨h2,h3⟩|h2⟩
   ·subst h2;exact ⟨h1,h3⟩
   ·exfalso
    have no:∀k,(relabel scope X.env).names.lookup x≠some k:=fun k hk=>by
     obtain ⟨k0,_,h3,_⟩:=gq hk
     rw [h2] at h3;cases h3
    rcases hv with z|z|z
    ·exact no _ z
    ·exact no _ z
    ·exact no _ z
  have key:∀k,(relabel scope X.env).names.lookup x=some k->(k=.local\/k=.cell\/k=.free)->∃c,(k=.cell\/k=.free)/\cl.lookup x=some c/\(X.env.kindOf x=some .cell\/X.env.kindOf x=some .free):=fun k hk2 hh=>by
   obtain ⟨k0,h1,h2,h3⟩:=gq hk2
   have nl:k0≠.local:=fun e=>hx.2 (by rw [h2,e])
   have hf:k0=.free:=by
    rcases h3 with e|⟨e,_⟩
    ·rcases hh with z|z|z
     ·exact absurd (e.symm.trans z) nl
     ·exact absurd (e.symm.trans z) (S.nocell _ h1)
     ·exact e.symm.trans z
    ·exact e
   obtain ⟨c,hc⟩:=hcl.has _ h1 hf
   refine ⟨c,?_,hc,S.free _ h1 hf⟩
   rcases hh with z|z|z
   ·rcases h3 with e|⟨_,e⟩
    ·rw [hf] at e;rw [e] at z;cases z
    ·rw [e] at z;cases z
   ·exact .inl z
   ·exact .inr z
  have fin:∀k,(relabel scope X.env).names.lookup x=some k->(k=.local\/k=.cell\/k=.free)->∃u,RelV v u/\Look (compEnvC scope cl s.heap.objs.size X.env) h' m x u:=fun k hk2 hh=>by
   obtain ⟨c,h1,h2,h3⟩:=key k hk2 hh
   obtain ⟨m0,_,hl⟩:=I.loc
   obtain ⟨u,r,l⟩:=hl _ x v hx.1 e2 (.inr h3)
   refine ⟨u,r,.inr ⟨?_,c,h2,?_⟩⟩
   ·rcases h1 with z|z
    ·subst z;exact .inl hk2
    ·subst z;exact .inr hk2
   ·rcases l with ⟨z,_⟩|⟨_,c',hc',hcell⟩
    ·rcases h3 with q|q
     ·rw [z] at q;cases q
     ·rw [z] at q;cases q
    ·rw [hcl.sub x c h2] at hc';cases hc'
     obtain ⟨o,ho,hd⟩:=hcell
     exact ⟨o,hk _ _ ho,hd⟩
  rcases hv with z|z|z
  ·exact fin _ z (.inl rfl)
  ·exact fin _ z (.inr (.inl rfl))
  ·exact fin _ z (.inr (.inr rfl))
 cell:=fun x c e=>by
  obtain ⟨v,o,ho,hd⟩:=I.cell x c (hcl.sub x c e)
  exact ⟨v,o,hk _ _ ho,hd⟩
 free:=I.hok.fresh (LP _)
 freeC:=fun x c e=>I.freeC x c (hcl.sub x c e)
 pin:=fun p hp=>nomatch hp
 hok:=I.hok.kept hk
 len:=by
  show (List.replicate own.length none++σ).length=(own++bn).length
  have:=Paired.length S.dis
  simp [I.len,this]
theorem comp_back (I:Inv X pins σ H s)(hfp:∀b∈fp,fC X pins H b){pins':List (Addr×Obj)}{σ':L2.St}{H':Hp}{s':LM}{C:Addr}(I':Inv (gF X own bn scope cl C fp s H) pins' σ' H' s'):Inv X pins σ H' s':=
 I.call' (ch:=fp) I'.os I'.base I'.hok I'.bare fun b hb=>⟨(hfp b hb).2.2.2.1,(hfp b hb).2.1,(hfp b hb).2.2.2.2.1,(hfp b hb).2.2.2.2.2⟩
theorem yp (I:Inv X pins σ H s){σ':L2.St}{H':Hp}{s':LM}(hf:H' s.heap.objs.size=none)(I':Inv X pins σ' H' s'){h'':Heap}(hs:Heap.SameBut s.heap.objs.size s'.heap h''):Inv X pins σ' H' {s' with heap:=h''}:=
 I'.turned (t':=s'.toks) (fun b o hb e=>(hs.2 b hb).trans e) hf (MU I.lt) (.inr I.sz) (fun x c e z=>by
  obtain ⟨v,q⟩:=I.cell x c e
  exact absurd q.lt (by rw [z];exact MX _)) fun p hp z=>absurd (L4 (I.pin p hp).1) (by rw [z];exact MX _)
end
end LD
namespace LD
open PySem PySem.Spec PyProof.Rows L2
structure ff (a:Addr) (μ:Mu) (H:Hp) (μ':Mu) (H':Hp):Prop extends ExtW μ H μ' H' where
 pr:μ'.priv=μ.priv
 pk:∀b∈μ.priv,b≠a->H' b=H b
theorem ff.refl {a:Addr}{μ:Mu}{H:Hp}:ff a μ H μ H:=⟨.refl,rfl,fun _ _ _=>rfl⟩
theorem ff.trans {a:Addr}{μ μ1 μ2:Mu}{H H1 H2:Hp}(x:ff a μ H μ1 H1)(y:ff a μ1 H1 μ2 H2):ff a μ H μ2 H2:=
 ⟨x.toExtW.trans y.toExtW,y.pr.trans x.pr,fun b hb n=>(y.pk b (by rw [x.pr];exact hb) n).trans (x.pk b hb n)⟩
theorem Ext.toD {a:Addr}{μ μ':Mu}{H H':Hp}(x:Ext μ H μ' H'):ff a μ H μ' H':=⟨x.toExtW,x.pr,fun b hb _=>x.pk b hb⟩
noncomputable def slots:cy->List Nat
 |.one i=>[i]
 |.tup l=>l
noncomputable def Clear (W:List Nat)(Z:Env):Prop:=∀i∈W,∀d,Z[i]?≠some (some d)
section
variable {fa:Fa}{K:LH}{μ μ':Mu}{H H':Hp}{σ:L2.St}{Z ρ1:Env}{M:Mem}{a:Addr}
theorem a8.weak (h:a8 fa K μ H σ ρ1)(hl:ρ1.length=Z.length)(w:∀(i:Nat) d,Z[i]?=some (some d)->ρ1[i]?=some (some d)):a8 fa K μ H σ Z:=
 ⟨h.len.trans hl,fun i d e=>h.at' i d (w i d e)⟩
theorem nP:∀{l:List Nat}{ds:List D}{Z ρ1:Env},eV l ds Z=some ρ1->ρ1.length=Z.length/\∀i,i∉l->ρ1[i]?=Z[i]?
 |[],[],Z,ρ1,h=>by cases h;exact ⟨rfl,fun _ _=>rfl⟩
 |_::_,[],_,_,h=>by cases h
 |[],_::_,_,_,h=>by cases h
 | j :: l, d :: ds, Z, ρ1, h => by
   obtain ⟨h1,h2⟩:=nP (l:=l) (ds:=ds) h
   refine ⟨by simpa using h1,fun i hi=>?_⟩
   rw [h2 i (fun z=>hi (LY _ z)),LS (fun z=>hi (by rw [z];exact Ml))]
theorem qv {t:cy}{d:D}(h:bW t d Z=some ρ1):ρ1.length=Z.length/\∀i,i∉slots t->ρ1[i]?=Z[i]?:=by
 cases t with
 | one j =>
   have h:some (Z.set j (some d))=some ρ1:=h
   cases h
   exact ⟨by simp,fun i hi=>LS (fun z=>hi (by rw [z];exact Ml))⟩
 | tup l =>
   cases d with
   |tup ds=>exact nP h
   |_=>cases h
theorem a8.unbind {t:cy}{d:D}(h:bW t d Z=some ρ1)(c:Clear (slots t) Z)(r:a8 fa K μ H σ ρ1):a8 fa K μ H σ Z:=by
 obtain ⟨h1,h2⟩:=qv h
 refine r.weak h1 fun i d e=>?_
 by_cases hi:i∈slots t
 ·exact absurd e (c i hi d)
 ·rw [h2 i hi];exact e
theorem RelM.writeP (h:RelM fa K μ H M){ws vs:List V}(e:a∈μ.priv)(hH:H a=some (.lst vs)):RelM fa K μ (upd H a (.lst ws)) M:=by
 have x:ExtW μ H μ (upd H a (.lst ws)):=ExtW.write hH (.inr e)
 refine ⟨fun k ds q=>?_,h.out,h.oout,h.inj,h.oinj,h.sep,fun b hb=>⟨?_,(h.pv b hb).2⟩⟩
 ·rcases h.at' k ds q with ⟨b,us,h1,h2,h3⟩|⟨b,c,C,dx,fs,es,h1,h2,h3,h4,h5,h6,h7⟩
  ·have nb:b≠a:=fun z=>(h.pv a e).2 k (by rw [h1,z])
   exact .inl ⟨b,us,h1,by rw [ax nb];exact h2,h3.extW x⟩
  ·have nb:b≠a:=fun z=>by rw [z,hH] at h4;cases h4
   exact .inr ⟨b,c,C,dx,fs,es,h1,h2,h3,by rw [ax nb];exact h4,h5,h6,h7.extW x⟩
 ·by_cases hb':b=a
  ·subst hb';exact ⟨ws,bt⟩
  ·obtain ⟨us,q⟩:=(h.pv b hb).1
   exact ⟨us,by rw [ax hb'];exact q⟩
theorem ff.writeP {ws vs:List V}(e:a∈μ.priv)(hH:H a=some (.lst vs)):ff a μ H μ (upd H a (.lst ws)):=
 ⟨ExtW.write hH (.inr e),rfl,fun b _ n=>by rw [ax n]⟩
end
noncomputable def WB (fa:Fa)(K:LH)(a:Addr)(μ:Mu)(H:Hp)(Z:Env)(Q:L2.St->Hp->Prop)(acc:List D)(M':Mem):Prop:=
 ∀σ' H' μ' vs',ff a μ H μ' H'->a8 fa K μ' H' σ' Z->RelM fa K μ' H' M'->H' a=some (.lst vs')->aG fa K μ' H' acc vs'->Q σ' H'
theorem WB.ext {fa:Fa}{K:LH}{a:Addr}{μ μ1:Mu}{H H1:Hp}{Z:Env}{Q:L2.St->Hp->Prop}{acc:List D}{M':Mem}(h:WB fa K a μ H Z Q acc M')(x:ff a μ H μ1 H1):WB fa K a μ1 H1 Z Q acc M':=
 fun σ' H' μ' vs' y e m h1 h2=>h σ' H' μ' vs' (x.trans y) e m h1 h2
noncomputable def DB (fa:Fa)(X:Cx)(a:Addr)(W:List Nat)(body:Sem Unit)(g:Env->List D->Mem->Res (List D)):Prop:=
 ∀(pins:List (Addr×Obj)) (s:LM) (σ:L2.St) (H:Hp) (Q:L2.St->Hp->Prop) (μ:Mu) (Z:Env) (M:Mem) (acc:List D) (vs:List V),Inv X pins σ H s->a8 fa X.K μ H σ Z->RelM fa X.K μ H M->Clear W Z->a∈μ.priv->H a=some (.lst vs)->aG fa X.K μ H acc vs->
  ah (g Z acc M) (WB fa X.K a μ H Z Q)->wpAny (model X.prog X.w) X.A body (fun _ s'=>∃σ' H',Inv X pins σ' H' s'/\Q σ' H') X.xe s
noncomputable def bU (ge:Env->Mem->Res D):Env->List D->Mem->Res (List D):=fun Z acc M=>(ge Z M).bind fun x M=>if acc.length<sz then .ok (acc++[x]) M else .bad
noncomputable def uv (gc:Env->Mem->Res Bool)(g:Env->List D->Mem->Res (List D)):Env->List D->Mem->Res (List D):=fun Z acc M=>(gc Z M).bind fun k M=>if k then g Z acc M else .ok acc M
noncomputable def di (t:cy)(g:Env->List D->Mem->Res (List D))(Z:Env):List D->D->Mem->Res (List D):=fun acc d M=>(bV M (bW t d Z)).bind fun ρ1 M=>g ρ1 acc M
noncomputable def sF (t:cy)(gw:Env->Mem->Res Walk)(g:Env->List D->Mem->Res (List D)):Env->List D->Mem->Res (List D):=fun Z acc M=>(gw Z M).bind fun w M=>dg (di t g Z) w acc M
section
variable {fa:Fa}{X:Cx}{a:Addr}
theorem sN {elt:Expr}{ge:Env->Mem->Res D}(he:DE fa X elt ge):DB fa X a [] (eval elt X.env >>= fun x=>call (.builtin "list.append") [.ref a,x] >>= fun _=>pure ()) (bU ge):=by
 intro pins s σ H Q μ Z M acc vs I hE hM hc ha hH hr h
 obtain ⟨x,M1,e,q⟩:=aK h
 split at q
 ·next hz=>
  have q:WB fa X.K a μ H Z Q (acc++[x]) M1:=q
  refine tqa (aO (he pins s σ H (fun v H1=>∃μ1,Ext μ H μ1 H1/\RelM fa X.K μ1 H1 M1/\Rep fa X.K μ1 H1 x v) I ⟨μ,Z,M,hE,hM,?_⟩) fun u s1 ⟨v,H1,I1,rv,μ1,x1,m1,r1⟩=>?_)
  ·rw [e];exact fun v H1 μ1 x1 m1 r1=>⟨μ1,x1,m1,r1⟩
  have hH1:H1 a=some (.lst vs):=by rw [x1.pk a ha];exact hH
  have ha1:a∈μ1.priv:=by rw [x1.pr];exact ha
  have hl:vs.length<sizeLine:=by rw [hr.length,<- cX];exact hz
  refine tqa (aO (ql pins s1 σ H1 (.ref a) [v] (.ref a) [u] (fun _ H2=>H2=upd H1 a (.lst (vs++[v]))) I1 rfl (.cons rv .nil) ⟨a,vs,v,rfl,rfl,hH1,hl,rfl⟩) fun _ s2 ⟨_,H2,I2,_,e2⟩=>tqb ⟨σ,H2,I2,?_⟩)
  subst e2
  have xd:ff a μ1 H1 μ1 (upd H1 a (.lst (vs++[v]))):=ff.writeP ha1 hH1
  exact q σ _ μ1 (vs++[v]) (x1.toD.trans xd) ((hE.ext x1).extW xd.toExtW) (m1.writeP ha1 hH1) bt (((hr.ext x1).append (.one r1)).extW xd.toExtW)
 ·exact q.elim
theorem IX {c:Expr}{gc:Env->Mem->Res Bool}{W:List Nat}{body:Sem Unit}{g:Env->List D->Mem->Res (List D)}(hc:DT fa X c gc)(hb:DB fa X a W body g) :
 DB fa X a W (isTrue c X.env (eval c X.env) >>= fun ok=>if ok=true then body else pure ()) (uv gc g):=by
 intro pins s σ H Q μ Z M acc vs I hE hM hw ha hH hr h
 obtain ⟨k,M1,e,q⟩:=aK h
 refine tqa (aO (hc pins s σ H (fun b H1=>b=k/\∃μ1,Ext μ H μ1 H1/\RelM fa X.K μ1 H1 M1) I ⟨μ,Z,M,hE,hM,?_⟩) fun b s1 ⟨H1,I1,eb,μ1,x1,m1⟩=>?_)
 ·rw [e];exact fun H1 μ1 x1 m1=>⟨rfl,μ1,x1,m1⟩
 subst eb
 have hH1:H1 a=some (.lst vs):=by rw [x1.pk a ha];exact hH
 have ha1:a∈μ1.priv:=by rw [x1.pr];exact ha
 cases b with
 | true =>
   rw [if_pos rfl]
   exact hb pins s1 σ H1 Q μ1 Z M1 acc vs I1 (hE.ext x1) m1 hw ha1 hH1 (hr.ext x1) (aQ q fun _ _ w=>w.ext x1.toD)
 | false =>
   rw [if_neg Mf]
   have q:WB fa X.K a μ H Z Q acc M1:=q
   exact tqb ⟨σ,H1,I1,q σ H1 μ1 vs x1.toD (hE.ext x1) m1 hH1 (hr.ext x1)⟩
theorem uC {elt:Expr}{gens:List Nl}{scope:Scope}{pos p:Pos}{k:Nat}{tg:Expr}{body:Sem Unit}{t:cy}{W:List Nat}{g:Env->List D->Mem->Res (List D)}{it:Addr}{fp:List Addr}{tn:Nat->Heap->Prop}{J:It}
 (heq:compTurn (.ListComp elt gens scope pos) k (.ref it) (.ref a) X.env=(standAt p >>= fun _=>pyNext (.ref it) >>= fun r=>match r with
  |none=>pure (.done .next)
  |some v=>letOwnedTupleGo tg (.ref it) v >>= fun _=>assign tg X.env v >>= fun _=>body >>= fun _=>again (.compLoop (.ListComp elt gens scope pos) k (.ref it) (.ref a) X.env)))
 (hx:X.xe=FF) (hcalm:X.calm=true) (T:Turn X.prog X.w X.K tg J fp it tn) (hg:PG X tg (gT fa X.K t)) (hb:DB fa X a W body g) (hW:∀i∈W,i∉slots t)
 {pins:List (Addr×Obj)}{s:LM}{σ:L2.St}{H:Hp}{Q:L2.St->Hp->Prop}{μ:Mu}{Z:Env}{M:Mem}{acc:List D}{vs:List V}{w:Walk} (I:Inv X pins σ H s) (st:tn 0 s.heap) (hf:∀b∈fp,fC X pins H b) (hE:a8 fa X.K μ H σ Z) (hM:RelM fa X.K μ H M)
 (hcl:Clear (slots t++W) Z) (ha:a∈μ.priv) (hH:H a=some (.lst vs)) (hr:aG fa X.K μ H acc vs) (wk:c8 fa X.K μ H w J) (q:ah (dg (di t g Z) w acc M) (WB fa X.K a μ H Z Q)) :
 codeAny (model X.prog X.w) X.A (.compLoop (.ListComp elt gens scope pos) k (.ref it) (.ref a) X.env) (fun r s'=>r=.ok .next/\∃σ' H',Inv X pins σ' H' s'/\Q σ' H') s:=by
 have stat:∀{H':Hp},(∀b∈fp,H' b=none)->∀b∈fp,fC X pins H' b:=fun hn b hb=>⟨hn b hb,(hf b hb).2⟩
 have clt:Clear (slots t) Z:=fun i hi=>hcl i (NK _ hi)
 have clW:∀d ρ1,bW t d Z=some ρ1->Clear W ρ1:=fun d ρ1 e i hi d' z=>by
  rw [(qv e).2 i (hW i hi)] at z
  exact hcl i (MG _ hi) d' z
 let P:Nat->Nat->LM->Prop:=fun m i s'=>∃σ' H' μ' M' acc' vs',Inv X pins σ' H' s'/\tn i s'.heap/\(∀b∈fp,H' b=none)/\ff a μ H μ' H'/\a8 fa X.K μ' H' σ' Z/\RelM fa X.K μ' H' M'/\H' a=some (.lst vs')/\aG fa X.K μ' H' acc' vs'/\
  ah (eA (di t g Z) w m i acc' M') (WB fa X.K a μ H Z Q)
 have P0:∃m,P m 0 s:=⟨_,σ,H,μ,M,acc,vs,I,st,fun b hb=>(hf b hb).1,.refl,hE,hM,hH,hr,q⟩
 obtain ⟨m0,P0⟩:=P0
 have hturn:∀(n:Nat) (i:Nat) (s3:LM),P n i s3->wpAny (model X.prog X.w) X.A (pyNext (.ref it)) (fun r s₁=>match r with
  |none=>(∃σ' H',Inv X pins σ' H' s₁/\Q σ' H')
  |some v=>wpAny (model X.prog X.w) X.A (letOwnedTupleGo tg (.ref it) v) (fun _ s₂=>wpAny (model X.prog X.w) X.A (assign tg X.env v) (fun _ s₃=>wpAny (model X.prog X.w) X.A body (fun _ s₄=>∃m,m<n/\P m (i+1) s₄) FF s₃) FF s₂) FF s₁) FF s3:=by
  rintro n i s3 ⟨σ3,H3,μ3,M3,acc3,vs3,I3,st3,fr3,x3,hE3,hM3,hH3,hr3,q3⟩
  have ha3:a∈μ3.priv:=by rw [x3.pr];exact ha
  have one:∀(d:D) (rest:List D->Mem->Res (List D)) (next:List D->Mem->Prop),J.go i H3->(∀x H',J.yld i H3 x H'->Ext μ3 H3 μ3 H'/\RelM fa X.K μ3 H' M3/\Rep fa X.K μ3 H' d x)->ah ((di t g Z acc3 d M3).bind rest) (WB fa X.K a μ H Z Q)->
   (∀σ' H' μ' M' acc' vs' s',Inv X pins σ' H' s'->tn (i+1) s'.heap->(∀b∈fp,H' b=none)->ff a μ H μ' H'->a8 fa X.K μ' H' σ' Z->RelM fa X.K μ' H' M'->H' a=some (.lst vs')->aG fa X.K μ' H' acc' vs'->ah (rest acc' M') (WB fa X.K a μ H Z Q)->∃m,m<n/\P m (i+1) s')->
   wpAny (model X.prog X.w) X.A (pyNext (.ref it)) (fun r s₁=>match r with
    |none=>(∃σ' H',Inv X pins σ' H' s₁/\Q σ' H')
    |some v=>wpAny (model X.prog X.w) X.A (letOwnedTupleGo tg (.ref it) v) (fun _ s₂=>wpAny (model X.prog X.w) X.A (assign tg X.env v) (fun _ s₃=>wpAny (model X.prog X.w) X.A body (fun _ s₄=>∃m,m<n/\P m (i+1) s₄) FF s₃) FF s₂) FF s₁) FF s3:=by
   intro d rest next go yl qd fin
   refine aO (T.item X rfl rfl rfl hcalm i pins s3 σ3 H3 FF I3 (stat fr3) st3 go) fun r s4 ⟨u,hr4,h4⟩=>?_
   subst hr4
   refine aO h4 fun _ s5 ⟨x,H5,I5,r5,y5,st5,fr5⟩=>?_
   obtain ⟨x5,hM5,rd⟩:=yl x H5 y5
   have I5':=I5.pinned (stat fr5) (T.obj _ _ st5)
   obtain ⟨acc6,M6,e6,q6⟩:=aK qd
   obtain ⟨ρ1,M7,e7,e8⟩:=eC e6
   cases eb:bW t d Z with
   |none=>rw [eb] at e7;cases e7
   | some ρ2 =>
     rw [eb] at e7
     cases e7
     have hg':=hg _ s5 σ3 H5 x u (fun σ' H'=>H'=H5/\a8 fa X.K μ3 H5 σ' ρ1) I5' r5 ⟨μ3,Z,_,d,ρ1,hE3.ext x5,hM5,rd,eb,fun σ1 h1=>⟨rfl,h1⟩⟩
     rw [hx] at hg'
     refine aO hg' fun _ s6 ⟨σ6,H6,I6,eH,hE6⟩=>?_
     subst eH
     have hH6:H6 a=some (.lst vs3):=by rw [x5.pk a ha3];exact hH3
     have hb':=hb _ s6 σ6 H6 (fun σ' H'=>∃μ' vs',ff a μ3 H6 μ' H'/\a8 fa X.K μ' H' σ' ρ1/\RelM fa X.K μ' H' M6/\H' a=some (.lst vs')/\aG fa X.K μ' H' acc6 vs') μ3 ρ1 _ acc3 vs3 I6 hE6 hM5 (clW d ρ1 eb) ha3 hH6 (hr3.ext x5) (by
      rw [e8];exact fun σ' H' μ' vs' z1 z2 z3 z4 z5=>⟨μ',vs',z1,z2,z3,z4,z5⟩)
     rw [hx] at hb'
     refine aO hb' fun _ s7 ⟨σ7,H7,I7,μ7,vs7,x7,hE7,hM7,hH7,hr7⟩=>?_
     refine fin σ7 H7 μ7 M6 acc6 vs7 s7 I7.unpinned (T.keep _ _ _ st5 fun b hb o e=>(I7.pin (b,o) (MG _ (MG _ (iH hb e)))).1) (fun b hb=>?_) ((x3.trans x5.toD).trans x7) (hE7.unbind eb clt) hM7 hH7 hr7 q6
     obtain ⟨o,e,dd⟩:=T.obj _ _ st5 b hb
     exact (I7.pin (b,o) (MG _ (MG _ (iH hb e)))).2.1
  have stop:J.stop i H3->ah (.ok acc3 M3) (WB fa X.K a μ H Z Q)->wpAny (model X.prog X.w) X.A (pyNext (.ref it)) (fun r s₁=>match r with
   |none=>(∃σ' H',Inv X pins σ' H' s₁/\Q σ' H')
   |some v=>wpAny (model X.prog X.w) X.A (letOwnedTupleGo tg (.ref it) v) (fun _ s₂=>wpAny (model X.prog X.w) X.A (assign tg X.env v) (fun _ s₃=>wpAny (model X.prog X.w) X.A body (fun _ s₄=>∃m,m<n/\P m (i+1) s₄) FF s₃) FF s₂) FF s₁) FF s3:=fun hs q=>by
   refine aO (T.done X rfl rfl rfl hcalm i pins s3 σ3 H3 FF I3 (stat fr3) st3 hs) fun r s4 ⟨hr4,I4⟩=>?_
   subst hr4
   have q:WB fa X.K a μ H Z Q acc3 M3:=q
   exact ⟨σ3,H3,I4,q σ3 H3 μ3 vs3 x3 hE3 hM3 hH3 hr3⟩
  cases n with
  |zero=>exact q3.elim
  | succ n =>
    unfold eA at q3
    cases e2:w M3 with
    |none=>rw [e2] at q3;exact q3.elim
    | some ds =>
      rw [e2] at q3
      dsimp only at q3
      obtain ⟨go,stp⟩:=wk μ3 H3 M3 ds x3.toExtW hM3 e2
      cases ed:ds[i]? with
      | none =>
        rw [ed] at q3
        exact stop (stp i (List.getElem?_eq_none_iff.mp ed)) q3
      | some d =>
        rw [ed] at q3
        obtain ⟨g1,g2⟩:=go i d ed
        refine one d (eA (di t g Z) w n (i+1)) (fun _ _=>True) g1 g2 q3 ?_
        intro σ' H' μ' M' acc' vs' s' z1 z2 z3 z4 z5 z6 z7 z8 z9
        exact ⟨n,by omega,σ',H',μ',M',acc',vs',z1,z2,z3,z4,z5,z6,z7,z8,z9⟩
 refine yo heq (fun n s'=>∃i,P n i s') (fun n s3 ⟨i,h3⟩=>?_) m0 ⟨0,P0⟩
 refine aO (hturn n i s3 h3) fun r s1 h=>?_
 cases r with
 |none=>exact ⟨rfl,h⟩
 |some v=>exact aO h fun _ s2 h=>aO h fun _ s3 h=>aO h fun _ s4 ⟨m,hm,h⟩=>⟨m,hm,i+1,h⟩
end
end LD
namespace LD
open PySem PySem.Spec PyProof.Rows L2
section
variable {prog:Mc}{w:Me}{A:MK}{s:LM}{R:Result->LM->Prop}
theorem qH {elt t1 i1 t2 i2:Expr}{f1 f2:List Expr}{scope:Scope}{pos:Pos}{it acc:LI}{env:Mw}
 (h0:codeAny (model prog w) A (.compLoop (.ListComp elt [⟨t1,i1,f1,0⟩,⟨t2,i2,f2,0⟩] scope pos) 1 it acc env) R s)
 (h:wpAny (model prog w) A (pyIter it) (fun it' s'=>codeAny (model prog w) A (.compLoop (.ListComp elt [⟨t1,i1,f1,0⟩,⟨t2,i2,f2,0⟩] scope pos) 1 it' acc env) R s')
  (notedBy (model prog w) A env fun x s'=>R (.error x) s') s) :
 codeAny (model prog w) A (.compStart (.ListComp elt [⟨t1,i1,f1,0⟩,⟨t2,i2,f2,0⟩] scope pos) 1 it acc env) R s:=by
 refine codeAny_of_tree ?_
 show wpAny _ _ ((compStart (.ListComp elt [⟨t1,i1,f1,0⟩,⟨t2,i2,f2,0⟩] scope pos) 1 it acc env).onRaise (fun x=>do noteFrame x env;standAt theWindowsPlace)) _ _ s
 refine wpAny_notedAt ?_
 unfold compStart
 show wpAny _ _ (ask >>= _) _ _ s
 refine tqa (wpAny_askSetting (wpAny_ite ?_))
 split
 ·first
   |exact tqa (tqb (tqb (And.intro rfl h0)))
   |exact tqb (And.intro rfl h0)
 ·first
   |exact tqa (wpAny_rule (tqa (wpAny_standAt (tqa (wpAny_mono h (fun it' s' h'=>tqb (And.intro rfl h')) fun _ _ x=>x)))))
   |(refine tqa (wpAny_rule ?_);show wpAny _ _ (standAt i2.pos >>= _) _ _ s;exact tqa (wpAny_standAt (tqa (wpAny_mono h (fun it' s' h'=>tqb (And.intro rfl h')) fun _ _ x=>x))))
end
section
variable {fa:Fa}{X:Cx}{a:Addr}
theorem Hh {elt t1 i1 t2 i2:Expr}{scope:Scope}{pos:Pos}{t:cy}{gw:Env->Mem->Res Walk}{ge:Env->Mem->Res D}(hx:X.xe=FF)(hcalm:X.calm=true)(hi:DI fa X t2 i2 gw)(hg:PG X t2 (gT fa X.K t))(he:DE fa X elt ge)
 (hs:∀x,foldedSetIterable i2 X.env x=pure x) :
 DB fa X a (slots t) (eval i2 X.env >>= fun x=>standAt i2.pos >>= fun _=>foldedSetIterable i2 X.env x >>= fun x=>holding [x] (pyIter x) >>= fun j=>runOwn (.compStart (.ListComp elt [⟨t1,i1,[],0⟩,⟨t2,i2,[],0⟩] scope pos) 1 j (.ref a) X.env) X.env >>= fun _=>pure ()) (sF t gw (bU ge)):=by
 intro pins s σ H Q μ Z M acc vs I hE hM hc ha hH hr h
 obtain ⟨w,M1,e,q⟩:=aK h
 refine tqa (aO (hi pins s σ H (fun J H1=>∃μ1,Ext μ H μ1 H1/\RelM fa X.K μ1 H1 M1/\c8 fa X.K μ1 H1 w J) I ⟨μ,Z,M,hE,hM,?_⟩) fun v s1 h1=>?_)
 ·rw [e];exact fun J H1 μ1 x1 m1 wk=>⟨μ1,x1,m1,wk⟩
 refine tqa (wpAny_standAt (tqa (wpAny_of_eq (hs v) (tqa (tqo (aO h1 fun itv s2 h2=>?_))))))
 obtain ⟨it,fp,tn,J,H2,ei,I2,T,st2,f2,μ2,x2,m2,wk⟩:=h2
 subst ei
 have hH2:H2 a=some (.lst vs):=by rw [x2.pk a ha];exact hH
 have ha2:a∈μ2.priv:=by rw [x2.pr];exact ha
 have go:=uC (elt:=elt) (gens:=[⟨t1,i1,[],0⟩,⟨t2,i2,[],0⟩]) (scope:=scope) (pos:=pos) (W:=[]) (Q:=Q) (yY elt t1 i1 t2 i2 scope pos (.ref it) (.ref a) X.env) hx hcalm T hg (sN he) (fun i hi=>nomatch hi) I2 st2 f2 (hE.ext x2) m2 (by simpa using hc) ha2 hH2 (hr.ext x2) wk (aQ q fun _ _ z=>z.ext x2.toD)
 refine tqa (wpAny_runOwn (h:=none) ?_)
 have go':codeAny (model X.prog X.w) (X.A.mark none) (.compLoop (.ListComp elt [⟨t1,i1,[],0⟩,⟨t2,i2,[],0⟩] scope pos) 1 (.ref it) (.ref a) X.env) (fun r s'=>match r with|.ok f=>wpAny (model X.prog X.w) X.A (pure ():Sem Unit) (fun _ s'=>∃σ' H',Inv X pins σ' H' s'/\Q σ' H') X.xe s'|.error e=>cameBackBy (model X.prog X.w) X.A X.env X.xe e s') s2:=
  codeAny_mono go fun r s' ⟨er,z⟩=>by subst er;exact tqb z
 exact qH go' (T.self _ 0 _ _ _ st2 go')
end
end LD
namespace LD
open PySem PySem.Spec PyProof.Rows L2
section
variable {fa:Fa}{K:LH}{μ1 μ':Mu}{H1 H':Hp}{M1 M':Mem}{a:Addr}
noncomputable def Gr (μ:Mu)(a:Addr):Mu:=⟨μ.pub,a::μ.priv,μ.ob⟩
theorem lE (h:RelM fa K μ1 H1 M1)(ha:H1 a=none)(o:HO):ExtW μ1 H1 (Gr μ1 a) (upd H1 a o):=by
 have x:ExtW μ1 H1 μ1 (upd H1 a o):=(Ext.alloc h ha).toExtW
 refine ⟨x.mu,x.tups,fun b vs e n=>⟨(x.lsts b vs e n).1,fun z=>?_⟩,x.frzs,x.exts,x.obs⟩
 rcases z with z|z
 ·exact n (.inl z)
 ·rcases My.mp z with z|z
  ·subst z;rw [ha] at e;cases e
  ·exact n (.inr z)
theorem w8 (h:RelM fa K μ1 H1 M1)(ha:H1 a=none)(vs:List V):RelM fa K (Gr μ1 a) (upd H1 a (.lst vs)) M1:=by
 have x:=lE h ha (.lst vs)
 refine ⟨fun k ds e=>(h.at' k ds e).imp (fun ⟨b,ws,h1,h2,h3⟩=>⟨b,ws,h1,by rw [ax (aN h2 ha)];exact h2,h3.extW x⟩) fun ⟨b,c,C,dx,fs,es,h1,h2,h3,h4,h5,h6,h7⟩=>⟨b,c,C,dx,fs,es,h1,h2,h3,by rw [ax (aN h4 ha)];exact h4,h5,h6,h7.extW x⟩,h.out,h.oout,h.inj,h.oinj,h.sep,fun b hb=>?_⟩
 ·rcases My.mp hb with z|z
  ·subst z
   exact ⟨⟨vs,bt⟩,fun k e=>by
    obtain ⟨_,_,_,q,_⟩:=h.mu_lt e
    rw [ha] at q;cases q⟩
  ·obtain ⟨⟨ws,q⟩,n⟩:=h.pv b z
   exact ⟨⟨ws,by rw [ax (aN q ha)];exact q⟩,n⟩
theorem Dk {m:Bool}{acc:List D}{vs:List V}{Q:VK}(h:RelM fa K μ1 H1 M1)(ha:H1 a=none)(x:ff a (Gr μ1 a) (upd H1 a (.lst [])) μ' H')(hM:RelM fa K μ' H' M')(hH:H' a=some (.lst vs))(hr:aG fa K μ' H' acc vs)
 (q:ah (ba m acc M') (a7 fa K μ1 H1 Q)):Q (.ref a) H':=by
 have na:a∉μ1.priv:=fun z=>h.pne ha z rfl
 have hp:μ'.priv=a::μ1.priv:=x.pr
 have nk:∀k,μ'.pub k≠some a:=(hM.pv a (by rw [hp];exact Ml)).2
 have x0:=lE h ha (.lst [])
 have xe:Ext μ1 H1 ⟨μ'.pub,μ1.priv,μ'.ob⟩ H':=by
  refine ⟨⟨fun k b e=>x.mu k b e,fun b ws e=>x.tups b ws (x0.tups b ws e),fun b ws e n=>?_,fun b ob u e=>x.frzs b ob u (x0.frzs b ob u e),fun b o i e=>x.exts b o i (x0.exts b o i e),fun k b e=>x.obs k b (x0.obs k b e)⟩,rfl,fun b hb=>?_⟩
  ·obtain ⟨z1,z2⟩:=x0.lsts b ws e n
   obtain ⟨z3,z4⟩:=x.lsts b ws z1 z2
   refine ⟨z3,fun z=>z4 ?_⟩
   rcases z with z|z
   ·exact .inl z
   ·exact .inr (by rw [hp];exact LY _ z)
  ·have nb:b≠a:=fun e=>na (by rw [<- e];exact hb)
   rw [x.pk b (LY _ hb) nb,ax nb]
 have xw:ExtW μ' H' ⟨μ'.pub,μ1.priv,μ'.ob⟩ H':=⟨fun _ _ e=>e,fun _ _ e=>e,fun b ws e n=>⟨e,fun z=>n (z.elim .inl fun z=>.inr (by rw [hp];exact LY _ z))⟩,fun _ _ _ e=>e,fun _ _ _ e=>e,fun _ _ e=>e⟩
 have me:RelM fa K ⟨μ'.pub,μ1.priv,μ'.ob⟩ H' M':=⟨fun k ds e=>(hM.at' k ds e).imp (fun ⟨b,ws,h1,h2,h3⟩=>⟨b,ws,h1,h2,h3.extW xw⟩) fun ⟨b,c,C,dx,fs,es,h1,h2,h3,h4,h5,h6,h7⟩=>⟨b,c,C,dx,fs,es,h1,h2,h3,h4,h5,h6,h7.extW xw⟩,hM.out,hM.oout,hM.inj,hM.oinj,hM.sep,fun b hb=>hM.pv b (by rw [hp];exact LY _ hb)⟩
 have re:aG fa K ⟨μ'.pub,μ1.priv,μ'.ob⟩ H' acc vs:=hr.extW xw
 have nMt:¬ (⟨μ'.pub,μ1.priv,μ'.ob⟩:Mu).Mt a:=fun z=>z.elim (fun ⟨k,e⟩=>nk k e) na
 unfold ba at q
 split at q
 ·cases m with
  | false =>
    have q:a7 fa K μ1 H1 Q (.lst acc) M':=q
    exact q (.ref a) H' _ xe me ⟨a,vs,rfl,⟨hH,nMt⟩,re⟩
  | true =>
    have q:a7 fa K μ1 H1 Q (.cell M'.length) (M'++[acc]):=q
    have pc:∀k b,(fk ⟨μ'.pub,μ1.priv,μ'.ob⟩ M'.length a).pub k=some b->(k=M'.length/\b=a)\/(k≠M'.length/\μ'.pub k=some b):=fun k b e=>by
     have e:(if k=M'.length then some a else μ'.pub k)=some b:=e
     split at e
     ·next z=>cases e;exact .inl ⟨z,rfl⟩
     ·next z=>exact .inr ⟨z,e⟩
    have mc:∀k b,μ'.pub k=some b->(fk ⟨μ'.pub,μ1.priv,μ'.ob⟩ M'.length a).pub k=some b:=fun k b e=>by
     show (if k=M'.length then some a else μ'.pub k)=some b
     split
     ·next z=>rw [z,hM.out _ (LP _)] at e;cases e
     ·exact e
    have ac:(fk ⟨μ'.pub,μ1.priv,μ'.ob⟩ M'.length a).pub M'.length=some a:=by
     show (if M'.length=M'.length then some a else _)=some a
     rw [if_pos rfl]
    have nc:∀b,¬ μ'.Mt b->¬ (fk ⟨μ'.pub,μ1.priv,μ'.ob⟩ M'.length a).Mt b:=fun b n z=>by
     rcases z with ⟨k,z⟩|z
     ·rcases pc k b z with ⟨_,e⟩|⟨_,e⟩
      ·exact n (.inr (by rw [hp,e];exact Ml))
      ·exact n (.inl ⟨k,e⟩)
     ·exact n (.inr (by rw [hp];exact LY _ z))
    have xc:ExtW μ' H' (fk ⟨μ'.pub,μ1.priv,μ'.ob⟩ M'.length a) H':=⟨mc,fun _ _ e=>e,fun b ws e n=>⟨e,nc b n⟩,fun _ _ _ e=>e,fun _ _ _ e=>e,fun _ _ e=>e⟩
    have xe2:Ext μ1 H1 (fk ⟨μ'.pub,μ1.priv,μ'.ob⟩ M'.length a) H':=by
     refine ⟨⟨fun k b e=>mc k b (x.mu k b e),xe.tups,fun b ws e n=>?_,xe.frzs,xe.exts,xe.obs⟩,rfl,xe.pk⟩
     obtain ⟨z1,z2⟩:=x0.lsts b ws e n
     obtain ⟨z3,z4⟩:=x.lsts b ws z1 z2
     exact ⟨z3,nc b z4⟩
    have mce:RelM fa K (fk ⟨μ'.pub,μ1.priv,μ'.ob⟩ M'.length a) H' (M'++[acc]):=by
     refine ⟨fun k ds e=>?_,fun k hk=>?_,fun k hk=>hM.oout k (by simp at hk;omega),fun j k b e1 e2=>?_,hM.oinj,fun k b z=>?_,fun b hb=>?_⟩
     ·by_cases hk:k<M'.length
      ·rw [Ma hk] at e
       rcases hM.at' k ds e with ⟨b,ws,h1,h2,h3⟩|⟨b,c,C,dx,fs,es,h1,h2,h3,h4,h5,h6,h7⟩
       ·exact .inl ⟨b,ws,mc k b h1,h2,h3.extW xc⟩
       ·exact .inr ⟨b,c,C,dx,fs,es,h1,by show (if k=M'.length then some a else μ'.pub k)=none;rw [if_neg (MA hk)];exact h2,h3,h4,h5,h6,h7.extW xc⟩
      ·have hk':k=M'.length:=by
        have:=(LJ.mp e).1
        simp at this;omega
       subst hk'
       rw [MF (LP _)] at e
       simp at e
       subst e
       exact .inl ⟨a,vs,ac,hH,hr.extW xc⟩
     ·simp at hk
      show (if k=M'.length then some a else μ'.pub k)=none
      rw [if_neg (by omega)]
      exact hM.out k (by omega)
     ·rcases pc j b e1 with ⟨j1,j2⟩|⟨j1,j2⟩<;>rcases pc k b e2 with ⟨k1,k2⟩|⟨k1,k2⟩
      ·omega
      ·exact absurd (j2 ▸ k2) (nk k)
      ·exact absurd (k2 ▸ j2) (nk j)
      ·exact hM.inj j k b j2 k2
     ·show μ'.ob (aU k)=none
      rcases pc k b z with ⟨e,_⟩|⟨_,e⟩
      ·rw [e];exact hM.oout _ (LP _)
      ·exact hM.sep k b e
     ·have hb:b∈μ1.priv:=hb
      obtain ⟨z1,z2⟩:=hM.pv b (by rw [hp];exact LY _ hb)
      refine ⟨z1,fun k e=>?_⟩
      rcases pc k b e with ⟨_,e⟩|⟨_,e⟩
      ·exact na (e ▸ hb)
      ·exact z2 k e
    exact q (.ref a) H' _ xe2 mce ⟨a,rfl,ac⟩
 ·exact q.elim
end
section
variable {fa:Fa}{X:Cx}
noncomputable def b7 (m:Bool)(n:Nat)(t:cy)(gw:Env->Mem->Res Walk)(g:Env->List D->Mem->Res (List D)):Env->Mem->Res D:=fun Z M=>
 (gw Z M).bind fun w M=>(dg (di t g (List.replicate n none++Z)) w [] M).bind (ba m)
noncomputable def oF (X:Cx)(elt tg iter:Expr)(ifs:List Expr)(rest:List Nl)(scope:Scope)(pos:Pos)(body:Addr->Mw->Sem Unit):Prop:=
 ∀(it a:Addr) (env:Mw),compTurn (.ListComp elt (⟨tg,iter,ifs,0⟩::rest) scope pos) 0 (.ref it) (.ref a) env=(standAt iter.pos >>= fun _=>pyNext (.ref it) >>= fun r=>match r with
  |none=>pure (.done .next)
  |some v=>letOwnedTupleGo tg (.ref it) v >>= fun _=>assign tg env v >>= fun _=>body a env >>= fun _=>again (.compLoop (.ListComp elt (⟨tg,iter,ifs,0⟩::rest) scope pos) 0 (.ref it) (.ref a) env))
structure Block (fa:Fa) (X:Cx) (own bn:List Str) (scope:Scope) (tg:Expr) (t:cy) (W:List Nat) (body:Addr->Mw->Sem Unit) (g:Env->List D->Mem->Res (List D)):Prop where
 pg:∀cl C fp s H,PG (gF X own bn scope cl C fp s H) tg (gT fa X.K t)
 db:∀cl C fp s H a,DB fa (gF X own bn scope cl C fp s H) a W (body a (compEnvC scope cl C X.env)) g
theorem yu {n:Nat}{W:List Nat}{Z:Env}(h:∀i∈W,i<n):Clear W (List.replicate n none++Z):=fun i hi d e=>by
 rw [Ma (by simpa using h i hi),Nw] at e
 simp [h i hi] at e
theorem zJ {K:LH}{μ:Mu}{H:Hp}{σ:L2.St}{Z:Env}(n:Nat)(h:a8 fa K μ H σ Z):a8 fa K μ H (List.replicate n none++σ) (List.replicate n none++Z):=by
 refine ⟨by simp [h.len],fun i d e=>?_⟩
 by_cases hi:i<n
 ·rw [Ma (by simpa using hi),Nw] at e
  simp [hi] at e
 ·rw [MF (by simp;omega)] at e ⊢
  simp only [List.length_replicate] at e ⊢
  exact h.at' _ d e
theorem oA {elt tg iter:Expr}{ifs:List Expr}{rest:List Nl}{scope:Scope}{pos p0:Pos}{own bn:List Str}{t:cy}{W:List Nat}{body:Addr->Mw->Sem Unit}{gw:Env->Mem->Res Walk}{g:Env->List D->Mem->Res (List D)}{m:Bool}
 (S:ik X own bn scope) (hcalm:X.calm=true) (hi:DI fa X tg iter gw) (B:Block fa X own bn scope tg t W body g) (hT:oF X elt tg iter ifs rest scope pos body) (hW:∀i∈W,i∉slots t) (hn:∀i∈slots t++W,i<own.length)
 (hs:∀x,foldedSetIterable iter X.env x=pure x) {use:Option (LI->Sem Unit)}{QQ:LI->LM->Prop}
 {pins:List (Addr×Obj)}{s:LM}{σ:L2.St}{H:Hp}{Q:VK}{μ:Mu}{Z:Env}{M:Mem} (I:Inv X pins σ H s) (hE:a8 fa X.K μ H σ Z) (hM:RelM fa X.K μ H M) (h:ah (b7 m own.length t gw g Z M) (a7 fa X.K μ H Q))
 (post:∀(a C:Addr) (s':LM) (H':Hp),Inv X pins σ H' s'->Q (.ref a) H'->(∃m,s'.heap.Ns C m)->(∀σ2 H2 s2,Inv X pins σ2 H2 s2->(H' C=none->H2 C=none)->H2 C=none/\∀h'',Heap.SameBut C s2.heap h''->Inv X pins σ2 H2 {s2 with heap:=h''})->H' C=none->(C≠X.env.locals/\∀x c,X.env.cells.lookup x=some c->c≠C)->compPost (model X.prog X.w) X.A X.xe use QQ (.ref a) C (.ok .next) s') :
 wpAny (model X.prog X.w) X.A (comprehension (.ListComp elt (⟨tg,iter,ifs,0⟩::rest) scope pos) scope X.env p0 (newList []) false (eval iter X.env) use) QQ X.xe s:=by
 obtain ⟨w,M1,ew,q⟩:=aK h
 obtain ⟨acc,M2,ea,q2⟩:=aK q
 obtain ⟨cl,hcl,hsub,hhas⟩:=vI (scope:=scope) (env:=X.env) fun y hy hf=>I.ok.has y.1 (S.free y hy hf)
 have CL:Cl X scope cl:=⟨hsub,hhas⟩
 refine wpAny_comprehension_free (use:=use) rfl hs hcl S.kind S.loc ?_
 refine aO (hi pins s σ H (fun J H1=>∃μ1,Ext μ H μ1 H1/\RelM fa X.K μ1 H1 M1/\c8 fa X.K μ1 H1 w J) I ⟨μ,Z,M,hE,hM,?_⟩) fun v s1 h1=>aO h1 fun itv s2 h2=>?_
 ·rw [ew];exact fun J H1 μ1 x1 m1 wk=>⟨μ1,x1,m1,wk⟩
 obtain ⟨it,fp,tn,J,H2,ei,I2,T,st2,f2,μ2,x2,m2,wk⟩:=h2
 subst ei
 refine wpAny_newObj_type ?_
 have ha:H2 s2.heap.objs.size=none:=I2.hok.fresh (LP _)
 have I3:Inv X pins σ (upd H2 s2.heap.objs.size (.lst [])) {s2 with heap:=s2.heap.push {cls:=.type "list",dict:=none,data:=.seq ([]:List LI).toArray}}:=
  I2.laid (t':=s2.toks) (fun b o e=>LK _ e) (LP _) ⟨NY _,[],_,.nil,L6 _ rfl⟩
 generalize hs3:({s2 with heap:=s2.heap.push {cls:=.type "list",dict:=none,data:=.seq ([]:List LI).toArray}}:LM)=s3 at I3 ⊢
 have k3:∀b o,s2.heap.get? b=some o->s3.heap.get? b=some o:=fun b o e=>by rw [<- hs3];exact LK _ e
 have fo2:=T.obj _ _ st2
 have f3:∀b∈fp,fC X pins (upd H2 s2.heap.objs.size (.lst [])) b:=fun b hb=>by
  obtain ⟨o,e,_⟩:=fo2 b hb
  exact ⟨by rw [ax (MA (L4 e))];exact (f2 b hb).1,(f2 b hb).2⟩
 have fo3:∀b∈fp,∃o,s3.heap.get? b=some o:=fun b hb=>let ⟨o,e,_⟩:=fo2 b hb;⟨o,k3 b o e⟩
 refine wpAny_newFunctionEnv S.nocell (by intro y hy;simp at hy) (fun h₁ hns₁ hsb₁=>?_) S.kind
 have k4:∀b o,s3.heap.get? b=some o->h₁.get? b=some o:=fun b o e=>hsb₁.extBut b o (MA (L4 e)) (LK _ e)
 have I4:=AQ (own:=own) (bn:=bn) (t':=s3.toks+([]:List (Str×LI)).length) I3 S CL f3 fo3 hns₁ k4
 have ok4:=I4.ok
 have f4:∀b∈fp,fC (gF X own bn scope cl s3.heap.objs.size fp s3 (upd H2 s2.heap.objs.size (.lst []))) [] (upd H2 s2.heap.objs.size (.lst [])) b:=fun b hb=>
  ⟨(f3 b hb).1,(ok4.exf b hb).1,ok4.exfs b hb,.inl hb,(ok4.exf b hb).2,fun p hp=>nomatch hp⟩
 have st4:tn 0 h₁:=T.keep _ _ _ st2 fun b hb o e=>k4 b o (k3 b o e)
 have x3:=lE m2 ha (.lst [])
 have go:=uC (X:=gF X own bn scope cl s3.heap.objs.size fp s3 (upd H2 s2.heap.objs.size (.lst []))) (fa:=fa) (a:=s2.heap.objs.size) (W:=W) (t:=t) (g:=g) (acc:=[]) (vs:=[]) (Q:=fun _ H'=>Q (.ref s2.heap.objs.size) H') (hT it s2.heap.objs.size _) rfl hcalm T (B.pg _ _ _ _ _) (B.db _ _ _ _ _ _) hW I4 st4 f4
  (zJ own.length ((hE.ext x2).extW x3)) (w8 m2 ha []) (yu hn) Ml bt rfl (v8 wk x3) (by
   rw [ea]
   intro σ' H' μ' vs' z1 z2 z3 z4 z5
   exact Dk (m:=m) m2 ha z1 z3 z4 z5 (jr q2 x2))
 have go':codeAny (model X.prog X.w) X.A (.compLoop (.ListComp elt (⟨tg,iter,ifs,0⟩::rest) scope pos) 0 (.ref it) (.ref s2.heap.objs.size) (compEnvC scope cl s3.heap.objs.size X.env)) (compPost (model X.prog X.w) X.A X.xe use QQ (.ref s2.heap.objs.size) s3.heap.objs.size) {s3 with heap:=h₁,toks:=s3.toks+([]:List (Str×LI)).length}:=
  codeAny_mono go fun r s' ⟨er,σ',H',I',z⟩=>by
   subst er
   refine post _ _ s' H' (comp_back I3 f3 I') z (let ⟨m,hn,_⟩:=I'.loc;⟨m,hn⟩) (fun σ2 H2 s2' I2' hf=>⟨hf I'.free,fun h'' hs''=>yp I3 (hf I'.free) I2' hs''⟩) I'.free ⟨MU I3.lt,fun x c e z=>by
    obtain ⟨v,q⟩:=I3.cell x c e
    exact absurd q.lt (by rw [z];exact MX _)⟩
 exact codeAny_compStart_list go' (T.self _ 0 _ _ _ st4 go')
theorem Hn (m:Bool){elt tg iter:Expr}{ifs:List Expr}{rest:List Nl}{scope:Scope}{pos:Pos}{own bn:List Str}{t:cy}{W:List Nat}{body:Addr->Mw->Sem Unit}{gw:Env->Mem->Res Walk}{g:Env->List D->Mem->Res (List D)}
 (S:ik X own bn scope) (hcalm:X.calm=true) (hi:DI fa X tg iter gw) (B:Block fa X own bn scope tg t W body g) (hT:oF X elt tg iter ifs rest scope pos body) (hW:∀i∈W,i∉slots t) (hn:∀i∈slots t++W,i<own.length)
 (hs:∀x,foldedSetIterable iter X.env x=pure x):DE fa X (.ListComp elt (⟨tg,iter,ifs,0⟩::rest) scope pos) (b7 m own.length t gw g):=by
 intro pins s σ H Q I ⟨μ,Z,M,hE,hM,h⟩
 rw [eval_ListComp]
 refine oA (use:=none) S hcalm hi B hT hW hn hs I hE hM h ?_
 intro a C s' H' I' q ⟨m,hn⟩ gone hf _
 exact ⟨m,hn,fun h' hs'=>⟨.ref a,H',(gone σ H' s' I' id).2 h' hs',rfl,q⟩⟩
theorem vA (m:Bool){i:Nat}{y:Str}{py spos:Pos}{elt tg iter:Expr}{ifs:List Expr}{rest:List Nl}{scope:Scope}{pos:Pos}{own bn:List Str}{t:cy}{W:List Nat}{body:Addr->Mw->Sem Unit}{gw:Env->Mem->Res Walk}{g:Env->List D->Mem->Res (List D)}
 (S:ik X own bn scope) (hcalm:X.calm=true) (hi:DI fa X tg iter gw) (B:Block fa X own bn scope tg t W body g) (hT:oF X elt tg iter ifs rest scope pos body) (hW:∀i∈W,i∉slots t) (hn:∀i∈slots t++W,i<own.length)
 (hs:∀x,foldedSetIterable iter X.env x=pure x) (hN:X.N.Nodup) (hy:X.N[i]?=some y) (hl:X.env.scope.names.lookup y=some .local)
 (hsw:swapsWith (.ListComp elt (⟨tg,iter,ifs,0⟩::rest) scope pos) (some (.Name y py)) spos.line X.env=pure true) :
 DS fa X (.Assign [.Name y py] (.ListComp elt (⟨tg,iter,ifs,0⟩::rest) scope pos) spos) (fun Z M=>(b7 m own.length t gw g Z M).bind fun x M=>(bV M (bW (.one i) x Z)).bind fun ρ1 M=>.ok (.next ρ1) M):=by
 intro pins s σ H D' I ⟨μ,Z,M,hE,hM,h⟩
 obtain ⟨x,M1,ex,q⟩:=aK h
 have q:∀σ' H' μ',Ext μ H μ' H'->a8 fa X.K μ' H' σ' (Z.set i (some x))->RelM fa X.K μ' H' M1->D'.nx σ' H':=q
 rw [exec_Assign_Name_used _ _ _ _ hsw]
 refine tqa (wpAny_standAt (tqa ?_))
 show wpAny _ X.A (do let _ <- comprehension (.ListComp elt (⟨tg,iter,ifs,0⟩::rest) scope pos) scope X.env _ (newList []) false (eval iter X.env) (some (assign (.Name y py) X.env))) _ _ s
 refine tqa (aO (oA (use:=some (assign (.Name y py) X.env)) (QQ:=fun _ s'=>SP X pins D' .next s') (Q:=fun v H'=>D'.nx (σ.set i (some v)) H') S hcalm hi B hT hW hn hs I hE hM (by
  rw [ex]
  exact fun v H' μ' x1 m1 r1=>q _ H' μ' x1 ((hE.ext x1).set r1) m1) ?_) fun _ s' hq=>tqb (tqb hq))
 intro a C s' H' I' q ⟨m,hn⟩ gone hf ⟨nL,nC⟩
 refine wpAny_assign_Name (pS I' hN hy (.inl hl) (v:=.ref a) rfl (fun s2 I2 ⟨b,hb,hb2⟩=>?_) (.inr hl))
 have nb:C≠b:=by
  rcases hb2 with z|z
  ·rw [z];exact nL
  ·exact MR (nC y b z)
 exact ⟨m,hn.sameBut hb nb,fun h' hs'=>⟨_,H',(gone _ H' s2 I2 id).2 h' hs',q⟩⟩
end
end LD
namespace LD
open PySem PySem.Spec PyProof.Rows L2
section
variable {X:Cx}{pins:List (Addr×Obj)}{σ:L2.St}{H:Hp}{s:LM}{h':Heap}{t':Nat}{ch:List Addr}
theorem tK (I:Inv X pins σ H s)(hf:∀b∈ch,fC X pins H b)(k:∀b o,b∉ch->s.heap.get? b=some o->h'.get? b=some o):Inv X pins σ H {s with heap:=h',toks:=t'}:=by
 have nit:∀b u,H b=some u->b∉ch:=fun b u e z=>by rw [(hf b z).1] at e;cases e
 refine I.step (g':=s.gens) (d':=s.drawn) (ch:=ch) (fun b hb=>⟨(hf b hb).2.2.2.1,(hf b hb).2.1,(hf b hb).2.2.2.2.1,(hf b hb).2.2.2.2.2⟩) (fun b o _ _ hc e _=>k b o hc e) (fun b o _ _ hc e _=>⟨o.slots,k b o hc e⟩) (fun _ _ _ _ n=>n)
  (fun b o hc e=>⟨o,k b o hc e⟩) (fun _ _ e=>e) (fun _ _ _ e=>e) (fun b ps e=>⟨#[],by rw [e];simp⟩) (fun m hm=>?_) (fun b u e=>?_) I.bare
 ·obtain ⟨o,es,ep,ho,r⟩:=hm
  exact ⟨o,es,ep,k _ o (fun z=>(hf _ z).2.1 rfl) ho,r⟩
 ·refine (I.hok b u e).stay (fun c v hc q=>k c v ?_ q) (fun _ q=>q) fun _ _ q=>q
  rcases hc with z|z
  ·rw [z];exact nit b u e
  ·exact nit c _ z
theorem pO {T:Addr}{o:HO}(I:Inv X pins σ H s)(hf:∀b∈ch,fC X pins H b)(k:∀b o,b∉ch->s.heap.get? b=some o->h'.get? b=some o)(hT:s.heap.objs.size<=T)(new:cj X.prog X.w (upd H T o) h' T o) :
 Inv X pins σ (upd H T o) {s with heap:=h',toks:=t'}:=by
 have hn:H T=none:=I.hok.fresh hT
 have nit:∀b u,H b=some u->b∉ch:=fun b u e z=>by rw [(hf b z).1] at e;cases e
 refine I.step (g':=s.gens) (d':=s.drawn) (ch:=ch) (fun b hb=>⟨(hf b hb).2.2.2.1,(hf b hb).2.1,(hf b hb).2.2.2.2.1,(hf b hb).2.2.2.2.2⟩) (fun b o _ _ hc e _=>k b o hc e) (fun b o _ _ hc e _=>⟨o.slots,k b o hc e⟩)
  (fun b o _ e n=>by rw [ax (MA (L5 (L4 e) hT))];exact n)
  (fun b o hc e=>⟨o,k b o hc e⟩) (fun b xs e=>by rw [ax (aN e hn)];exact e) (fun b ob u e=>by rw [ax (aN e hn)];exact e) (fun b ps e=>⟨#[],by rw [ax (aN e hn),e];simp⟩) (fun m hm=>?_) (fun b u e=>?_) I.bare
 ·obtain ⟨o,es,ep,ho,r⟩:=hm
  exact ⟨o,es,ep,k _ o (fun z=>(hf _ z).2.1 rfl) ho,r⟩
 ·by_cases hb:b=T
  ·subst hb;rw [bt] at e;cases e;exact new
  ·rw [ax hb] at e
   refine (I.hok b u e).stay (fun c v hc q=>k c v ?_ q) (fun c q=>by rw [ax (aN q hn)];exact q) fun c xs q=>by rw [ax (aN q hn)];exact q
   rcases hc with z|z
   ·rw [z];exact nit b u e
   ·exact nit c _ z
end
noncomputable def J0 (K:LH)(a:Addr):It:=
 ⟨fun i H=>∃xs x,b9 K H a xs/\xs[i]?=some x,fun i H v H'=>∃p x,H p=none/\v=.ref p/\H'=upd H p (.tup [.int i,x])/\∀xs,b9 K H a xs->xs[i]?=some x,fun i H=>∃xs,b9 K H a xs/\xs.length<=i⟩
theorem wx {P:Mc}{w:Me}{K:LH}{elts:List Expr}{kk:Nat}{pos:Pos}(a it e:Addr)(hne:e≠it) :
 Turn P w K (.Tuple elts kk pos) (J0 K a) [e,it] e (fun i h=>(∃old,IsEnum h e it (i:Nat) old)/\h.IsListIter it a i) where
 mem:=by simp
 obj:=fun i h ⟨⟨old,he⟩,o,ho,c,d⟩ b hb=>by
  rcases My.mp hb with z|z
  ·subst z;exact ⟨_,he,fun v z=>by cases z⟩
  ·have e:b=it:=by simpa using z
   subst e
   exact ⟨o,ho,fun v z=>by rw [d] at z;cases z⟩
 keep:=fun i h h' ⟨⟨old,he⟩,st⟩ k=>⟨⟨old,k e (by simp) _ he⟩,st.at fun o e=>k it (by simp) o e⟩
 item:=by
  intro X hP hw hK hc i pins s σ H E I hf st hg
  subst hP hw hK
  obtain ⟨xs,x,hq,hx⟩:=hg
  obtain ⟨⟨old,he⟩,hit⟩:=st
  obtain ⟨its,rv,p,hz⟩:=I.list hq
  obtain ⟨u,hu,ru⟩:=rv.get hx
  refine wpAny_pyNext_enum_item he hit p.isList (x:=u) (by simpa using hu) hne fun h1 ho hit1 hT hsz hk=>⟨_,rfl,?_⟩
  have hT0:H s.heap.objs.size=none:=I.hok.fresh (LP _)
  have elt:e<s.heap.objs.size:=L4 he
  refine wpAny_letOwnedTupleGo_enum (s:={s with heap:=h1,toks:=s.toks+1}) ho fun h2 he2 hs2=>?_
  have he2:IsEnum h2 e it ((i+1:Nat):Int) u:=by simpa using he2
  have hT2:h2.get? s.heap.objs.size=some {cls:=.type "tuple",data:=.seq #[.int i s.toks,u]}:=(hs2.2 _ (MU elt)).trans hT
  refine ⟨.ref s.heap.objs.size,upd H s.heap.objs.size (.tup [.int i,x]),pO (s:=s) (t':=s.toks+1) I hf (fun b o hb q=>(hs2.2 b (fun z=>hb (by simp [z]))).trans (hk b o (fun z=>hb (by simp [z])) (fun z=>hb (by simp [z])) q)) (LP _) ⟨?_,[.int i s.toks,u],.cons ⟨_,rfl⟩ (.cons ru .nil),⟨_,hT2,rfl,_,rfl⟩⟩,rfl,
   ⟨_,x,hT0,rfl,rfl,fun ys hy=>by rw [I.list_inj hy hq];exact hx⟩,⟨⟨u,he2⟩,hit1.extBut hs2.extBut (MR hne)⟩,fun b hb=>?_⟩
  ·show 2<=sizeLine;decide
  ·have:b<s.heap.objs.size:=by
    rcases My.mp hb with z|z
    ·subst z;exact elt
    ·have e:b=it:=by simpa using z
     subst e
     obtain ⟨o,e,_⟩:=hit;exact L4 e
   rw [ax (MA this)];exact (hf b hb).1
 done:=by
  intro X hP hw hK hc i pins s σ H E I hf st hg
  subst hP hw hK
  obtain ⟨xs,hq,hx⟩:=hg
  obtain ⟨⟨old,he⟩,hit⟩:=st
  obtain ⟨its,rv,p,hz⟩:=I.list hq
  have hl:=rv.length
  exact wpAny_pyNext_enum_end (I.ok.hd hc) he hit p.isList (by simp;omega) fun h' eb=>⟨rfl,tK I hf (t':=s.toks) fun b o hb q=>eb b o (fun z=>hb (by simp [z])) q⟩
 self:=fun _ _ _ _ _ ⟨⟨old,he⟩,_⟩ h=>wpAny_pyIter_enum he h
section
variable {fa:Fa}{X:Cx}{a:Expr}{ga:Env->Mem->Res D}{pos p:Pos}
theorem jw:∀(ds:List D) (k i:Nat),(dO k ds)[i]?=(ds[i]?).map fun d=>.tup [.int ((k+i:Nat):Int),d]
 |[],_,_=>by simp [dO]
 |d::ds,k,0=>by simp [dO]
 | d :: ds, k, i + 1 => by
   have:=jw ds (k+1) i
   simp only [dO,Ny,this]
   congr 1
   funext d
   congr 3
   omega
theorem lH:∀(ds:List D) (k:Nat),(dO k ds).length=ds.length
 |[],_=>rfl
 |d::ds,k=>by simp [dO,lH ds]
theorem wa {μ0:Mu}{H0:Hp}{dd:D}{ad:Addr}(h:Rep fa X.K μ0 H0 dd (.ref ad)):c8 fa X.K μ0 H0 (fun M=>(eG M dd).map (dO 0)) (J0 X.K ad):=fun μ H M ds x hM e=>by
 dsimp only at e
 cases e0:eG M dd with
 |none=>rw [e0] at e;cases e
 | some es =>
   rw [e0] at e
   have e:dO 0 es=ds:=LO e
   subst e
   obtain ⟨ad',vs,ea,s,r⟩:=bA hM (Rep.extW x h) e0
   cases ea
   refine ⟨fun i d hd=>?_,fun i hi=>⟨vs,s,by rw [r.length,<- lH es 0];exact hi⟩⟩
   rw [jw] at hd
   cases e1:es[i]? with
   |none=>rw [e1] at hd;cases hd
   | some d0 =>
     rw [e1] at hd
     have hd:D.tup [.int ((0+i:Nat):Int),d0]=d:=LO hd
     subst hd
     obtain ⟨v,hv,rv⟩:=r.get e1
     refine ⟨⟨vs,v,s,hv⟩,fun y H' ⟨q,z,hq,ey,eH,hy⟩=>?_⟩
     have:=hy vs s
     rw [hv] at this;cases this
     subst eH ey
     refine ⟨Ext.alloc hM hq,hM.alloc hq,q,[.int i,v],rfl,.inl (.inl bt),.int i,[v],rfl,?_,v,[],rfl,rv.ext (Ext.alloc hM hq),rfl⟩
     show V.int i=V.int ((0+i:Nat):Int)
     rw [Nat.zero_add]
noncomputable def mj (ga:Env->Mem->Res D):Env->Mem->Res Walk:=fun Z M=>(ga Z M).bind fun x M=>match x with
 |.lst ds=>.ok (fun _=>some (dO 0 ds)) M
 |.frz ds=>.ok (fun _=>some (dO 0 ds)) M
 |.cell k=>.ok (fun M=>(M[k]?).map (dO 0)) M
 |_=>.bad
theorem Eh {elts:List Expr}{kk:Nat}{tp:Pos}(ha:DE fa X a ga)(hg:Gl X "enumerate")(hm:X.mg "enumerate"=none)(hs:starEach [a] X.env=[(false,eval a X.env)]):DI fa X (.Tuple elts kk tp) (.Call (.Name "enumerate" p) [a] [] pos) (mj ga):=by
 intro pins s σ H R I ⟨μ,Z,M,hE,hM,h⟩
 obtain ⟨x,M1,e,q⟩:=aK h
 have key:(∀μ' H',RelM fa X.K μ' H' M1->∀v,Rep fa X.K μ' H' x v->∃ds,eG M1 x=some ds)->(∀J H' μ',Ext μ H μ' H'->RelM fa X.K μ' H' M1->c8 fa X.K μ' H' (fun M=>(eG M x).map (dO 0)) J->R J H')->
  wpAny (model X.prog X.w) X.A (eval (.Call (.Name "enumerate" p) [a] [] pos) X.env) (fun v s1=>wpAny (model X.prog X.w) X.A (pyIter v) (Cb X pins σ (.Tuple elts kk tp) R) X.xe s1) X.xe s:=fun hx q=>by
  refine Call_ (gz I hg hm boot_enumerate (MQ (aO (cK ha fD hs pos pins s σ H (fun vs H1=>∃v μ1,vs=[v]/\Ext μ H μ1 H1/\RelM fa X.K μ1 H1 M1/\Rep fa X.K μ1 H1 x v) I ⟨μ,Z,M,hE,hM,?_⟩) fun us s1 ⟨vs,H1,I1,r1,v,μ1,ev,x1,m1,rv⟩=>?_) hs rfl))
  ·rw [e];exact fun v H1 μ1 x1 m1 r1=>⟨v,μ1,rfl,x1,m1,r1⟩
  subst ev
  obtain ⟨ds,er⟩:=hx μ1 H1 m1 v rv
  obtain ⟨ad,vs,rfl,s1',r⟩:=bA m1 rv er
  cases r1 with
  | cons r1 rr =>
    cases rr
    obtain rfl:=r1
    obtain ⟨its,rvs,pl,hz⟩:=I1.list s1'
    refine call_enumerate_list pl.isList fun h1 he hit hsz hk=>?_
    have I2:Inv X pins σ H1 {s1 with heap:=h1}:=I1.kept (t':=s1.toks) hk
    refine wpAny_pyIter_enum (s:={s1 with heap:=h1}) he ?_
    refine ⟨s1.heap.objs.size+1,[s1.heap.objs.size+1,s1.heap.objs.size],_,_,H1,rfl,I2,wx ad s1.heap.objs.size (s1.heap.objs.size+1) (Nat.succ_ne_self _),⟨⟨.none,he⟩,hit⟩,fun b hb=>?_,q _ H1 μ1 x1 m1 (wa rv)⟩
    have hb:s1.heap.objs.size<=b:=by
     rcases My.mp hb with z|z
     ·subst z;exact NI _
     ·have e:b=s1.heap.objs.size:=by simpa using z
      subst e;exact LP _
    exact I1.fpOk hb (I1.hok.fresh hb)
 cases x with
 |lst ds=>exact key (fun _ _ _ _ _=>⟨ds,rfl⟩) q
 |frz ds=>exact key (fun _ _ _ _ _=>⟨ds,rfl⟩) q
 |cell k=>exact key (fun μ' H' m' v ⟨ad,_,hk⟩=>let ⟨ds,_,e,_⟩:=m'.mu_lt hk;⟨ds,e⟩) q
 |_=>exact q.elim
end
end LD
namespace LD
open PySem PySem.Spec PyProof.Rows L2
noncomputable def bF:Bool->Heap->Addr->Array LI->Prop
 |true,h,a,its=>h.IsList a its
 |false,h,a,its=>h.IsTuple a its
noncomputable def jo:Bool->Heap->Addr->Addr->Nat->Prop
 |true,h,it,a,i=>h.IsListIter it a i
 |false,h,it,a,i=>h.IsTupleIter it a i
theorem bF.at {b:Bool}{h h':Heap}{a:Addr}{its:Array LI}(x:bF b h a its)(k:∀o,h.get? a=some o->h'.get? a=some o):bF b h' a its:=by
 cases b<;>(obtain ⟨o,ho,r⟩:=x;exact ⟨o,k o ho,r⟩)
theorem jo.at {b:Bool}{h h':Heap}{it a:Addr}{i:Nat}(x:jo b h it a i)(k:∀o,h.get? it=some o->h'.get? it=some o):jo b h' it a i:=by
 cases b<;>(obtain ⟨o,ho,r⟩:=x;exact ⟨o,k o ho,r⟩)
theorem jo.obj {b:Bool}{h:Heap}{it a:Addr}{i:Nat}(x:jo b h it a i):∃o,h.get? it=some o/\∀v,o.data≠.cell v:=by
 cases b<;>(obtain ⟨o,ho,c,d⟩:=x;exact ⟨o,ho,fun v z=>by rw [d] at z;cases z⟩)
section
variable {prog:Mc}{w:Me}{A:MK}{E:LI->LM->Prop}{s:LM}
theorem s9 {a b:Nat}(h:a≠b):@Ne Addr a b:=h
theorem EJ {T:Addr}{its:Array LI}{k:Nat}{x:LI}{Q:Unit->LM->Prop}(hT:s.heap.get? T=some {cls:=.type "tuple",data:=.seq its})(hz:its.size<=64)
 (h:∀h',h'.get? T=some {cls:=.type "tuple",data:=.seq (its.setIfInBounds k x)}->Heap.SameBut T s.heap h'->Q () {s with heap:=h'}) :
 wpAny (model prog w) A (updateSeq T (·.setIfInBounds k x)) Q E s:=by
 refine wpAny_updateSeq hT rfl (h _ ?_ (Heap.SameBut.update ..)) (LR hz (by decide)) (by rw [Array.size_setIfInBounds];exact LR hz (by decide))
 rw [Nj _ hT rfl]
 simp [Obj.mapSeq]
theorem u4 {b:Bool}{it a:Addr}{i:Nat}{its:Array LI}{Q:LI->LM->Prop}(hh:A.handled=none)(hit:jo b s.heap it a i)(hl:bF b s.heap a its)
 (hQ:∀x h',its[i]?=some x->jo b h' it a (i+1)->Heap.SameBut it s.heap h'->Q x {s with heap:=h'})
 (hE:its[i]?=none->∀h' e,Heap.ExtBut it s.heap h'->(∃o,h'.get? e=some o/\o.cls=.type "StopIteration")->E (.ref e) {s with heap:=h'}):wpAny (model prog w) A (Builtin.SmallTypes.nextOf (.ref it)) Q E s:=by
 cases b with
 | true => cases hx : its[i]? with
   |some x=>exact wpAny_nextOf_list_item hit hl hx fun h'=>hQ x h' hx
   |none=>exact wpAny_nextOf_list_end hh hit hl hx (hE hx)
 | false =>
   have hit:s.heap.IsTupleIter it a i:=hit
   obtain ⟨o,ho,hc,hd⟩:=id hit
   obtain ⟨ol,hol,_,nl,hdl⟩:=hl
   unfold Builtin.SmallTypes.nextOf
   refine tqa (wpAny_callSpecial?_slot (name:=Str.ofString "__next__") hit.typeIs F.slot_tuple_iterator_next
    (wpAny_call_entry F.slot_tuple_iterator_next hit.typeIs F.entry_tuple_iterator_next ?_ (F.args_tuple_iterator_next_1 _)))
   show wpAny _ _ (field (.ref it) 0 >>= _) _ _ s
   refine tqa (tqf ho hd (x:=.ref a) rfl ?_)
   show wpAny _ _ (if (Value.ref a==Value.none)=true then _ else _) _ _ s
   rw [if_neg (show ¬ ((Value.ref a==Value.none)=true) from Mf)]
   show wpAny _ _ (field (.ref it) 1 >>= _) _ _ s
   refine tqa (tqf ho hd (x:=.int i 0) rfl ?_)
   show wpAny _ _ (seqItems? (.ref a) >>= _) _ _ s
   refine tqa (wpAny_seqItems hol hdl ?_)
   cases hx:its[i]? with
   | some x =>
     simp only [Nk,hx]
     refine tqa (wpAny_setField ho hd (by simp) (tqb ⟨x,rfl,tqb (hQ x _ hx ?_ (Heap.SameBut.update ..))⟩))
     exact ⟨_,Nj _ ho (NN (Nc hd _)),(Obj.cls_mapFields ..).trans hc,by
      rw [Nc hd];simp [rawInt]⟩
   | none =>
     simp only [Nk,hx]
     refine tqa (wpAny_rule (tqa (wpAny_setField ho hd (by simp) ?_)))
     show wpAny _ _ (newExc (.type "StopIteration") [] >>= _) _ _ _
     refine tqa ?_
     simp only [newExc,newTuple]
     refine tqa (wpAny_newObj_type ?_ (by size_fits))
     refine tqa (m:=firstArgMember _ _) (wpAny_of_eq (a:=Value.none) (by first|rfl|(simp only [firstArgMember];rfl)) ?_)
     refine wpAny_newObj_type ?_ (by size_fits)
     simp only [raiseNew]
     refine tqa (wpAny_handled ?_)
     first|rw [show A.in1.handled=none from hh]|rw [hh]
     refine tqa (tqb (wpAny_throw ?_))
     exact hE hx _ _ (((Heap.SameBut.update ..).extBut.push _).push _) ⟨_,L6 _ rfl,rfl⟩
abbrev iZ (us:Array LI):Obj:={cls:=.type "tuple",data:=.seq us}
noncomputable def oS (n k j:Nat):List LI:=(List.range' k j).map fun k=>Value.ref (n+k)
noncomputable def vN (n m:Nat)(h h':Heap):Prop:=∀(c:Nat) o,(c<n\/c=n+m\/n+m+2<c)->h.get? c=some o->h'.get? c=some o
noncomputable def vS (n i k:Nat)(l:List (Bool×Nat))(h:Heap):Prop:=∀(j:Nat) b a,l[j]?=some (b,a)->jo b h (n+j) a (if j<k then i+1 else i)
noncomputable def HA (n:Nat)(l:List (Bool×Nat))(xs:Nat->Array LI)(h:Heap):Prop:=∀(j:Nat) b a,l[j]?=some (b,a)->a<n/\bF b h a (xs j)
abbrev mE (h:Heap)(n m:Nat)(v:LI):Prop:=IsZip h (n+m+2) (n+m) (n+m+1) v
noncomputable def Lg (n m i k:Nat)(l:List (Bool×Nat))(xs:Nat->Array LI)(h0 h:Heap):Prop:=mE h n m .ellipsis/\(∃us:Array LI,us.size=m/\(∀j<k,us[j]?=(xs j)[i]?)/\h.get? (n+m+1)=some (iZ us))/\vS n i k l h/\HA n l xs h/\vN n m h0 h/\h.objs.size=h0.objs.size
theorem BD {M:Model}{β:Type}{f:LI×Nat->β->Sem (ForInStep β)}{b:β}{Q:β->LM->Prop}(n m:Nat)(I:Nat->LM->Prop)
 (hs:∀k s,k<m->I k s->wpAny M A (f (.ref (n+k),k) b) (fun r s'=>r=.yield b/\I (k+1) s') E s) (hQ:∀s,I m s->Q b s):∀(j k:Nat) (s:LM),k+j=m->I k s->wpAny M A (forIn ((oS n k j).zipIdx k) b f) Q E s
 |0,k,s,e,h=>tqb (hQ s (e ▸ h))
 | j + 1, k, s, e, h => by
   show wpAny M A (forIn ((Value.ref (n+k),k)::(oS n (k+1) j).zipIdx (k+1)) b f) Q E s
   rw [List.forIn_cons]
   refine tqa (aO (hs k s (by omega) h) ?_)
   rintro _ s' ⟨rfl,h'⟩
   exact BD n m I hs hQ j (k+1) s' (by omega) h'
theorem qZ {n m i:Nat}{l:List (Bool×Nat)}{xs:Nat->Array LI}{us:Array LI}{Q:LI->LM->Prop}(hh:A.handled=none)(hl:l.length=m+1)(h64:m<64)
 (hz:mE s.heap n (m+1) .none) (hTI:s.heap.get? (n+(m+1))=some (iZ (oS n 0 (m+1)).toArray)) (hTO:s.heap.get? (n+(m+1)+1)=some (iZ us)) (hu:us.size=m+1) (hi:vS n i 0 l s.heap) (hq:HA n l xs s.heap)
 (hQ:∀h' us,us.size=m+1->(∀k<m+1,us[k]?=(xs k)[i]?)->mE h' n (m+1) (rawInt s.heap.objs.size)->h'.get? (n+(m+1)+1)=some (iZ us)->vS n (i+1) 0 l h'->h'.get? s.heap.objs.size=some (iZ us)->vN n (m+1) s.heap h'->Q (.ref s.heap.objs.size) {s with heap:=h'})
 (hE:∀h' e k,k<m+1->(xs k)[i]?=none->vN n (m+1) s.heap h'->(∃o,h'.get? e=some o/\o.cls=.type "StopIteration")->E (.ref e) {s with heap:=h'}) :
 wpAny (model prog w) A (Builtin.«zip.__next__» ⟨[.ref (n+(m+1)+2)],[]⟩) (fun fin s'=>∃v,fin=.done (.ret v)/\Q v s') E s:=by
 show wpAny _ _ (field (.ref (n+(m+1)+2)) 2 >>= _) _ _ _
 refine tqa (tqf hz rfl (x:=.bool false) rfl ?_)
 show wpAny _ _ (field (.ref (n+(m+1)+2)) 3 >>= _) _ _ _
 refine tqa (tqf hz rfl (x:=.ref (n+(m+1))) rfl ?_)
 refine tqa (wpAny_seqItems hTI rfl ?_)
 show wpAny _ _ (Builtin.SmallTypes.ownedTupleIsFree (.ref (n+(m+1)+2)) >>= _) _ _ _
 refine tqa ?_
 unfold Builtin.SmallTypes.ownedTupleIsFree
 refine tqa (tqf hz rfl (x:=.none) rfl (tqb ?_))
 simp only [if_true]
 refine tqa (wpAny_rule ?_)
 refine tqa (tqf hz rfl (x:=.ref (n+(m+1)+1)) rfl ?_)
 refine tqa (wpAny_setField_rec hz (by simp) fun h0 hz0 hs0=>?_)
 have u0:∀(c:Nat) o,c≠n+(m+1)+2->s.heap.get? c=some o->h0.get? c=some o:=fun c o ne=>hs0.extBut c o ne
 have mm:∀{j b a},l[j]?=some (b,a)->j<m+1:=fun e=>hl ▸ (LJ.mp e).1
 refine tqa (BD n (m+1) (fun k s'=>∃h,s'={s with heap:=h}/\Lg n (m+1) i k l xs s.heap h) ?_ ?_ (m+1) 0 _ (Nat.zero_add _) ⟨h0,rfl,hz0,⟨us,hu,fun _ z=>absurd z (Nat.not_lt_zero _),u0 _ _ (by omega) hTO⟩,fun j b a e=>(hi j b a e).at fun o=>u0 _ o (by have:=mm e;omega),fun j b a e=>⟨(hq j b a e).1,(hq j b a e).2.at fun o=>u0 _ o (by have:=(hq j b a e).1;omega)⟩,fun c o hc=>u0 c o (by omega),hs0.1⟩)
 ·rintro k _ hk ⟨h,rfl,hz,⟨us,hu,hx,hT⟩,hi,hq,kp,sz⟩
  obtain ⟨⟨b,a⟩,e⟩:∃p,l[k]?=some p:=⟨_,Mb (by omega)⟩
  have it:=hi k b a e
  rw [if_neg (MX k)] at it
  refine tqa (wpAny_onRaise ?_)
  show wpAny _ _ (Builtin.SmallTypes.nextOf (.ref (n+k)) >>= _) _ _ _
  refine tqa (u4 hh it (hq k b a e).2 (fun x h1 ex j1 hs1=>tqb ?_) fun en h1 e1 hs1 ⟨oe,hoe,hce⟩=>?_)
  ·have hT1:=hs1.extBut _ _ (s9 (by omega)) hT
   refine tqa (wpAny_seqItems hT1 rfl ?_)
   refine tqa (EJ hT1 (by omega) fun h2 hT2 hs2=>?_)
   have up:∀(c:Nat) o,c≠n+k->c≠n+(m+1)+1->h.get? c=some o->h2.get? c=some o:=fun c o x y z=>hs2.extBut c o y (hs1.extBut c o x z)
   refine tqa (wpAny_letGo (tqb ⟨rfl,h2,rfl,up _ _ (by omega) (by omega) hz,⟨_,(Array.size_setIfInBounds ..).trans hu,fun j hj=>?_,hT2⟩,fun j b' a' e'=>?_,fun j b a e=>⟨(hq j b a e).1,(hq j b a e).2.at fun o=>up _ o (by have:=(hq j b a e).1;omega) (by have:=(hq j b a e).1;omega)⟩,fun c o hc x=>up c o (by omega) (by omega) (kp c o hc x),by rw [hs2.1,hs1.1,sz]⟩))
   ·by_cases jk:j=k
    ·subst jk
     rw [Array.getElem?_setIfInBounds_self_of_lt (by omega),ex]
    ·rw [Array.getElem?_setIfInBounds_ne (MR jk),hx j (by omega)]
   ·by_cases jk:j=k
    ·subst jk
     cases e.symm.trans e'
     rw [if_pos (Nat.lt_succ_self _)]
     exact j1.at fun o=>hs2.extBut _ o (s9 (by omega))
    ·have q:=hi j b' a' e'
     have:=mm e'
     rw [show (if j<k+1 then i+1 else i)=if j<k then i+1 else i by split<;>split<;>omega]
     exact q.at fun o=>up _ o (by omega) (by omega)
  ·have hz1:=hs1 _ _ (s9 (by omega)) hz
   have hez:e1≠n+(m+1)+2:=fun x=>by subst x;rw [hz1] at hoe;cases hoe;simp at hce
   exact wpAny_setField_rec hz1 (by simp) fun h2 _ hs2=>hE h2 e1 k hk en (fun c o hc x=>hs2.extBut _ _ (s9 (by omega)) (hs1 _ _ (s9 (by omega)) (kp c o hc x))) ⟨oe,hs2.extBut _ _ hez hoe,hce⟩
 ·rintro _ ⟨h4,rfl,hz4,⟨us,hu,hx,hT⟩,hi,hq,kp,sz4⟩
  refine tqa (wpAny_seqItems hT rfl ?_)
  refine tqa (wpAny_newTuple (hsz:=LR (show us.toList.length<=64 by rw [Nr];omega) (by decide)) ?_)
  have hzlt:n+(m+1)+2<h4.objs.size:=L4 hz4
  show wpAny _ _ (Builtin.SmallTypes.ownedTupleHandOut (.ref (n+(m+1)+2)) (.ref h4.objs.size) >>= _) _ _ _
  refine tqa ?_
  unfold Builtin.SmallTypes.ownedTupleHandOut
  have hz6:mE (h4.push (iZ us)) n (m+1) .ellipsis:=LK _ hz4
  refine tqa (wpAny_setField_rec hz6 (by simp) fun h7 hz7 hs7=>?_)
  replace hz7:mE h7 n (m+1) (rawInt h4.objs.size):=hz7
  refine wpAny_setField_rec hz7 (by simp) fun h8 hz8 hs8=>?_
  have up:∀(c:Nat) o,c≠n+(m+1)+2->(h4.push (iZ us)).get? c=some o->h8.get? c=some o:=fun c o c1 e=>hs8.extBut _ _ c1 (hs7.extBut _ _ c1 e)
  refine tqb ⟨_,rfl,?_⟩
  show Q (.ref h4.objs.size) _
  have hT8:=up h4.objs.size _ (MU hzlt) (L6 _ rfl)
  rw [sz4] at hT8 hz8 ⊢
  refine hQ h8 us hu hx hz8 (up _ _ (by omega) (LK _ hT)) (fun j b a e=>?_) hT8 fun c o hc e=>up c o (by omega) (LK _ (kp c o hc e))
  have q:=hi j b a e
  rw [if_pos (mm e)] at q
  exact q.at fun o e'=>up _ o (by have:=mm e;omega) (LK _ e')
end
end LD
namespace LD
open PySem PySem.Spec PyProof.Rows L2
noncomputable def jC (K:LH)(H:Hp):Bool->Addr->List V->Prop
 |true,a,xs=>b9 K H a xs
 |false,a,xs=>c9 K H a xs
noncomputable def dM:D->Bool
 |.tup _=>false
 |_=>true
noncomputable def cY:D->Bool
 |.tup _=>true
 |.lst _=>true
 |.frz _=>true
 |.cell _=>true
 |_=>false
theorem tX {X:Cx}{pins:List (Addr×Obj)}{σ:L2.St}{H:Hp}{s:LM}{b:Bool}{a:Addr}{xs:List V}(I:Inv X pins σ H s)(h:jC X.K H b a xs):∃its:List LI,Vals xs its/\bF b s.heap a its.toArray:=by
 cases b with
 |true=>obtain ⟨its,r,p,_⟩:=I.list h;exact ⟨its,r,p.isList⟩
 |false=>obtain ⟨its,r,p,_⟩:=I.tuple h;exact ⟨its,r,p⟩
theorem mY {X:Cx}{pins:List (Addr×Obj)}{σ:L2.St}{H:Hp}{s:LM}{b:Bool}{a:Addr}{xs ys:List V}(I:Inv X pins σ H s)(h:jC X.K H b a xs)(h':jC X.K H b a ys):xs=ys:=by
 cases b with
 |true=>exact I.list_inj h h'
 |false=>exact I.tuple_inj h h'
theorem gP {fa:Fa}{X:Cx}{μ:Mu}{H:Hp}{M:Mem}{d:D}{a:Addr}{ds:List D}(hM:RelM fa X.K μ H M)(h:Rep fa X.K μ H d (.ref a))(e:bH M d=some ds):∃vs,jC X.K H (dM d) a vs/\aG fa X.K μ H ds vs:=by
 cases d with
 |tup xs=>cases e;obtain ⟨a',vs,e,s,r⟩:=h;cases e;exact ⟨vs,s,r⟩
 |lst xs=>obtain ⟨a',vs,e',s,r⟩:=bA hM h (show eG M (.lst xs)=some ds from e);cases e';exact ⟨vs,s,r⟩
 |frz xs=>obtain ⟨a',vs,e',s,r⟩:=bA hM h (show eG M (.frz xs)=some ds from e);cases e';exact ⟨vs,s,r⟩
 |cell k=>obtain ⟨a',vs,e',s,r⟩:=bA hM h (show eG M (.cell k)=some ds from e);cases e';exact ⟨vs,s,r⟩
 |_=>cases e
theorem i5 {fa:Fa}{X:Cx}{pins:List (Addr×Obj)}{σ:L2.St}{μ:Mu}{H:Hp}{s:LM}{M:Mem}{d:D}{v:V}(I:Inv X pins σ H s)(hM:RelM fa X.K μ H M)(h:Rep fa X.K μ H d v)(e:cY d=true):∃(a:Nat) (its:Array LI),v=.ref a/\bF (dM d) s.heap a its:=by
 have key:∀ds,bH M d=some ds->∃(a:Nat) (its:Array LI),v=.ref a/\bF (dM d) s.heap a its:=fun ds z=>by
  obtain ⟨a,vs,rfl,_,_⟩:=i6 hM h z
  obtain ⟨vs,s1,_⟩:=gP hM h z
  obtain ⟨its,_,p⟩:=tX I s1
  exact ⟨a,its.toArray,rfl,p⟩
 cases d with
 |tup xs=>exact key xs rfl
 |lst xs=>exact key xs rfl
 |frz xs=>exact key xs rfl
 | cell k =>
   obtain ⟨a,e,hk⟩:=id h
   obtain ⟨ds,_,z,_⟩:=hM.mu_lt hk
   exact key ds z
 |_=>cases e
theorem bF.lt {b:Bool}{h:Heap}{a:Addr}{its:Array LI}(x:bF b h a its):a<h.objs.size:=by
 cases b<;>(obtain ⟨o,ho,r⟩:=x;exact L4 ho)
theorem bF.push {b:Bool}{h:Heap}{a:Addr}{its:Array LI}(x:bF b h a its)(ob:Obj):bF b (h.push ob) a its:=by
 cases b<;>(obtain ⟨o,ho,r⟩:=x;exact ⟨o,LK _ ho,r⟩)
noncomputable def gA (b:Bool)(a:Addr):Obj:={cls:=.type (if b then "list_iterator" else "tuple_iterator"),data:=.fields #[.ref a,.int 0 0]}
theorem jo.new {b:Bool}{h:Heap}{it a:Addr}(e:h.get? it=some (gA b a)):jo b h it a 0:=by
 cases b<;>exact ⟨_,e,rfl,rfl⟩
theorem gu {prog:Mc}{w:Me}{A:MK}{E:LI->LM->Prop}{s:LM}{b:Bool}{a:Addr}{its:Array LI}{Q:LI->LM->Prop}(h:bF b s.heap a its)(hQ:Q (.ref s.heap.objs.size) {s with heap:=s.heap.push (gA b a)}):wpAny (model prog w) A (pyIter (.ref a)) Q E s:=by
 cases b with
 |true=>exact wpAny_pyIter_list h hQ
 |false=>exact wpAny_pyIter_tuple h hQ
abbrev jn:=List (Bool×Nat)
noncomputable def Ce (K:LH)(l:jn):It:=
 ⟨fun i H => ∀ (j : Nat) b a, l[j]? = some (b, a) -> ∃ xs x, jC K H b a xs /\ xs[i]? = some x,
  fun i H v H'=>∃p ys,H p=none/\v=.ref p/\H'=upd H p (.tup ys)/\ys.length=l.length/\∀(j:Nat) b a,l[j]?=some (b,a)->∀xs,jC K H b a xs->ys[j]?=xs[i]?,
  fun i H=>(∀(j:Nat) b a,l[j]?=some (b,a)->∃xs,jC K H b a xs)/\∃(j:Nat) (b:Bool) (a:Nat) (xs:List V),l[j]?=some (b,a)/\jC K H b a xs/\xs.length<=i⟩
noncomputable def qY (n m:Nat)(l:jn)(i:Nat)(h:Heap):Prop:=mE h n (m+1) .none/\h.get? (n+(m+1))=some (iZ (oS n 0 (m+1)).toArray)/\(∃us:Array LI,us.size=m+1/\h.get? (n+(m+1)+1)=some (iZ us))/\vS n i 0 l h
noncomputable def A3 (n m:Nat):List Addr:=List.range' n (m+4)
theorem dn {n m b:Nat}:b∈A3 n m↔n<=b/\b<n+(m+4):=List.mem_range'_1
theorem Bp {X:Cx}{pins:List (Addr×Obj)}{σ:L2.St}{H:Hp}{s:LM}{l:jn}(I:Inv X pins σ H s)(h:∀(j:Nat) b a,l[j]?=some (b,a)->∃xs,jC X.K H b a xs) :
 ∃(vs:Nat->List V) (ws:Nat->List LI),∀(j:Nat) b a,l[j]?=some (b,a)->jC X.K H b a (vs j)/\Vals (vs j) (ws j)/\bF b s.heap a (ws j).toArray:=by
 obtain ⟨f,hf⟩:=Classical.skolem.mp fun j:Nat=>show ∃p:List V×List LI,∀b a,l[j]?=some (b,a)->jC X.K H b a p.1/\Vals p.1 p.2/\bF b s.heap a p.2.toArray from by
  cases e:l[j]? with
  |none=>exact ⟨([],[]),fun _ _ z=>by cases z⟩
  | some p =>
    obtain ⟨xs,hx⟩:=h j p.1 p.2 e
    obtain ⟨its,r,q⟩:=tX I hx
    exact ⟨(xs,its),fun b' a' z=>by cases z;exact ⟨hx,r,q⟩⟩
 exact ⟨fun j=>(f j).1,fun j=>(f j).2,hf⟩
theorem Bc:∀{us:List LI}{R:Nat->V->Prop},(∀(k:Nat) w,us[k]?=some w->∃y,RelV y w/\R k y)->∃ys,Vals ys us/\∀(k:Nat) y,ys[k]?=some y->R k y
 |[],R,_=>⟨[],.nil,fun _ _ z=>by simp at z⟩
 | w :: r, R, h => by
   obtain ⟨y,e,q⟩:=h 0 w rfl
   obtain ⟨ys,v,t⟩:=Bc (R:=fun k=>R (k+1)) fun k w e=>h (k+1) w e
   exact ⟨y::ys,.cons e v,fun k z e=>match k,e with
    |0,e=>by cases e;exact q
    |k+1,e=>t k z e⟩
theorem rg {P:Mc}{w:Me}{K:LH}{elts:List Expr}{kk:Nat}{pos:Pos}(n m:Nat)(l:jn)(hl:l.length=m+1)(h64:m<64)(hn:∀(j:Nat) b a,l[j]?=some (b,a)->a<n) :
 Turn P w K (.Tuple elts kk pos) (Ce K l) (A3 n m) (n+(m+1)+2) (fun i h=>qY n m l i h) where
 mem:=dn.mpr (by omega)
 obj:=fun i h ⟨h1,h2,⟨us,_,h3⟩,hi⟩ (b:Nat) hb=>by
  replace hb:=dn.mp hb
  by_cases c:b<n+(m+1)
  ·obtain ⟨j,rfl⟩:∃j,b=n+j:=⟨b-n,by omega⟩
   exact (hi j _ _ (Mb (by omega))).obj
  ·rcases (show b=n+(m+1)\/b=n+(m+1)+1\/b=n+(m+1)+2 by omega) with rfl|rfl|rfl
   ·exact ⟨_,h2,fun v z=>by cases z⟩
   ·exact ⟨_,h3,fun v z=>by cases z⟩
   ·exact ⟨_,h1,fun v z=>by cases z⟩
 keep:=fun i h h' ⟨h1,h2,⟨us,hu,h3⟩,hi⟩ k=>⟨k _ (dn.mpr (by omega)) _ h1,k _ (dn.mpr (by omega)) _ h2,⟨us,hu,k _ (dn.mpr (by omega)) _ h3⟩,fun j b a e=>(hi j b a e).at (k _ (dn.mpr (by have:=(LJ.mp e).1;omega)))⟩
 item:=by
  intro X hP hw hK hc i pins s σ H E I hf ⟨h1,h2,⟨us,hu,h3⟩,hi⟩ hg
  subst hP hw hK
  obtain ⟨vs,ws,hv⟩:=Bp I fun j b a e=>(hg j b a e).imp fun _ ⟨_,h,_⟩=>h
  have it:∀k,k<m+1->∃x w b a,l[k]?=some (b,a)/\(vs k)[i]?=some x/\(ws k)[i]?=some w/\RelV x w:=fun k hk=>by
   have e:l[k]?=some (l[k]'(by omega)):=Mb _
   obtain ⟨xs,x,hx,ex⟩:=hg k _ _ e
   obtain ⟨q1,q2,_⟩:=hv k _ _ e
   rw [mY I hx q1] at ex
   obtain ⟨w,hw,r⟩:=q2.get ex
   exact ⟨x,w,_,_,e,ex,hw,r⟩
  have hT:s.TypeIs (.ref (n+(m+1)+2)) "zip":=⟨_,h1,rfl⟩
  unfold pyNext
  refine tqa (wpAny_attempt (wpAny_callSpecial?_slot (name:=Str.ofString "__next__") hT F.slot_zip_next
   (wpAny_call_entry F.slot_zip_next hT F.entry_zip_next
    (qZ (E:=_) (xs:=fun j=>(ws j).toArray) (I.ok.hd hc) hl h64 h1 h2 h3 hu hi (fun j b a e=>⟨hn j b a e,(hv j b a e).2.2⟩) (fun h4 us hu hx z1 z2 g hTT hk=>tqb ⟨_,rfl,?_⟩) fun h' e k hk en _ _=>?_) (F.args_zip_next_1 _))))
  ·have zlt:n+(m+1)+2<s.heap.objs.size:=L4 h1
   refine wpAny_letOwnedTupleGo_zip (s:={s with heap:=h4}) z1 fun h5 hz5 hs5=>?_
   have up:∀(c:Nat) o,c≠n+(m+1)+2->h4.get? c=some o->h5.get? c=some o:=fun c o=>hs5.extBut c o
   obtain ⟨ys,vy,ty⟩:=Bc (us:=us.toList) (R:=fun j y=>(vs j)[i]?=some y) fun k w e=>by
    have hk:k<m+1:=by have:=(LJ.mp e).1;rw [Nr] at this;omega
    obtain ⟨x,w',_,_,_,ex,ew,r⟩:=it k hk
    have q:=hx k hk
    rw [Array.getElem?_toList] at e
    simp only [List.getElem?_toArray] at q
    rw [e,ew] at q
    cases q
    exact ⟨x,r,ex⟩
   have ly:ys.length=m+1:=by rw [vy.length,Nr,hu]
   refine ⟨.ref s.heap.objs.size,upd H s.heap.objs.size (.tup ys),pO (s:=s) (t':=s.toks) I hf (fun (b:Nat) o hb q=>up b o (fun z=>hb (dn.mpr (by omega))) (hk b o (by rw [dn] at hb;omega) q)) (LP _) ⟨by rw [ly];exact LR (show m+1<=64 by omega) (by decide),us.toList,vy,⟨_,up _ _ (MU zlt) hTT,rfl,_,rfl⟩⟩,rfl,
    ⟨_,ys,I.hok.fresh (LP _),rfl,rfl,ly.trans hl.symm,fun j b a e xs hx=>?_⟩,⟨hz5,up _ _ (by omega) (hk _ _ (by omega) h2),⟨us,hu,up _ _ (by omega) z2⟩,fun j b a e=>(g j b a e).at fun o=>up _ o (by have:=(LJ.mp e).1;omega)⟩,fun (b:Nat) hb=>?_⟩
   ·have hj:j<ys.length:=by have:=(LJ.mp e).1;omega
    have e1:=Mb hj
    rw [mY I hx (hv j b a e).1,ty j _ e1,e1]
   ·rw [dn] at hb
    rw [ax (MA (by omega:(b:Nat)<s.heap.objs.size))];exact (hf b (dn.mpr hb)).1
  ·obtain ⟨_,_,_,_,_,_,ew,_⟩:=it k hk
   simp only [List.getElem?_toArray] at en
   rw [ew] at en
   cases en
 done:=by
  intro X hP hw hK hc i pins s σ H E I hf ⟨h1,h2,⟨us,hu,h3⟩,hi⟩ ⟨hs,k,b,a,xs,ek,hq,le⟩
  subst hP hw hK
  obtain ⟨vs,ws,hv⟩:=Bp I hs
  have hT:s.TypeIs (.ref (n+(m+1)+2)) "zip":=⟨_,h1,rfl⟩
  unfold pyNext
  refine tqa (wpAny_attempt (wpAny_callSpecial?_slot (name:=Str.ofString "__next__") hT F.slot_zip_next
   (wpAny_call_entry F.slot_zip_next hT F.entry_zip_next
    (qZ (E:=_) (xs:=fun j=>(ws j).toArray) (I.ok.hd hc) hl h64 h1 h2 h3 hu hi (fun j b a e=>⟨hn j b a e,(hv j b a e).2.2⟩) (fun h4 us hu hx _ _ _ _ _=>?_) fun h' e k _ _ hk he=>?_) (F.args_zip_next_1 _))))
  ·exfalso
   have hk:=(LJ.mp ek).1
   have q:=hx k (by omega)
   obtain ⟨q1,q2,_⟩:=hv k b a ek
   rw [Array.getElem?_eq_getElem (by omega)] at q
   simp only [List.getElem?_toArray] at q
   rw [Nq (by rw [<- q2.length,mY I q1 hq];exact le)] at q
   cases q
  ·obtain ⟨o,ho,hcl⟩:=he
   refine tqa (wpAny_isInstance (T:="StopIteration") (b:=true) ⟨o,ho,hcl⟩ isSubtype_stop ?_)
   exact tqb ⟨rfl,tK (s:=s) I hf (t':=s.toks) fun (b:Nat) o hb q=>hk b o (by rw [dn] at hb;omega) q⟩
 self:=fun _ _ _ _ _ st h=>wpAny_pyIter_zip st.1 h
noncomputable def hG (h:Heap):jn->Heap
 |[]=>h
 |p::r=>hG (h.push (gA p.1 p.2)) r
noncomputable def qM (h:Heap):jn->List LI
 |[]=>[]
 |p::r=>.ref h.objs.size::qM (h.push (gA p.1 p.2)) r
theorem nS:∀{h:Heap}{l:jn},(hG h l).objs.size=h.objs.size+l.length
 |_,[]=>rfl
 |h,p::r=>by show (hG _ r).objs.size=_;rw [nS,NU,MC];omega
theorem k9:∀{l:jn}{h:Heap}{c:Nat}{o:Obj},h.get? c=some o->(hG h l).get? c=some o
 |[],_,_,_,e=>e
 |_::r,_,_,_,e=>k9 (l:=r) (LK _ e)
theorem qg:∀{l:jn}{h:Heap}{j:Nat}{p:Bool×Nat},l[j]?=some p->(hG h l).get? (h.objs.size+j)=some (gA p.1 p.2)
 |_::r,h,0,_,e=>by cases e;exact k9 (l:=r) (L6 _ rfl)
 | q :: r, h, j + 1, _, e => by
   have:=qg (l:=r) (h:=h.push (gA q.1 q.2)) (j:=j) e
   rw [NU,Nat.add_assoc,Nat.add_comm 1] at this
   exact this
theorem rT:∀{l:jn}{h:Heap}{n k:Nat},h.objs.size=n+k->qM h l=oS n k l.length
 |[],_,_,_,_=>rfl
 | p :: r, h, n, k, e => by
   have:=rT (l:=r) (h:=h.push (gA p.1 p.2)) (n:=n) (k:=k+1) (by rw [NU,e];rfl)
   show Value.ref h.objs.size::qM _ r=Value.ref (n+k)::oS n (k+1) r.length
   rw [this,e]
abbrev A2 (h:Heap)(l:jn):Heap:=(hG h l).push (iZ (qM h l).toArray)
abbrev tJ (h:Heap)(l:jn):Heap:=(A2 h l).push (iZ (l.map fun _=>Value.none).toArray)
abbrev pK (h:Heap)(l:jn):Heap:=(tJ h l).push {cls:=.type "zip",data:=.fields #[.none,.bool false,.bool false,.ref (hG h l).objs.size,.ref (A2 h l).objs.size]}
theorem tH (h:Heap){l:jn}{m:Nat}(hl:l.length=m+1):(tJ h l).objs.size=h.objs.size+(m+1)+2/\qY h.objs.size m l 0 (pK h l)/\∀c o,h.get? c=some o->(pK h l).get? c=some o:=by
 have s0:(hG h l).objs.size=h.objs.size+(m+1):=by rw [nS,hl]
 have s1:(A2 h l).objs.size=h.objs.size+(m+1)+1:=by rw [NU,s0]
 have s2:(tJ h l).objs.size=h.objs.size+(m+1)+2:=by rw [NU,s1]
 have up:∀{c:Nat}{o},(hG h l).get? c=some o->(pK h l).get? c=some o:=fun e=>LK _ (LK _ (LK _ e))
 have g1:(pK h l).get? (hG h l).objs.size=some _:=LK _ (LK _ (L6 _ rfl))
 have g2:(pK h l).get? (A2 h l).objs.size=some _:=LK _ (L6 _ rfl)
 have g3:(pK h l).get? (tJ h l).objs.size=some _:=L6 _ rfl
 rw [s0,rT (Nat.add_zero _).symm,hl] at g1
 rw [s1] at g2
 rw [s2,s1,s0] at g3
 exact ⟨s2,⟨g3,g1,⟨_,by simp [hl],g2⟩,fun j b a e=>jo.new (up (qg e))⟩,fun c o e=>up (k9 e)⟩
theorem vb (b0:Bool)(a0:Nat)(b1:Bool)(a1:Nat)(xs0 xs1:Array LI) :
 Meets (Builtin.«zip.__new__» ⟨[.type "zip",.ref a0,.ref a1],[]⟩) (fun _ R s=>bF b0 s.heap a0 xs0/\bF b1 s.heap a1 xs1/\
  R (.ok (.ret (.ref (tJ s.heap [(b0,a0),(b1,a1)]).objs.size))) {s with heap:=pK s.heap [(b0,a0),(b1,a1)]}):=
 .of_wp fun prog w A R s h=>by
  obtain ⟨hp,g,d,tk,os⟩:=s;obtain ⟨q0,q1,h⟩:=h
  have hsub:=sub_zip
  have L0:bF b0 (Shared.heap ⟨hp,g,d,tk,os⟩) a0 xs0:=q0
  have L1:bF b1 (Shared.heap ⟨hp.push (gA b0 a0),g,d,tk,os⟩) a1 xs1:=(q1).push _
  wp_walk using gu L0,gu L1
  exact ⟨_,rfl,h⟩
theorem va (b0:Bool)(a0:Nat)(b1:Bool)(a1:Nat)(b2:Bool)(a2:Nat)(xs0 xs1 xs2:Array LI) :
 Meets (Builtin.«zip.__new__» ⟨[.type "zip",.ref a0,.ref a1,.ref a2],[]⟩) (fun _ R s=>bF b0 s.heap a0 xs0/\bF b1 s.heap a1 xs1/\bF b2 s.heap a2 xs2/\
  R (.ok (.ret (.ref (tJ s.heap [(b0,a0),(b1,a1),(b2,a2)]).objs.size))) {s with heap:=pK s.heap [(b0,a0),(b1,a1),(b2,a2)]}):=
 .of_wp fun prog w A R s h=>by
  obtain ⟨hp,g,d,tk,os⟩:=s;obtain ⟨q0,q1,q2,h⟩:=h
  have hsub:=sub_zip
  have L0:bF b0 (Shared.heap ⟨hp,g,d,tk,os⟩) a0 xs0:=q0
  have L1:bF b1 (Shared.heap ⟨hp.push (gA b0 a0),g,d,tk,os⟩) a1 xs1:=(q1).push _
  have L2:bF b2 (Shared.heap ⟨(hp.push (gA b0 a0)).push (gA b1 a1),g,d,tk,os⟩) a2 xs2:=((q2).push _).push _
  wp_walk using gu L0,gu L1,gu L2
  exact ⟨_,rfl,h⟩
theorem oO (a b c:LI):checkTypeCall "zip" ⟨[a,b,c],[]⟩=pure ():=by kernel_rfl
theorem qG (a b c:LI):checkBuiltinCall "zip.__new__" ⟨[.type "zip",a,b,c],[]⟩=pure ():=by kernel_rfl
theorem lP (a b c d:LI):argsOk "object.__init__" ⟨[a,b,c,d],[]⟩:=by
 unfold argsOk;rw [signature?_of (id:="object.__init__") (n:=['_','_','t','i','n','i','_','_']) (o:=['t','c','e','j','b','o']) (by kernel_rfl) F.owner_object];kernel_rfl
section
variable {prog:Mc}{w:Me}{A:MK}{E:LI->LM->Prop}{s:LM}{a0 a1 a2:Nat}{b0 b1 b2:Bool}{xs0 xs1 xs2:Array LI}{Q:LI->LM->Prop}
theorem yw (q0:bF b0 s.heap a0 xs0)(q1:bF b1 s.heap a1 xs1)(h:∀h',qY s.heap.objs.size 1 [(b0,a0),(b1,a1)] 0 h'->(∀c o,s.heap.get? c=some o->h'.get? c=some o)->Q (.ref (s.heap.objs.size+2+2)) {s with heap:=h'}) :
 wpAny (model prog w) A (call (.type "zip") [.ref a0,.ref a1]) Q E s:=by
 obtain ⟨z,y,x⟩:=tH s.heap (l:=[(b0,a0),(b1,a1)]) (m:=1) rfl
 refine callType_new F.called_zip (by decide) (F.typeCall_zip_2 _ _) (F.newCall_zip_2 _ _) (fun obj=>F.args_object_init_3 obj _ _) F.entry_zip_new (vb b0 a0 b1 a1 xs0 xs1) ⟨q0,q1,?_⟩
 show _/\_
 rw [z]
 exact ⟨⟨_,y.1,rfl⟩,h _ y x⟩
theorem yv (q0:bF b0 s.heap a0 xs0)(q1:bF b1 s.heap a1 xs1)(q2:bF b2 s.heap a2 xs2)(h:∀h',qY s.heap.objs.size 2 [(b0,a0),(b1,a1),(b2,a2)] 0 h'->(∀c o,s.heap.get? c=some o->h'.get? c=some o)->Q (.ref (s.heap.objs.size+3+2)) {s with heap:=h'}) :
 wpAny (model prog w) A (call (.type "zip") [.ref a0,.ref a1,.ref a2]) Q E s:=by
 obtain ⟨z,y,x⟩:=tH s.heap (l:=[(b0,a0),(b1,a1),(b2,a2)]) (m:=2) rfl
 refine callType_new F.called_zip (by decide) (oO _ _ _) (qG _ _ _) (fun obj=>lP obj _ _ _) F.entry_zip_new (va b0 a0 b1 a1 b2 a2 xs0 xs1 xs2) ⟨q0,q1,q2,?_⟩
 show _/\_
 rw [z]
 exact ⟨⟨_,y.1,rfl⟩,h _ y x⟩
end
noncomputable def nK (d0 d1:D):Walk:=fun M=>(bH M d0).bind fun y0=>(bH M d1).map fun y1=>ip y0 y1
noncomputable def mf (g0 g1:Env->Mem->Res D):Env->Mem->Res Walk:=fun Z M=>(g0 Z M).bind fun d0 M=>(g1 Z M).bind fun d1 M=>if cY d0&&cY d1 then .ok (nK d0 d1) M else .bad
theorem q9:∀(y0 y1:List D) (i:Nat) (d:D),(ip y0 y1)[i]?=some d↔∃e0 e1,y0[i]?=some e0/\y1[i]?=some e1/\d=.tup [e0,e1]
 |c0::t0,c1::t1,0,d=>by simp [ip,eq_comm]
 | c0 :: t0, c1 :: t1, i + 1, d => by
   have:=q9 t0 t1 i d
   simpa [ip] using this
 |[],_,i,d=>by simp [ip]
 |_::_,[],i,d=>by simp [ip]
theorem q8:∀(y0 y1:List D) (i:Nat),(ip y0 y1).length<=i->y0.length<=i\/y1.length<=i
 |c0::t0,c1::t1,0,h=>by simp [ip] at h
 | c0 :: t0, c1 :: t1, i + 1, h => by
   have:=q8 t0 t1 i (by simpa [ip] using h)
   simpa using this
 |[],_,i,h=>by simp
 |_::_,[],i,h=>by simp
noncomputable def j5 (d0 d1 d2:D):Walk:=fun M=>(bH M d0).bind fun y0=>(bH M d1).bind fun y1=>(bH M d2).map fun y2=>fh y0 y1 y2
noncomputable def md (g0 g1 g2:Env->Mem->Res D):Env->Mem->Res Walk:=fun Z M=>(g0 Z M).bind fun d0 M=>(g1 Z M).bind fun d1 M=>(g2 Z M).bind fun d2 M=>if cY d0&&cY d1&&cY d2 then .ok (j5 d0 d1 d2) M else .bad
theorem pJ:∀(y0 y1 y2:List D) (i:Nat) (d:D),(fh y0 y1 y2)[i]?=some d↔∃e0 e1 e2,y0[i]?=some e0/\y1[i]?=some e1/\y2[i]?=some e2/\d=.tup [e0,e1,e2]
 |c0::t0,c1::t1,c2::t2,0,d=>by simp [fh,eq_comm]
 | c0 :: t0, c1 :: t1, c2 :: t2, i + 1, d => by
   have:=pJ t0 t1 t2 i d
   simpa [fh] using this
 |[],_,_,i,d=>by simp [fh]
 |_::_,[],_,i,d=>by simp [fh]
 |_::_,_::_,[],i,d=>by simp [fh]
theorem pI:∀(y0 y1 y2:List D) (i:Nat),(fh y0 y1 y2).length<=i->y0.length<=i\/y1.length<=i\/y2.length<=i
 |c0::t0,c1::t1,c2::t2,0,h=>by simp [fh] at h
 | c0 :: t0, c1 :: t1, c2 :: t2, i + 1, h => by
   have:=pI t0 t1 t2 i (by simpa [fh] using h)
   simpa using this
 |[],_,_,i,h=>by simp
 |_::_,[],_,i,h=>by simp
 |_::_,_::_,[],i,h=>by simp
theorem Bs {fa:Fa}{K:LH}{μ:Mu}{H:Hp}:∀{es:List D}{ws:List V},es.length=ws.length->(∀(j:Nat) e w,es[j]?=some e->ws[j]?=some w->Rep fa K μ H e w)->aG fa K μ H es ws
 |[],[],_,_=>rfl
 |e::es,w::ws,hl,h=>⟨w,ws,rfl,h 0 e w rfl rfl,Bs (by simpa using hl) fun j e w=>h (j+1) e w⟩
theorem rf {fa:Fa}{X:Cx}{μ0:Mu}{H0:Hp}{l:jn}{w:Walk} (hw:∀μ H M ds,ExtW μ0 H0 μ H->RelM fa X.K μ H M->w M=some ds->∃ys:List (List D),ys.length=l.length/\(∀(j:Nat) y b a,ys[j]?=some y->l[j]?=some (b,a)->∃vs,jC X.K H b a vs/\aG fa X.K μ H y vs)/\
 (∀(i:Nat) d,ds[i]?=some d->∃es,d=.tup es/\es.map some=ys.map (·[i]?))/\∀i,ds.length<=i->∃y∈ys,y.length<=i):c8 fa X.K μ0 H0 w (Ce X.K l):=fun μ H M ds x hM e=>by
 obtain ⟨ys,hl,hv,hd,he⟩:=hw μ H M ds x hM e
 have at_:∀(j:Nat) b a,l[j]?=some (b,a)->∃y vs,ys[j]?=some y/\jC X.K H b a vs/\aG fa X.K μ H y vs:=fun j b a e=>by
  have hj:=(LJ.mp e).1
  have ey:=Mb (l:=ys) (i:=j) (by omega)
  obtain ⟨vs,q,r⟩:=hv j _ b a ey e
  exact ⟨_,vs,ey,q,r⟩
 refine ⟨fun i d hi=>?_,fun i hi=>⟨fun j b a e=>?_,?_⟩⟩
 ·obtain ⟨es,rfl,ee⟩:=hd i d hi
  have ej:∀{j:Nat}{y:List D},ys[j]?=some y->es[j]?.map some=some y[i]?:=fun {j y} ey=>by
   have:=congrArg (·[j]?) ee
   simpa [ey] using this
  have le:es.length=l.length:=by have:=congrArg List.length ee;simpa [hl] using this
  have it:∀(j:Nat) b a,l[j]?=some (b,a)->∃vs e v,es[j]?=some e/\jC X.K H b a vs/\vs[i]?=some v/\Rep fa X.K μ H e v:=fun j b a e=>by
   obtain ⟨y,vs,ey,q,r⟩:=at_ j b a e
   have z:=ej ey
   cases h:es[j]? with
   |none=>rw [h] at z;cases z
   | some e =>
     rw [h] at z
     obtain ⟨v,hv,rv⟩:=r.get (LO z).symm
     exact ⟨vs,e,v,rfl,q,hv,rv⟩
  refine ⟨fun j b a e=>?_,fun y H' ⟨p,zs,hp,ey,eH,lz,t⟩=>?_⟩
  ·obtain ⟨vs,_,v,_,q,hv,_⟩:=it j b a e
   exact ⟨vs,v,q,hv⟩
  subst eH ey
  refine ⟨Ext.alloc hM hp,hM.alloc hp,p,zs,rfl,.inl (.inl bt),Bs (le.trans lz.symm) fun j e w ee ew=>?_⟩
  have el:=Mb (l:=l) (i:=j) (by have:=(LJ.mp ee).1;omega)
  obtain ⟨vs,e',v,h1,q,hv,rv⟩:=it j _ _ el
  have z:=t j _ _ el vs q
  rw [ew,hv] at z
  rw [ee] at h1
  cases z;cases h1
  exact rv.ext (Ext.alloc hM hp)
 ·obtain ⟨_,vs,_,q,_⟩:=at_ j b a e
  exact ⟨vs,q⟩
 ·obtain ⟨y,hy,ly⟩:=he i hi
  obtain ⟨j,ej⟩:=List.getElem?_of_mem hy
  have el:=Mb (l:=l) (i:=j) (by have:=(LJ.mp ej).1;omega)
  obtain ⟨vs,q,r⟩:=hv j y _ _ ej el
  exact ⟨j,_,_,vs,el,q,by rw [r.length];exact ly⟩
section
variable {fa:Fa}{X:Cx}{μ0:Mu}{H0:Hp}{d0 d1 d2:D}{a0 a1 a2:Nat}(r0:Rep fa X.K μ0 H0 d0 (.ref a0))(r1:Rep fa X.K μ0 H0 d1 (.ref a1))(r2:Rep fa X.K μ0 H0 d2 (.ref a2))
include r0 r1
theorem v7:c8 fa X.K μ0 H0 (nK d0 d1) (Ce X.K [(dM d0,a0),(dM d1,a1)]):=rf fun μ H M ds x hM e=>by
 obtain ⟨y0,s0,e⟩:=Na.mp e
 obtain ⟨y1,s1,rfl⟩:=Mq.mp e
 refine ⟨[y0,y1],rfl,fun j y b a ey el=>?_,fun i d hd=>?_,fun i hi=>?_⟩
 ·match j,ey,el with
  |0,ey,el=>cases ey;cases el;exact gP hM (Rep.extW x r0) s0
  |1,ey,el=>cases ey;cases el;exact gP hM (Rep.extW x r1) s1
 ·obtain ⟨e0,e1,h0,h1,rfl⟩:=(q9 y0 y1 i d).mp hd
  exact ⟨_,rfl,by simp [h0,h1]⟩
 ·rcases q8 y0 y1 i hi with z|z<;>exact ⟨_,by simp,z⟩
include r2
theorem vZ:c8 fa X.K μ0 H0 (j5 d0 d1 d2) (Ce X.K [(dM d0,a0),(dM d1,a1),(dM d2,a2)]):=rf fun μ H M ds x hM e=>by
 obtain ⟨y0,s0,e⟩:=Na.mp e
 obtain ⟨y1,s1,e⟩:=Na.mp e
 obtain ⟨y2,s2,rfl⟩:=Mq.mp e
 refine ⟨[y0,y1,y2],rfl,fun j y b a ey el=>?_,fun i d hd=>?_,fun i hi=>?_⟩
 ·match j,ey,el with
  |0,ey,el=>cases ey;cases el;exact gP hM (Rep.extW x r0) s0
  |1,ey,el=>cases ey;cases el;exact gP hM (Rep.extW x r1) s1
  |2,ey,el=>cases ey;cases el;exact gP hM (Rep.extW x r2) s2
 ·obtain ⟨e0,e1,e2,h0,h1,h2,rfl⟩:=(pJ y0 y1 y2 i d).mp hd
  exact ⟨_,rfl,by simp [h0,h1,h2]⟩
 ·rcases pI y0 y1 y2 i hi with z|z|z<;>exact ⟨_,by simp,z⟩
end
theorem Ee {fa:Fa}{X:Cx}{elts:List Expr}{kk:Nat}{tp p pos:Pos}{e0 e1:Expr}{g0 g1:Env->Mem->Res D}(h0:DE fa X e0 g0)(h1:DE fa X e1 g1)(hg:Gl X "zip")(hm:X.mg "zip"=none)
 (hs0:starEach [e0,e1] X.env=[(false,eval e0 X.env),(false,eval e1 X.env)]) (hs1:starEach [e1] X.env=[(false,eval e1 X.env)]):DI fa X (.Tuple elts kk tp) (.Call (.Name "zip" p) [e0,e1] [] pos) (mf g0 g1):=by
 intro pins s σ H R I ⟨μ,Z,M,hE,hM,h⟩
 obtain ⟨d0,M0,c0,t0⟩:=aK h
 obtain ⟨d1,M1,c1,t1⟩:=aK t0
 split at t1
 ·next hsq=>
  simp only [LN] at hsq
  obtain ⟨hq0,hq1⟩:=hsq
  refine Call_ (gz I hg hm boot_zip (MQ (aO (cK h0 (cK h1 fD hs1) (by rw [hs0,hs1]) pos pins s σ H (fun vs H1=>∃v0 v1 μ1,vs=[v0,v1]/\Ext μ H μ1 H1/\RelM fa X.K μ1 H1 M1/\Rep fa X.K μ1 H1 d0 v0/\Rep fa X.K μ1 H1 d1 v1) I ?_) fun us s1 ⟨vs,H1,I1,r1,v0,v1,μ1,ev,x1,m1,rv0,rv1⟩=>?_) (by rw [hs0,hs1]) (by rw [hs1];rfl)))
  ·refine ⟨μ,Z,M,hE,hM,?_⟩
   rw [c0]
   intro v0 H1 μ1 x1 m1 r0
   refine ⟨μ1,Z,M0,(hE.ext x1),m1,?_⟩
   rw [c1]
   intro v1 H2 μ2 x2 m2 r1
   exact ⟨v0,v1,μ2,rfl,(x1.trans x2),m2,(r0.ext x2),r1⟩
  subst ev
  obtain ⟨a0,its0,rfl,z0⟩:=i5 I1 m1 rv0 hq0
  obtain ⟨a1,its1,rfl,z1⟩:=i5 I1 m1 rv1 hq1
  cases r1 with
  | cons y0 r1 =>
    cases r1 with
    | cons y1 r1 =>
      cases r1
      obtain rfl:=y0
      obtain rfl:=y1
      refine yw z0 z1 fun h1 za hk=>?_
      have I2:Inv X pins σ H1 {s1 with heap:=h1}:=I1.kept (t':=s1.toks) hk
      refine wpAny_pyIter_zip (s:={s1 with heap:=h1}) za.1 ?_
      refine ⟨s1.heap.objs.size+2+2,A3 s1.heap.objs.size 1,_,_,H1,rfl,I2,rg s1.heap.objs.size 1 [(dM d0,a0),(dM d1,a1)] rfl (by decide) (fun j b a e=>match j,e with
       |0,e=>by cases e;exact z0.lt
       |1,e=>by cases e;exact z1.lt),za,fun b hb=>?_,t1 _ H1 μ1 x1 m1 (v7 rv0 rv1)⟩
      have hb:=(dn.mp hb).1
      exact I1.fpOk hb (I1.hok.fresh hb)
 ·exact t1.elim
theorem Ed {fa:Fa}{X:Cx}{elts:List Expr}{kk:Nat}{tp p pos:Pos}{e0 e1 e2:Expr}{g0 g1 g2:Env->Mem->Res D}(h0:DE fa X e0 g0)(h1:DE fa X e1 g1)(h2:DE fa X e2 g2)(hg:Gl X "zip")(hm:X.mg "zip"=none)
 (hs0:starEach [e0,e1,e2] X.env=[(false,eval e0 X.env),(false,eval e1 X.env),(false,eval e2 X.env)]) (hs1:starEach [e1,e2] X.env=[(false,eval e1 X.env),(false,eval e2 X.env)]) (hs2:starEach [e2] X.env=[(false,eval e2 X.env)]):DI fa X (.Tuple elts kk tp) (.Call (.Name "zip" p) [e0,e1,e2] [] pos) (md g0 g1 g2):=by
 intro pins s σ H R I ⟨μ,Z,M,hE,hM,h⟩
 obtain ⟨d0,M0,c0,t0⟩:=aK h
 obtain ⟨d1,M1,c1,t1⟩:=aK t0
 obtain ⟨d2,M2,c2,t2⟩:=aK t1
 split at t2
 ·next hsq=>
  simp only [LN,and_assoc] at hsq
  obtain ⟨hq0,hq1,hq2⟩:=hsq
  refine Call_ (gz I hg hm boot_zip (MQ (aO (cK h0 (cK h1 (cK h2 fD hs2) (by rw [hs1,hs2])) (by rw [hs0,hs1]) pos pins s σ H (fun vs H1=>∃v0 v1 v2 μ1,vs=[v0,v1,v2]/\Ext μ H μ1 H1/\RelM fa X.K μ1 H1 M2/\Rep fa X.K μ1 H1 d0 v0/\Rep fa X.K μ1 H1 d1 v1/\Rep fa X.K μ1 H1 d2 v2) I ?_) fun us s1 ⟨vs,H1,I1,r1,v0,v1,v2,μ1,ev,x1,m1,rv0,rv1,rv2⟩=>?_) (by rw [hs0,hs1]) (by rw [hs1];rfl)))
  ·refine ⟨μ,Z,M,hE,hM,?_⟩
   rw [c0]
   intro v0 H1 μ1 x1 m1 r0
   refine ⟨μ1,Z,M0,(hE.ext x1),m1,?_⟩
   rw [c1]
   intro v1 H2 μ2 x2 m2 r1
   refine ⟨μ2,Z,M1,((hE.ext x1).ext x2),m2,?_⟩
   rw [c2]
   intro v2 H3 μ3 x3 m3 r2
   exact ⟨v0,v1,v2,μ3,rfl,((x1.trans x2).trans x3),m3,((r0.ext x2).ext x3),(r1.ext x3),r2⟩
  subst ev
  obtain ⟨a0,its0,rfl,z0⟩:=i5 I1 m1 rv0 hq0
  obtain ⟨a1,its1,rfl,z1⟩:=i5 I1 m1 rv1 hq1
  obtain ⟨a2,its2,rfl,z2⟩:=i5 I1 m1 rv2 hq2
  cases r1 with
  | cons y0 r1 =>
    cases r1 with
    | cons y1 r1 =>
      cases r1 with
      | cons y2 r1 =>
        cases r1
        obtain rfl:=y0
        obtain rfl:=y1
        obtain rfl:=y2
        refine yv z0 z1 z2 fun h1 za hk=>?_
        have I2:Inv X pins σ H1 {s1 with heap:=h1}:=I1.kept (t':=s1.toks) hk
        refine wpAny_pyIter_zip (s:={s1 with heap:=h1}) za.1 ?_
        refine ⟨s1.heap.objs.size+3+2,A3 s1.heap.objs.size 2,_,_,H1,rfl,I2,rg s1.heap.objs.size 2 [(dM d0,a0),(dM d1,a1),(dM d2,a2)] rfl (by decide) (fun j b a e=>match j,e with
         |0,e=>by cases e;exact z0.lt
         |1,e=>by cases e;exact z1.lt
         |2,e=>by cases e;exact z2.lt),za,fun b hb=>?_,t2 _ H1 μ1 x1 m1 (vZ rv0 rv1 rv2)⟩
        have hb:=(dn.mp hb).1
        exact I1.fpOk hb (I1.hok.fresh hb)
 ·exact t2.elim
end LD
namespace LD
open PySem PySem.Spec PyProof.Rows L2
abbrev GE:=Env->Mem->Res D
abbrev GT:=Env->Mem->Res Bool
abbrev GA:=Env->Mem->Res (List D)
abbrev GW:=Env->Mem->Res Walk
abbrev GS:=Env->Mem->Res Fl
abbrev GB:=Env->List D->Mem->Res (List D)
abbrev Call:=Nat->List D->Mem->Res D
noncomputable def aa (i:Nat):GE:=fun Z M=>bV M (Z[i]?.getD none)
noncomputable def gC (d:D):GE:=fun _ M=>.ok d M
noncomputable def az (m:Bool)(o:kO)(a b:GE):GE:=fun Z M=>(a Z M).bind fun x M=>(b Z M).bind fun y M=>fR m o x y M
noncomputable def aR (o:iC)(a b:GE):GE:=fun Z M=>(a Z M).bind fun x M=>(b Z M).bind fun y M=>(bV M (bu o x y M)).bind fun b M=>.ok (.bl b) M
noncomputable def sG (o o':iC)(a b c:GE):GE:=fun Z M=>(a Z M).bind fun x M=>(b Z M).bind fun y M=>(bV M (bu o x y M)).bind fun k M=>
 if k then (c Z M).bind fun z M=>(bV M (bu o' y z M)).bind fun b M=>.ok (.bl b) M else .ok (.bl false) M
noncomputable def dX (a:GE):GE:=fun Z M=>(a Z M).bind fun x M=>match x with|.int i=>.ok (.int (-i)) M|_=>.bad
noncomputable def dY (a b:GE):GE:=fun Z M=>(a Z M).bind fun x M=>match x with|.bl true=>b Z M|.bl false=>.ok (.bl false) M|_=>.bad
noncomputable def JW (a b:GE):GE:=fun Z M=>(a Z M).bind fun x M=>match x with|.bl true=>.ok (.bl true) M|.bl false=>b Z M|_=>.bad
noncomputable def KW (a:GE):GE:=fun Z M=>(a Z M).bind fun x M=>match x with|.bl k=>.ok (.bl (!k)) M|_=>.bad
noncomputable def jf (t:GT)(a b:GE):GE:=fun Z M=>(t Z M).bind fun k M=>if k then a Z M else b Z M
noncomputable def aH (a b:GE):GE:=fun Z M=>(a Z M).bind fun x M=>(b Z M).bind fun y M=>bV M (bO x y M)
noncomputable def dw (m hl hh:Bool)(a lo hi:GE):GE:=fun Z M=>(a Z M).bind fun x M=>(lo Z M).bind fun l M=>(hi Z M).bind fun h M=>if du hl l&&du hh h then fQ m x l h M else .bad
noncomputable def ai:GA:=fun _ M=>.ok [] M
noncomputable def ae (a:GE)(s:GA):GA:=fun Z M=>(a Z M).bind fun x M=>(s Z M).bind fun xs M=>.ok (x::xs) M
noncomputable def cp (s:GA):GE:=fun Z M=>(s Z M).bind ko
noncomputable def bQ (m:Bool)(s:GA):GE:=fun Z M=>(s Z M).bind (ba m)
noncomputable def av (f:Nat)(c:Call)(s:GA):GE:=fun Z M=>(s Z M).bind fun ds M=>c f ds M
noncomputable def lC (i:Nat)(c:Call)(s:GA):GE:=fun Z M=>match Z[i]?.getD none with|some (.fn f)=>(s Z M).bind fun ds M=>c f ds M|_=>.bad
noncomputable def aV (f:tm)(s:GA):GE:=fun Z M=>(s Z M).bind fun ds M=>dj f ds M
noncomputable def cE (t:Ty)(a:GE):GE:=fun Z M=>(a Z M).bind fun x M=>(bV M (dN t x)).bind fun b M=>.ok (.bl b) M
noncomputable def aE (a:GE):GT:=fun Z M=>(a Z M).bind fun x M=>bV M (jF M x)
noncomputable def eU (a b:GT):GT:=fun Z M=>(a Z M).bind fun k M=>if k then b Z M else .ok false M
noncomputable def ib (a b:GT):GT:=fun Z M=>(a Z M).bind fun k M=>if k then .ok true M else b Z M
noncomputable def bN (a:GT):GT:=fun Z M=>(a Z M).bind fun k M=>.ok (!k) M
noncomputable def aJ (t:cy)(a:GE):GS:=fun Z M=>(a Z M).bind fun x M=>(bV M (bW t x Z)).bind fun ρ1 M=>.ok (.next ρ1) M
noncomputable def ef (a b d:GE):GS:=fun Z M=>(d Z M).bind fun z M=>(a Z M).bind fun x M=>(b Z M).bind fun y M=>match x,y with
 | .cell k, .int n => match M[k]? with
   | some ds => match bL ds.length n with
     |some j=>.ok (.next Z) (M.set k (ds.set j z))
     |none=>.bad
   |none=>.bad
 |_,_=>.bad
noncomputable def fB (a d:GE):GS:=fun Z M=>(a Z M).bind fun x M=>(d Z M).bind fun z M=>match x with
 | .cell k => match M[k]? with
   |some ds=>if ds.length<sz then .ok (.next Z) (M.set k (ds++[z])) else .bad
   |none=>.bad
 |_=>.bad
noncomputable def w5 (a:GE):GS:=fun Z M=>(a Z M).bind fun _ M=>.ok (.next Z) M
noncomputable def aP (a:GE):GS:=fun Z M=>(a Z M).bind fun x M=>.ok (.ret x) M
noncomputable def Bq:GS:=fun _ M=>.ok (.ret .non) M
noncomputable def Br:GS:=fun Z M=>.ok (.next Z) M
noncomputable def Ki:GS:=fun _ _=>.bad
noncomputable def aT (c:GT)(a b:GS):GS:=fun Z M=>(c Z M).bind fun k M=>if k then a Z M else b Z M
noncomputable def fA (t:cy)(w:GW)(b:GS):GS:=fun Z M=>(w Z M).bind fun w M=>dg (gn t b) w (.next Z) M
noncomputable def ak:GS:=fun Z M=>.ok (.next Z) M
noncomputable def ag (a b:GS):GS:=fun Z M=>(a Z M).bind fun fl M=>match fl with
 |.next Z=>b Z M
 |fl=>.ok fl M
noncomputable def notStar:Expr->Bool
 |.Starred _ _=>false
 |_=>true
theorem bh {a:Expr}{es:List Expr}{env:Mw}(h:notStar a=true):starEach (a::es) env=(false,eval a env)::starEach es env:=by
 cases a<;>first|rfl|cases h
theorem cm {pos:Pos}{env:Mw}:∀{es:List Expr},es.all notStar=true->(backTo pos (starEach es env)).any (·.1)=false
 |[],_=>rfl
 | a :: es, h => by
   simp only [MB,LN] at h
   have ih:=cm (pos:=pos) (env:=env) h.2
   rw [bh h.1]
   simpa [backTo] using ih
section
variable {fa:Fa}{X:Cx}{a b d:Expr}{ga gb gd:GE}{ta tb:GT}{pos p:Pos}{es:List Expr}{gs:GA}{n:Nat}
theorem Fo {x:Str}{i:Int}{t:Tok}(hg:Gl X x)(hm:X.mg x=some (.int i t))(hd:(x==("__debug__":Str))=false):DE fa X (.Name x pos) (gC (.int i)):=iX (v:=.int i) (jQ hg hm ⟨t,rfl⟩ hd) fun _ _=>rfl
end
structure Df where
 params:Nat
 slots:Nat
 body:Call->GS
noncomputable def K0:Fl->Mem->Res D
 |.ret d,M=>.ok d M
 |.next _,M=>.ok .non M
 |.exc x _,M=>.err x M
noncomputable def KZ:Res Fl->Res D
 |.ok fl M=>K0 fl M
 |_=>.bad
noncomputable def gp (c:Call)(d:Df)(ds:List D)(M:Mem):Res D:=if ds.length=d.params then KZ (d.body c (ds.map some++List.replicate (d.slots-ds.length) none) M) else .bad
noncomputable def aq (P:Nat->Option Df):Nat->Call
 |0,_,_,_=>.bad
 | n + 1, f, ds, M => match P f with
   |none=>.bad
   |some d=>gp (aq P n) d ds M
structure vW (fa:Fa) (P:Mc) (w:Me) (K:LH) (mg:Str->Option LI) (base:Heap) (f:Nat) (d:Df):Prop where
 ex:∃(ad:Addr) (fd:NV) (ps N:List Str) (st:Stmt) (x qual:Str),fa f=some ad/\oK K x qual st ad fd/\Binds K fd ps []/\gj N ps (aM st)/\d.params=ps.length/\d.slots=N.length/\
  ∀(call:Call) (n:Nat) (cdv:LI) (A:MK) (outer:List Mw) (s:LM) (H:Hp) (E:XK),(∀f,eK fa P w K mg base n f (call f))->bx (2*n+5) (A.deeper (envOfC qual (aM st) s.heap.objs.size ad cdv))->
   mS fa (eB (fH P w) P w K mg base N qual (aM st) ad cdv A outer s H E) (cz st) (d.body call)
theorem wH {fa:Fa}{K:LH}{μ:Mu}{H:Hp}{N:List Str}{ds:List D}{vs:List V}(h:aG fa K μ H ds vs):a8 fa K μ H (L2.start N vs) (ds.map some++List.replicate (N.length-ds.length) none):=by
 have hl:=h.length
 refine ⟨by unfold L2.start;simp [hl],fun i d e=>?_⟩
 by_cases hi:i<ds.length
 ·rw [Ma (by simpa using hi),Mr] at e
  cases e1:ds[i]? with
  |none=>rw [e1] at e;cases e
  | some d' =>
    rw [e1] at e
    cases e
    obtain ⟨v,hv,rv⟩:=h.get e1
    refine ⟨v,?_,rv⟩
    unfold L2.start
    rw [Ma (by simp;omega),Mr,hv]
    rfl
 ·rw [MF (by simp;omega),Nw] at e
  split at e<;>cases e
theorem pj {P:Mc}{w:Me}{K:LH}{mg:Str->Option LI}{base:Heap}{x qual:Str}{st:Stmt}{f:Addr}{fd:NV}{N ps:List Str}{k:Nat}{sp:Sp}(F:oK K x qual st f fd)(S:gj N ps (aM st))(len:∀vs H Q E,sp vs H Q E->vs.length=ps.length)
 (hbody:∀(cdv:LI) (A:MK) (outer:List Mw) (s:LM) (H:Hp) (vs:List V) (Q:VK) (E:XK),bx k (A.deeper (envOfC qual (aM st) s.heap.objs.size f cdv))->sp vs H Q E->
  ∃t,lQ (eB (fH P w) P w K mg base N qual (aM st) f cdv A outer s H E) (cz st) t/\t {nx:=fun _ H'=>Q .non H',rt:=Q} (start N vs) H):fU P w K mg base (fH P w) (k+1) f fd ps sp:=by
 obtain ⟨oc,od,kV,doc,pm,an,cdv,ct,osl,rfl,lk,hcd⟩:=F.ex
 exact IL lk hcd S len fun A outer s H vs Q E hr hsp=>hbody cdv A outer s H vs Q E hr hsp
theorem qu {fa:Fa}{P:Mc}{w:Me}{K:LH}{mg:Str->Option LI}{base:Heap}{N:List Str}{qual:Str}{scope:Scope}{f:Addr}{cd:LI}{A:MK}{outer:List Mw}{s:LM}{H:Hp}{E:XK}{Q:VK}{d:Df}{c:Call}{ds:List D}{vs:List V}{μ:Mu}{M:Mem}
 (hs:d.slots=N.length) (hM:RelM fa K μ H M) (hr:aG fa K μ H ds vs) (hq:kK (gp c d ds M) (a7 fa K μ H Q) (vP fa K μ H E)):tF fa (eB (fH P w) P w K mg base N qual scope f cd A outer s H E) (d.body c) {nx:=fun _ H'=>Q .non H',rt:=Q} (start N vs) H:=by
 unfold gp at hq
 split at hq
 ·refine ⟨μ,_,M,wH hr,hM,?_⟩
  rw [<- hs]
  cases e1:d.body c (ds.map some++List.replicate (d.slots-ds.length) none) M with
  | ok fl M1 =>
    rw [e1] at hq
    cases fl with
    | next ρ' =>
      have q1:a7 fa K μ H Q .non M1:=hq
      exact fun σ' H' μ' x' e' m'=>q1 .non H' μ' x' m' rfl
    |ret d=>exact hq
    | exc x ρ' =>
      have q1:vP fa K μ H E x M1:=hq
      exact fun pins σ' H' μ' s' a C dx c p I y _ m ex hc hn fl=>Aj I fl (q1 C dx c p H' μ' y m ex hc hn)
  |err=>rw [e1] at hq;exact hq.elim
  |bad=>rw [e1] at hq;exact hq.elim
 ·exact hq.elim
theorem sU {fa:Fa}{P:Mc}{w:Me}{K:LH}{mg:Str->Option LI}{base:Heap}{Pg:Nat->Option Df}(h:∀f d,Pg f=some d->vW fa P w K mg base f d):∀(n f:Nat),eK fa P w K mg base n f (aq Pg n f)
 |0,f=>.inl fun _ _=>rfl
 | n + 1, f => by
   have ih:=sU h n
   cases e:Pg f with
   |none=>exact .inl fun ds M=>by show (match Pg f with|none=>Res.bad|some d=>gp (aq Pg n) d ds M)=Res.bad;rw [e]
   | some d =>
     have eq:∀ds M,aq Pg (n+1) f ds M=gp (aq Pg n) d ds M:=fun ds M=>by show (match Pg f with|none=>Res.bad|some d=>gp (aq Pg n) d ds M)=_;rw [e]
     obtain ⟨ad,fd,ps,N,st,x,qual,h1,F,hb,S,hp,hs,hbody⟩:=(h f d e).ex
     refine .inr ⟨ad,fd,ps,h1,F.kp,hb,fun ds M hl=>?_,?_⟩
     ·rw [eq];unfold gp;rw [if_neg (by rw [hp];exact hl)]
     ·refine pj (k:=2*n+5) F S (fun vs H Q E hsp=>hsp.1) fun cdv A outer s H vs Q E hr hsp=>⟨_,hbody (aq Pg n) n cdv A outer s H E ih hr,?_⟩
      obtain ⟨hl,μ,M,ds,hM,hr,hq⟩:=hsp
      rw [eq] at hq
      exact qu hs hM hr hq
end LD
namespace LD
open PySem PySem.Spec PyProof.Rows L2
noncomputable def nJ (P:Nb)(e:NM)(kv:Str×Addr):Prop:=∃t,e=⟨PyData.keyHash P kv.1,.str kv.1 t,.ref kv.2⟩
structure fy (K:LH) (P:Nb) (a:Addr) (kvs:List (Str×Addr)):Prop where
 ex:∃(es:Array NM) (n:Nat),K.lookup a=some {cls:=.type "dict",data:=.dict es n}/\NT (nJ P) es.toList kvs
 nd:(kvs.map (·.1)).Nodup
 ns:(a==sysModules)=false
noncomputable def uq (kvs:List (Str×Addr)):List (Key×LI):=kvs.map fun kv=>(Sum.inr kv.1,.ref kv.2)
theorem sL {P:Nb}:∀{es:List NM}{kvs:List (Str×Addr)},NT (nJ P) es kvs->∀e∈es,∃x t,e.key=.str x t/\e.hash=PyData.keyHash P x
 |_,_,.nil,e,h=>nomatch h
 | _, _, .cons r t, e, h => by
   rcases My.mp h with z|z
   ·subst z;obtain ⟨t,rfl⟩:=r;exact ⟨_,t,rfl,rfl⟩
   ·exact sL t e z
theorem oz {prog:Mc}{w:Me}:∀{es:List NM}{kvs:List (Str×Addr)},NT (nJ w.params) es kvs->Pairs (jV prog w) es (uq kvs)
 |_,_,.nil=>.nil
 | e :: es, kv :: kvs, .cons r t => by
   obtain ⟨u,rfl⟩:=r
   exact Pairs.cons (kv:=((Sum.inr kv.1:Key),Value.ref kv.2)) (jt kv.1 u) rfl (oz t)
theorem sv {X:Cx}{pins:List (Addr×Obj)}{σ:L2.St}{H:Hp}{s:LM}{a:Addr}{kvs:List (Str×Addr)}(I:Inv X pins σ H s)(h:fy X.K X.w.params a kvs):s.heap.DictOf (jV X.prog X.w) a (uq kvs):=by
 obtain ⟨es,n,lk,pr⟩:=h.ex
 refine ⟨_,es,n,I.kIn _ _ lk,⟨rfl,rfl,rfl⟩,rfl,fun e he=>?_,oz pr,?_⟩
 ·obtain ⟨x,t,e1,e2⟩:=sL pr e (by simpa using he)
  exact ⟨Sum.inr x,by rw [e1];exact jt x t,e2⟩
 ·have e:(uq kvs).map (·.1)=(kvs.map (·.1)).map Sum.inr:=by unfold uq;simp
  rw [e]
  exact List.Pairwise.map _ (fun a b (n:a≠b) z=>n (Sum.inr.inj z)) h.nd
theorem xK (kvs:List (Str×Addr))(k:Str):valueAt (uq kvs) (Sum.inr k:Key)=(kvs.lookup k).map Value.ref:=by
 induction kvs with
 |nil=>rfl
 | cons kv r ih =>
   unfold valueAt uq at ih ⊢
   rw [MO,List.find?_cons,Mm]
   by_cases e:kv.1=k
   ·subst e;simp
   ·have e2:decide ((Sum.inr kv.1:Key)=Sum.inr k)=false:=decide_eq_false fun z=>e (Sum.inr.inj z)
    have e3:(k==kv.1)=false:=Mx.mpr (MR e)
    rw [e2,e3]
    exact ih
noncomputable def dS (fa:Fa)(kvs:List (Str×Addr))(fs:List (Str×Nat)):Prop:=NT (fun (p:Str×Addr) (q:Str×Nat)=>p.1=q.1/\fa q.2=some p.2) kvs fs
theorem dS.look {fa:Fa}{k:Str}:∀{kvs:List (Str×Addr)}{fs:List (Str×Nat)},dS fa kvs fs->(fs.lookup k=none/\kvs.lookup k=none)\/∃f ad,fs.lookup k=some f/\kvs.lookup k=some ad/\fa f=some ad
 |_,_,.nil=>.inl ⟨rfl,rfl⟩
 | (x, a) :: r, (y, f) :: t, .cons ⟨e1, e2⟩ q => by
   have e1:x=y:=e1
   subst e1
   rw [Mm,Mm]
   cases e:k==x with
   |true=>exact .inr ⟨f,a,rfl,rfl,e2⟩
   |false=>exact dS.look q
noncomputable def kA (fs:List (Str×Nat))(i:GE):GE:=fun Z M=>(i Z M).bind fun d M=>match d with
 |.str k=>bV M ((fs.lookup k).map D.fn)
 |_=>.bad
noncomputable def iK (fs:List (Str×Nat))(i:GE):GE:=fun Z M=>(i Z M).bind fun d M=>match d with
 |.str k=>.ok (.bl (!(fs.lookup k).isSome)) M
 |_=>.bad
section
variable {fa:Fa}{X:Cx}{a b:Expr}{ga gb:GE}{pos p:Pos}{ad:Addr}{kvs:List (Str×Addr)}{fs:List (Str×Nat)}{x:Str}
theorem As (hd:fy X.K X.w.params ad kvs):j3 X (fun x y H Q=>∃k v,x=.ref ad/\y=.str k/\kvs.lookup k=some v/\Q (.ref v) H):=by
 intro value slice pins s σ H x y v u Q I rx ry h hs
 obtain ⟨k,c,rfl,rfl,hk,q⟩:=h
 cases rx
 obtain ⟨t,rfl⟩:=ry
 have dd:=sv I hd
 have hT:s.TypeIs (.ref ad) "dict":=let ⟨o,_,_,ho,⟨hc,_⟩,_⟩:=dd;⟨o,ho,hc⟩
 refine tail_any hT PySem.F.slot_dict_getitem.lookup (wpAny_getItem_of (k:=(Sum.inr k:Key)) (jt k t) dd.mapOf (v:=.ref c) ?_ ?_) hs
 ·rw [xK,hk];rfl
 ·exact ⟨.ref c,H,I.tok _,rfl,q⟩
theorem r9 (hd:fy X.K X.w.params ad kvs):bz X (compareOp .NotIn) (fun x y H Q=>∃k,x=.str k/\y=.ref ad/\Q (.bl (!(kvs.lookup k).isSome)) H):=by
 intro pins s σ H x y v u Q I rx ry h
 obtain ⟨k,rfl,rfl,q⟩:=h
 obtain ⟨t,rfl⟩:=rx
 cases ry
 have dd:=sv I hd
 refine wpAny_notIn_of (k:=(Sum.inr k:Key)) (jt k t) hd.ns dd.mapOf ?_
 rw [xK,Option.isSome_map]
 exact ⟨.bl _,H,I.tok _,rfl,q⟩
theorem Fq (hd:fy X.K X.w.params ad kvs)(ho:dS fa kvs fs)(hg:Gl X x)(hm:X.mg x=some (.ref ad))(hdb:(x==("__debug__":Str))=false)(hb:DE fa X b gb)(hs:j0 b):DE fa X (.Subscript (.Name x p) b pos) (kA fs gb):=
 bq (Bv (As hd) (jQ (v:=.ref ad) hg hm rfl hdb) hb hs) fun σ H Q ⟨μ,Z,M,hE,hM,h⟩=>t1 hE hM h fun d M1 v H1 μ1 x1 hE1 hM1 r1 h1=>by
  cases d with
  | str k =>
    obtain ⟨d,e,q⟩:=jR h1
    rcases ho.look (k:=k) with ⟨e1,_⟩|⟨f,c,e1,e2,e3⟩
    ·rw [e1] at e;cases e
    ·rw [e1] at e
     cases e
     exact ⟨k,c,rfl,r1,e2,q (.ref c) H1 μ1 x1 hM1 ⟨c,rfl,.inl e3⟩⟩
  |_=>exact h1.elim
theorem zX {d:D}{M1:Mem}{P:D->Mem->Prop}(h:ah (match d with|.str k=>Res.ok (.bl (!(fs.lookup k).isSome)) M1|_=>.bad) P):∃k,d=.str k/\P (.bl (!(fs.lookup k).isSome)) M1:=by
 cases d with
 |str k=>exact ⟨k,rfl,h⟩
 |_=>exact h.elim
theorem AK (ho:dS fa kvs fs)(k:Str):(kvs.lookup k).isSome=(fs.lookup k).isSome:=by
 rcases ho.look (k:=k) with ⟨e1,e2⟩|⟨f,c,e1,e2,_⟩<;>rw [e1,e2]<;>rfl
theorem xZ (ho:dS fa kvs fs)(σ:L2.St)(H:Hp)(Q:VK)(h:tE fa X.K (iK fs ga) σ H Q):wD (fun x y H Q=>∃k,x=.str k/\y=.ref ad/\Q (.bl (!(kvs.lookup k).isSome)) H) (tE fa X.K ga) (tC (.ref ad)) σ H Q:=by
 obtain ⟨μ,Z,M,hE,hM,h⟩:=h
 refine t1 hE hM h fun d M1 v H1 μ1 x1 hE1 hM1 r1 h1=>?_
 obtain ⟨k,rfl,q⟩:=zX h1
 refine ⟨k,r1,rfl,?_⟩
 rw [AK ho]
 exact q (.bl _) H1 μ1 x1 hM1 rfl
theorem Fp (hd:fy X.K X.w.params ad kvs)(ho:dS fa kvs fs)(hg:Gl X x)(hm:X.mg x=some (.ref ad))(hdb:(x==("__debug__":Str))=false)(ha:DE fa X a ga)(hmk:behindInMarks .NotIn (.Name x p)=false):DE fa X (.Compare a [.NotIn] [.Name x p] pos) (iK fs ga):=
 bq (ub (r9 hd) ha (jQ (v:=.ref ad) hg hm rfl hdb) hmk) fun σ H Q h=>xZ ho σ H Q h
theorem FA (hd:fy X.K X.w.params ad kvs)(ho:dS fa kvs fs)(hg:Gl X x)(hm:X.mg x=some (.ref ad))(hdb:(x==("__debug__":Str))=false)(ha:DE fa X a ga)(hmk:behindInMarks .NotIn (.Name x p)=false):DT fa X (.Compare a [.NotIn] [.Name x p] pos) (aE (iK fs ga)):=
 jO (oU (r9 hd) ha (jQ (v:=.ref ad) hg hm rfl hdb) hmk) fun σ H Q h=>by
  refine xZ ho σ H _ ?_
  obtain ⟨μ,Z,M,hE,hM,h⟩:=h
  obtain ⟨z,M3,e,q⟩:=aK h
  refine ⟨μ,Z,M,hE,hM,?_⟩
  rw [e]
  have hz:∃k,z=.bl k:=by
   obtain ⟨d,M1,e1,e2⟩:=eC e
   cases d<;>first|(cases e2;exact ⟨_,rfl⟩)|cases e2
  obtain ⟨k,rfl⟩:=hz
  intro v H' μ' x' m' r'
  obtain rfl:v=.bl k:=r'
  exact ⟨k,rfl,q H' μ' x' m'⟩
noncomputable def lB (m:Bool)(a:GE):GE:=fun Z M=>(a Z M).bind fun x M=>match x with
 |.int n=>if -(2^62)<=n/\n<2^20 then ba m ((List.range n.toNat).map fun (k:Nat)=>D.int (k:Int)) M else .bad
 |_=>.bad
theorem vk:∀(n:Nat) (its:List LI),its.length=n->(∀(i:Nat) (v:LI),its[i]?=some v->∃t,v=.int (i:Int) t)->Vals ((List.range n).map fun (k:Nat)=>V.int (k:Int)) its:=by
 intro n its hl h
 have key:∀(k:Nat) (its:List LI),(∀(i:Nat) (v:LI),its[i]?=some v->∃t,v=.int ((k+i:Nat):Int) t)->Vals ((List.range its.length).map fun (j:Nat)=>V.int ((k+j:Nat):Int)) its:=by
  intro k its
  induction its generalizing k with
  |nil=>intro _;exact .nil
  | cons v r ih =>
    intro h
    rw [MC,List.range_succ_eq_map,MO,List.map_map]
    refine .cons (h 0 v rfl) ?_
    have:=ih (k+1) fun i u e=>by
     have:=h (i+1) u (by simpa using e)
     rw [show k+1+i=k+(i+1) by omega];exact this
    refine cast (congrArg (fun f=>Vals ((List.range r.length).map f) r) ?_) this
    funext j
    show V.int _=V.int _
    congr 2
    omega
 have:=key 0 its fun i v e=>by rw [Nat.zero_add];exact h i v e
 rw [hl] at this
 simpa using this
theorem C9 (m:Bool){p1 p2 pos2:Pos}(hc:X.calm=true)(ha:DE fa X a ga)(hgl:Gl X "list")(hml:X.mg "list"=none)(hg:Gl X "range")(hm:X.mg "range"=none)(hs:starEach [a] X.env=[(false,eval a X.env)])
 (hs2:starEach [.Call (.Name "range" p2) [a] [] pos2] X.env=[(false,eval (.Call (.Name "range" p2) [a] [] pos2) X.env)]) :
 DE fa X (.Call (.Name "list" p1) [.Call (.Name "range" p2) [a] [] pos2] [] pos) (lB m ga):=by
 intro pins s σ H Q I ⟨μ,Z,M,hE,hM,h⟩
 obtain ⟨x,M1,e,q⟩:=aK h
 have key:∀n,x=.int n->ah (if -(2^62)<=n/\n<2^20 then ba m ((List.range n.toNat).map fun (k:Nat)=>D.int (k:Int)) M1 else .bad) (a7 fa X.K μ H Q)->
  wpAny (model X.prog X.w) X.A (eval (.Call (.Name "list" p1) [.Call (.Name "range" p2) [a] [] pos2] [] pos) X.env) (EP X pins σ Q) X.xe s:=fun n en q'=>by
  subst en
  by_cases c:-(2^62)<=n/\n<2^20
  ·rw [if_pos c] at q'
   refine Call_ (gz I hgl hml (by decide +kernel:bootBuiltins "list"=some (.type "list")) (MQ ?_ hs2 rfl))
   rw [hs2]
   refine Calls.spliced_cons ?_
   refine Call_ (gz I hg hm boot_range (MQ (aO (cK ha fD hs pos2 pins s σ H (fun vs H1=>∃μ1,vs=[.int n]/\Ext μ H μ1 H1/\RelM fa X.K μ1 H1 M1) I ⟨μ,Z,M,hE,hM,?_⟩) fun us s1 ⟨vs,H1,I1,r1,μ1,ev,x1,m1⟩=>?_) hs rfl))
   ·rw [e]
    intro v H1 μ1 x1 m1 r1
    obtain rfl:v=.int n:=r1
    exact ⟨μ1,rfl,x1,m1⟩
   subst ev
   cases r1 with
   | cons r rr =>
     cases rr
     obtain ⟨t,rfl⟩:=r
     refine call_range_1 ?_
     refine Calls.spliced_nil ?_
     refine call_list_range (n:=n.toNat) (I.ok.hd hc) (IsRange.new ..) (small_one (by omega) (by omega) (by omega) (by omega)) (by rw [rangeSize_one];split<;>omega) (by omega) fun h' tk acc' c' kp eS its=>?_
     obtain ⟨hsz,hit⟩:=its
     have I2:Inv X pins σ H1 {s1 with heap:=s1.heap.push {cls:=.type "range",data:=.fields #[.int 0 s1.toks,.int n t,.int 1 (s1.toks+1)]},toks:=s1.toks+1+1}:=I1.kept fun b o e=>LK _ e
     have hv:Vals ((List.range n.toNat).map fun (k:Nat)=>V.int (k:Int)) acc'.toList:=vk n.toNat acc'.toList (by simpa using hsz) fun i v e=>by
      obtain ⟨u,z⟩:=hit i v (by simpa using e)
      exact ⟨u,by rw [z];simp⟩
     have rl:aG fa X.K μ1 H1 ((List.range n.toNat).map fun (k:Nat)=>D.int (k:Int)) ((List.range n.toNat).map fun (k:Nat)=>V.int (k:Int)):=by
      have:=aG.ints (fa:=fa) (K:=X.K) (μ:=μ1) (H:=H1) ((List.range n.toNat).map fun (k:Nat)=>(k:Int))
      simpa [List.map_map,Ng] using this
     obtain ⟨c1,k1⟩:=fO m1 rl (jr q' x1)
     refine ⟨.ref _,_,I2.laid (t':=tk) (o:=.lst ((List.range n.toNat).map fun (k:Nat)=>V.int (k:Int))) kp (LP _) ⟨?_,acc'.toList,c',hv,by simpa using eS⟩,rfl,k1 _ (I2.hok.fresh (LP _))⟩
     rw [rl.length,<- cX];exact c1
  ·rw [if_neg c] at q';exact q'.elim
 cases x with
 |int n=>exact key n rfl q
 |_=>exact q.elim
end
end LD
namespace LD
open PySem PySem.Spec PyProof.Rows L2
noncomputable def pz (bn N:List Str)(sc scope:Scope):Bool:=
 scope.names.all (fun y=>y.2 != .cell&&(y.2 != .local||scope.names.lookup y.1==some .local)&&(y.2 != .free||sc.names.lookup y.1==some .cell||sc.names.lookup y.1==some .free)) &&
 bn.length==N.length&&(bn.zip N).all fun p=>(p.1==p.2&&scope.names.lookup p.2 != some .local)||scope.names.lookup p.1==none
theorem nX {α β:Type}{R:α->β->Prop}:∀{l:List α}{r:List β},l.length=r.length->(∀p∈l.zip r,R p.1 p.2)->NT R l r
 |[],[],_,_=>.nil
 |a::l,b::r,h,g=>.cons (g (a,b) Ml) (nX (by simpa using h) fun p hp=>g p (LY _ hp))
 |[],_::_,h,_=>by cases h
 |_::_,[],h,_=>by cases h
theorem yr {X:Cx}{own bn N:List Str}{sc scope:Scope}(hk:scope.kind=.function)(hs:X.env.scope=sc)(hN:X.N=N)(h:pz bn N sc scope=true):ik X own bn scope:=by
 unfold pz at h
 rw [LN,LN,L9,L9] at h
 obtain ⟨⟨h1,hl⟩,h2⟩:=h
 refine ⟨hk,fun y hy=>?_,fun y hy e=>?_,fun y hy e=>?_,?_⟩
 ·have:=h1 y hy
  simp only [LN] at this
  simpa using this.1.1
 ·have:=h1 y hy
  simp only [LN] at this
  have:=this.1.2
  rw [e] at this
  simpa using this
 ·have:=h1 y hy
  simp only [LN] at this
  have:=this.2
  rw [e] at this
  show X.env.scope.names.lookup y.1=_\/X.env.scope.names.lookup y.1=_
  rw [hs]
  simpa using this
 ·rw [hN]
  refine nX (by simpa using hl) fun p hp=>?_
  have:=h2 p hp
  simp only [NX,LN,beq_iff_eq,bne_iff_ne] at this
  exact this
section
variable {fa:Fa}{X:Cx}{elt tg iter c t2 i2:Expr}{scope:Scope}{pos:Pos}{own bn:List Str}{t u:cy}{gw gw2:GW}{ge:GE}{gc:GT}
theorem mW {n:Nat}{l:List Nat}(h:l.all (· < n)=true):∀i∈l,i<n:=fun i hi=>by
 have:=L9.mp h i hi
 simpa using this
theorem wV {l W:List Nat}(h:W.all (fun i=>!l.contains i)=true):∀i∈W,i∉l:=fun i hi z=>by
 have:=L9.mp h i hi
 simp [z] at this
variable {i:Nat}{y:Str}{py spos:Pos}
theorem Dc {x:Str}{i:Int}(hg:Gl X x)(hm:∃t,X.mg x=some (.int i t))(hd:(x==("__debug__":Str))=false):DE fa X (.Name x pos) (gC (.int i)):=let ⟨_,h⟩:=hm;Fo hg h hd
theorem De {x:Str}{b:Expr}{gb:GE}{p:Pos}{fs:List (Str×Nat)}(h:∃ad kvs,X.mg x=some (.ref ad)/\fy X.K X.w.params ad kvs/\dS fa kvs fs)(hg:Gl X x)(hdb:(x==("__debug__":Str))=false)(hb:DE fa X b gb)(hs:j0 b):DE fa X (.Subscript (.Name x p) b pos) (kA fs gb):=
 let ⟨_,_,h1,h2,h3⟩:=h;Fq h2 h3 hg h1 hdb hb hs
theorem Dd {x:Str}{a:Expr}{ga:GE}{p:Pos}{fs:List (Str×Nat)}(h:∃ad kvs,X.mg x=some (.ref ad)/\fy X.K X.w.params ad kvs/\dS fa kvs fs)(hg:Gl X x)(hdb:(x==("__debug__":Str))=false)(ha:DE fa X a ga)(hmk:behindInMarks .NotIn (.Name x p)=false):DE fa X (.Compare a [.NotIn] [.Name x p] pos) (iK fs ga):=
 let ⟨_,_,h1,h2,h3⟩:=h;Fp h2 h3 hg h1 hdb ha hmk
theorem Di {x:Str}{a:Expr}{ga:GE}{p:Pos}{fs:List (Str×Nat)}(h:∃ad kvs,X.mg x=some (.ref ad)/\fy X.K X.w.params ad kvs/\dS fa kvs fs)(hg:Gl X x)(hdb:(x==("__debug__":Str))=false)(ha:DE fa X a ga)(hmk:behindInMarks .NotIn (.Name x p)=false):DT fa X (.Compare a [.NotIn] [.Name x p] pos) (aE (iK fs ga)):=
 let ⟨_,_,h1,h2,h3⟩:=h;FA h2 h3 hg h1 hdb ha hmk
theorem C8 {X:Cx}{n:Nat}(h:bx (n+4) X.A):Rm X:=by have:=h.un;show X.A.units+100<cLine;omega
end
end LD
namespace LD
open PySem PySem.Spec PyProof.Rows L2
theorem iL {α β:Type}{f g:α->Option β}:∀{l:List α},(∀x∈l,f x=g x)->l.filterMap f=l.filterMap g
 |[],_=>rfl
 | a :: l, h => by
   rw [NS,NS,h a Ml,iL (l:=l) fun x hx=>h x (LY _ hx)]
theorem qe (n:Nat)(xs:List LI)(h:xs.length=n):(List.range n).filterMap (fun (k:Nat)=>xs[n-1-k]?)=xs.reverse:=by
 have e:∀k∈List.range n,xs[n-1-k]?=some (xs.reverse.getD k .none):=fun k hk=>by
  have hk:=List.mem_range.mp hk
  rw [MT,List.getElem?_reverse (by omega),h,Mb (by omega)]
  simp
 have:(List.range n).filterMap (fun (k:Nat)=>xs[n-1-k]?)=(List.range n).map fun k=>xs.reverse.getD k .none:=by
  rw [iL (g:=fun k=>some (xs.reverse.getD k .none)) e]
  simp
 rw [this]
 refine List.ext_getElem? fun i=>?_
 rw [Mr]
 by_cases hi:i<n
 ·rw [List.getElem?_range hi]
  show some (xs.reverse.getD i .none)=_
  rw [MT,Mb (show i<xs.reverse.length by simp;omega)]
  simp
 ·rw [Nq (by simp;omega),Nq (by simp;omega)]
  rfl
theorem qE (its:List LI):slicePick its.toArray none none (some (-1))=its.reverse.toArray:=by
 unfold slicePick sliceBounds sliceRange
 simp only [NO,LQ]
 have e1:¬ ((-1:Int) > 0):=by decide
 simp only [e1,if_false]
 have e2:(if (its.length:Int)-1 > -1 then ((its.length:Int)-1 - -1 - -1-1) / (- -1) else 0).toNat=its.length:=by
  split
  ·simp
  ·omega
 rw [e2,List.filterMap_map,<- qe its.length its rfl]
 congr 1
 refine iL fun k hk=>?_
 have hk:=List.mem_range.mp hk
 have e3:((its.length:Int)-1+-1*(k:Int)).toNat=its.length-1-k:=by omega
 show its.toArray[((its.length:Int)-1+-1*(k:Int)).toNat]?=_
 rw [e3]
 simp
section
variable {prog:Mc}{w:Me}{A:MK}{E:LI->LM->Prop}{s:LM}
theorem mF {t sl:Addr}{items:Array LI}{k:Tok}{Q:LI->LM->Prop}(ht:IsTup s.heap t items)(hs:s.heap.IsSliceOf sl .none .none (.int (-1) k))
 (h:Q (.ref s.heap.objs.size) {s with heap:=s.heap.push {cls:=.type "tuple",data:=.seq items.toList.reverse.toArray}})
 (hsz:items.size<=sizeLine):wpAny (model prog w) A (getItem (.ref t) (.ref sl)) Q E s:=by
 have htake:sizeOk (.seq items.toList.reverse.toArray):=by
  show items.toList.reverse.toArray.size<=sizeLine
  simpa using hsz
 obtain ⟨os,hos,hcs,hds⟩:=id hs
 have hTs:s.TypeIs (.ref sl) "slice":=⟨os,hos,hcs⟩
 unfold getItem
 try with_reducible refine tqo ?_
 first|refine tqa (tqb ?_)|skip
 refine tqa (wpAny_sequenceKey ht.typeIs (by decide) ?_)
 refine tqa (wpAny_callSpecial?_slot (name:=Str.ofString "__getitem__") ht.typeIs Mv
  (wpAny_call_entry Mv ht.typeIs entry_tuple_getitem ?_ (args_tuple_getitem _ _)))
 show wpAny _ _ (Builtin.Tuple.tupleItemsOf (.ref t) >>= _) _ _ s
 refine tqa (tupleItemsOf_ ht ?_)
 refine tqa (wpAny_typeOf hTs ?_)
 rw [if_pos (by decide)]
 unfold Builtin.Slice.sliceApplied Builtin.Slice.sliceFields
 refine tqa (tqa (tqa (tqf hos hds (x:=.none) rfl (tqa (tqf hos hds (x:=.none) rfl (tqa (tqf hos hds (x:=.int (-1) k) rfl (tqb ?_))))))))
 refine tqa (slicePart_int ?_)
 show wpAny _ _ (if ((-1:Int)==0)=true then _ else _) _ _ s
 rw [if_neg (by decide)]
 refine tqa (slicePart_none (tqa (slicePart_none (tqa (tqb ?_)))))
 have ea:Builtin.Slice.sliceAdjust none none (-1) (items.size:Int)=((items.size:Int)-1,-1):=by simp [Builtin.Slice.sliceAdjust]
 have ep:Builtin.Slice.slicePlaces ((items.size:Int)-1) (-1) (-1)=items.size:=by
  unfold Builtin.Slice.slicePlaces
  rw [if_neg (by decide)]
  split
  ·simp
  ·omega
 show wpAny _ _ (match Builtin.Slice.sliceAdjust none none (-1) (items.size:Int) with|(lo,hi)=>pure (lo,(-1:Int),Builtin.Slice.slicePlaces lo hi (-1))) _ _ s
 rw [ea]
 show wpAny _ _ (pure ((items.size:Int)-1,(-1:Int),Builtin.Slice.slicePlaces ((items.size:Int)-1) (-1) (-1))) _ _ s
 rw [ep]
 refine tqb ?_
 have hno:¬ ((((items.size:Int)-1)==0&&(-1:Int)==1&&items.size==items.size)=true):=by simp
 show wpAny _ _ (if (((items.size:Int)-1)==0&&(-1:Int)==1&&items.size==items.size)=true then _ else _) _ _ s
 rw [if_neg hno]
 have pick:((List.range items.size).filterMap fun (m:Nat)=>items[(((items.size:Int)-1)+(m:Int) * -1).toNat]?).toArray=items.toList.reverse.toArray:=by
  rw [<- qe items.size items.toList (by simp)]
  congr 1
  refine iL fun m hm=>?_
  have hm:=List.mem_range.mp hm
  have e3:((items.size:Int)-1+(m:Int) * -1).toNat=items.size-1-m:=by omega
  rw [e3]
  simp
 rw [pick]
 first
  |exact tqa (m:=Builtin.Tuple.tupleExact _) (wpAny_newObj_type (tqb ⟨_,rfl,tqb h⟩) htake)
  |exact tqa (m:=Builtin.Tuple.tupleExact _) (wpAny_newObj_type (tqa (tqb (tqb ⟨_,rfl,tqb h⟩))) htake)
  |exact tqa (tqa (m:=Builtin.Tuple.tupleExact _) (wpAny_newObj_type (tqb (tqb ⟨_,rfl,tqb h⟩)) htake))
  |exact tqa (tqa (m:=Builtin.Tuple.tupleExact _) (wpAny_newObj_type (tqb ⟨_,rfl,tqb h⟩) htake))
end
section
variable {fa:Fa}{X:Cx}{a st:Expr}{ga:GE}{pos p2:Pos}
noncomputable def zF (m:Bool)(x:D)(M:Mem):Res D:=match x with
 |.tup xs=>.ok (.tup xs.reverse) M
 | x => match eG M x with
   |some xs=>ba m xs.reverse M
   |none=>.bad
noncomputable def GU (m:Bool)(a:GE):GE:=fun Z M=>(a Z M).bind fun x M=>zF m x M
noncomputable def Fu (K:LH):V->Hp->VK->Prop:=fun x H Q=>∃a xs,x=.ref a/\((b9 K H a xs/\∀p,H p=none->Q (.ref p) (upd H p (.lst xs.reverse)))\/(c9 K H a xs/\∀p,H p=none->Q (.ref p) (upd H p (.tup xs.reverse))))
theorem mU:∀{xs:List V}{us:List LI},Vals xs us->Vals xs.reverse us.reverse
 |_,_,.nil=>.nil
 | _, _, .cons p r => by
   rw [NF,NF]
   exact (mU r).append (.cons p .nil)
theorem FP {ta:TE}(ha:PE X a ta){ts:TE}(hst:PE X st ts) :
 PE X (.Subscript a (.Slice none none (some st) p2) pos) (fun σ H Q=>ta σ H fun x H1=>ts σ H1 fun y H2=>y=.int (-1)/\Fu X.K x H2 Q):=by
 intro pins s σ H Q I h
 refine Subscript_ (aO (ha pins s σ H _ I h) fun v s1 ⟨x,H1,I1,r1,q1⟩=>?_)
 refine wpAny_Slice ?_
 rw [evalPart_none]
 refine tqb ?_
 refine tqb ?_
 rw [evalPart_some]
 refine aO (hst pins s1 σ H1 _ I1 q1) fun vu s3 ⟨y,H3,I3,r3,ey,q3⟩=>?_
 subst ey
 obtain ⟨k,rfl⟩:=r3
 have I4:Inv X pins σ H3 {s3 with heap:=s3.heap.push {cls:=.type "slice",data:=.fields #[.none,.none,.int (-1) k]}}:=I3.kept (t':=s3.toks) fun b ob q=>LK _ q
 have hsl:(s3.heap.push {cls:=.type "slice",data:=.fields #[.none,.none,.int (-1) k]}).IsSliceOf s3.heap.objs.size .none .none (.int (-1) k):=Heap.IsSliceOf.new ..
 obtain ⟨b,xs,rfl,q⟩:=q3
 cases r1
 have key:∃T id,typeLookup (.type T) "__getitem__"=pure (some (.builtin id))/\Shared.TypeIs {s3 with heap:=s3.heap.push {cls:=.type "slice",data:=.fields #[.none,.none,.int (-1) k]}} (.ref b) T/\wpAny (model X.prog X.w) X.A (getItem (.ref b) (.ref s3.heap.objs.size)) (EP X pins σ Q) X.xe {s3 with heap:=s3.heap.push {cls:=.type "slice",data:=.fields #[.none,.none,.int (-1) k]}}:=by
  rcases q with ⟨hx,q⟩|⟨hx,q⟩
  ·obtain ⟨its,r,ht,hz⟩:=I4.list hx
   have hlen:=r.length
   refine ⟨"list",_,slot_list_getitem.lookup,ht.isList.typeIs,?_⟩
   refine wpAny_getItem_list_slice ht.isList hsl .none .none (.int (-1) k) (by decide) ?_ (by rw [LQ]<;>omega)
   rw [qE]
   refine ⟨.ref _,_,I4.laid (t':=s3.toks) (o:=.lst xs.reverse) (fun b ob q=>LK _ q) (LP _) ?_,rfl,q _ (I4.hok.fresh (LP _))⟩
   exact ⟨by simpa using hz,_,0,mU r,L6 _ rfl⟩
  ·obtain ⟨its,r,ht,hz⟩:=I4.tuple hx
   have hlen:=r.length
   refine ⟨"tuple",_,Mv.lookup,ht.typeIs,?_⟩
   refine mF ht hsl ?_ (by rw [LQ,<- hlen];exact hz)
   refine ⟨.ref _,_,I4.laid (t':=s3.toks) (o:=.tup xs.reverse) (fun b ob q=>LK _ q) (LP _) ?_,rfl,q _ (I4.hok.fresh (LP _))⟩
   exact ⟨by simpa using hz,_,mU r,IsTup.new _ _⟩
 obtain ⟨T,id,hT,ht,hg⟩:=key
 show wpAny (model X.prog X.w) X.A (subscriptTail a (.Slice none none (some st) p2) (.ref b) (.ref s3.heap.objs.size)) (EP X pins σ Q) X.xe {s3 with heap:=s3.heap.push {cls:=.type "slice",data:=.fields #[.none,.none,.int (-1) k]}}
 exact tail_any (ops:=[.ref b,.ref s3.heap.objs.size]) ht hT hg (by with_unfolding_all rfl)
theorem Ie (m:Bool){pc pu:Pos}{k:Nat}(ha:DE fa X a ga):DE fa X (.Subscript a (.Slice none none (some (.UnaryOp .USub (.Constant (.int 1) k pc) pu)) p2) pos) (GU m ga):=
 bq (FP ha (Bu wb xl)) fun σ H Q ⟨μ,Z,M,hE,hM,h⟩=>t1 hE hM h fun x M1 v H1 μ1 x1 hE1 hM1 r1 h1=>by
  refine ⟨1,rfl,rfl,?_⟩
  have lst:∀(ds:List D) (b:Addr) (vs:List V),b9 X.K H1 b vs->aG fa X.K μ1 H1 ds vs->ah (ba m ds.reverse M1) (a7 fa X.K μ H Q)->Fu X.K (.ref b) H1 Q:=fun ds b vs hs hr h1=>by
   obtain ⟨_,q⟩:=fO hM1 hr.reverse (jr h1 x1)
   exact ⟨b,vs,rfl,.inl ⟨hs,q⟩⟩
  cases x with
  | tup ds =>
    obtain ⟨b,vs,rfl,hs,hr⟩:=r1
    exact ⟨b,vs,rfl,.inr ⟨hs,gL hM1 hr.reverse (a7.ext h1 x1)⟩⟩
  | lst ds =>
    obtain ⟨b,vs,rfl,hs,hr⟩:=r1
    exact lst ds b vs (b9.of hs.1) hr h1
  | frz ds =>
    obtain ⟨b,vs,rfl,hs,hr⟩:=r1
    exact lst ds b vs (hs.elim (fun ⟨o,z⟩=>.inl (.inr ⟨o,z⟩)) .inr) hr h1
  | cell k =>
    obtain ⟨b,rfl,hk⟩:=r1
    obtain ⟨ds,vs,e,hH,hr⟩:=hM1.mu_lt hk
    have h1:ah (match M1[k]? with|some xs=>ba m xs.reverse M1|none=>.bad) (a7 fa X.K μ H Q):=h1
    rw [e] at h1
    exact lst ds b vs (b9.of hH) hr h1
  |_=>exact h1.elim
end
end LD
namespace LD
open PySem PySem.Spec PyProof.Rows L2
theorem mm {fa:Fa}{mg:Str->Option LI}{i:Nat}{x:Str}{f:Addr}(e:fa i=some f)(m:mg x=some (.ref f)):∀ad,fa i=some ad->mg x=some (.ref ad):=fun ad h=>by rw [e] at h;cases h;exact m
theorem us1 {α:Type}{p:List α->Prop}(h:∀a,p [a])(us:List α)(hl:us.length=1):p us:=by
 obtain ⟨a,rfl⟩:=List.length_eq_one_iff.mp hl;exact h a
theorem Jv {α:Type}{p:List α->Prop}(h:∀a b,p [a,b]):∀(us:List α) (hl:us.length=2),p us
 |[a,b],_=>h a b
theorem us3 {α:Type}{p:List α->Prop}(h:∀a b c,p [a,b,c]):∀(us:List α) (hl:us.length=3),p us
 |[a,b,c],_=>h a b c
theorem us4 {α:Type}{p:List α->Prop}(h:∀a b c d,p [a,b,c,d]):∀(us:List α) (hl:us.length=4),p us
 |[a,b,c,d],_=>h a b c d
theorem xP {P:Nb}:NT (nJ P) [] []:=.nil
theorem fX {P:Nb}{x:Str}{t:Tok}{a:Addr}{es:List NM}{kvs:List (Str×Addr)}(h:NT (nJ P) es kvs):NT (nJ P) (⟨PyData.keyHash P x,.str x t,.ref a⟩::es) ((x,a)::kvs):=.cons ⟨t,rfl⟩ h
noncomputable def Bn (K:LH):Sp:=fun vs H Q _=>∃(a:Addr) (ns:List Int),vs=[.ref a]/\b9 K H a (ns.map V.int)/\vR H/\ns.length<=63/\∀H',Q (.bl true) H'
theorem Gy {fa:Fa}{P:Mc}{w:Me}{K:LH}{mg:Str->Option LI}{base:Heap}{Pg:Nat->Option Df}{n f:Nat}{ad:Addr}{d:Df}{fd:NV}{N:List Str}{st:Stmt}{x qual y:Str}(h:∀f d,Pg f=some d->vW fa P w K mg base f d)
 (hl:∀ns:List Int,ns.length<=63->∃M,aq Pg (n+1) f [.frz (ns.map D.int)] []=.ok (.bl true) M) (e:Pg f=some d) (F:oK K x qual st ad fd) (S:gj N [y] (aM st)) (hs:d.slots=N.length)
 (hbody:∀(call:Call) (n:Nat) (cdv:LI) (A:MK) (outer:List Mw) (s:LM) (H:Hp) (E:XK),(∀f,eK fa P w K mg base n f (call f))->bx (2*n+5) (A.deeper (envOfC qual (aM st) s.heap.objs.size ad cdv))->
  mS fa (eB (fH P w) P w K mg base N qual (aM st) ad cdv A outer s H E) (cz st) (d.body call)):fU P w K mg base (fH P w) (2*n+5+1) ad fd [y] (Bn K):=by
 have eq:∀ds M,aq Pg (n+1) f ds M=gp (aq Pg n) d ds M:=fun ds M=>by show (match Pg f with|none=>Res.bad|some d=>gp (aq Pg n) d ds M)=_;rw [e]
 refine pj F S (fun vs H Q E hsp=>?_) fun cdv A outer s H vs Q E hr hsp=>⟨_,hbody (aq Pg n) n cdv A outer s H E (sU h n) hr,?_⟩
 ·obtain ⟨a,ns,rfl,_⟩:=hsp;rfl
 ·obtain ⟨a,ns,rfl,hS,hO,hn,q⟩:=hsp
  obtain ⟨M',e'⟩:=hl ns hn
  rw [eq] at e'
  have rp:aG fa K ⟨fun _=>none,[],fun _=>none⟩ H [.frz (ns.map D.int)] [.ref a]:=by
   refine ⟨.ref a,[],rfl,⟨a,ns.map V.int,rfl,?_,aG.ints ns⟩,rfl⟩
   rcases hS with (z|⟨o,z⟩)|z
   ·rcases hO a with y|⟨o,xs,y⟩
    ·rw [y] at z;cases z
    ·rw [y] at z;cases z
   ·exact .inl ⟨o,z⟩
   ·exact .inr z
  refine qu (μ:=⟨fun _=>none,[],fun _=>none⟩) (M:=[]) hs ⟨fun k ds z=>by simp at z,fun _ _=>rfl,fun _ _=>rfl,(fun _ _ _ z=>nomatch z),(fun _ _ _ z=>nomatch z),(fun _ _ z=>nomatch z),(fun _ z=>nomatch z)⟩ rp ?_
  rw [e']
  intro v H' μ' _ _ r
  obtain rfl:v=.bl true:=r
  exact q H'
theorem ui {K:LH}{h:Heap}{mg:Str->Option LI}{x:Str}{ad:Addr}{P:Nb}{es:Array NM}{n:Nat}{kvs:List (Str×Addr)}{fa:Fa}{fs:List (Str×Nat)}(X:K.In h)(G:h.Ns mainGlobals mg)(a:PySem.W.nsIn K mainGlobals x=some (some (.ref ad)))
 (l:K.lookup ad=some {cls:=.type "dict",data:=.dict es n}) (he:NT (nJ P) es.toList kvs) (nd:(kvs.map (·.1)).Nodup) (ns:(ad==sysModules)=false) (dk:dS fa kvs fs):∃ad kvs,mg x=some (.ref ad)/\fy K P ad kvs/\dS fa kvs fs:=
 ⟨ad,kvs,Nd X G a,⟨⟨es,n,l,he⟩,nd,ns⟩,dk⟩
end LD
namespace LD
open PySem PySem.Spec PyProof.Rows L2
theorem wG (lo hi:Option Int)(n:Nat):Builtin.Str.strSliceIndices lo hi 1 n=(List.range (HT.aI n n hi-HT.aI n 0 lo)).map (HT.aI n 0 lo+·):=by
 rw [<- sliceRange_one]
 unfold Builtin.Str.strSliceIndices
 simp only [show (1:Int) > 0 by decide,if_true]
 congr 1
 ·cases lo with
  |none=>rfl
  | some i =>
    simp only [HT.aI]
    split<;>omega
 ·cases hi with
  |none=>rfl
  | some i =>
    simp only [HT.aI]
    split<;>omega
noncomputable def vD (z:Str)(l h:Nat):Str:=⟨(cut z.cps.toList l h).toArray⟩
section
variable {fa:Fa}{X:Cx}{a b:Expr}{ga gb:GE}{pos p2:Pos}{tg:Expr}
theorem rZ {v:LI}{o:Option Int}(h:IsPart v o):∃p:Option (Int×Tok),v=partValue p/\p.map (·.1)=o:=by
 cases h with
 |none=>exact ⟨none,rfl,rfl⟩
 |int i t=>exact ⟨some (i,t),rfl,rfl⟩
theorem E4:kN X (fun x lo hi H Q=>∃z:Str,x=.str z/\z.cps.size<=sizeLine/\Q (.str (vD z (HT.aI z.cps.size 0 lo) (HT.aI z.cps.size z.cps.size hi))) H):=by
 intro pins s σ H x v vl vu lo hi sl Q I rx hs pl pu h
 obtain ⟨z,rfl,hz,q⟩:=h
 obtain ⟨t,rfl⟩:=rx
 obtain ⟨l,rfl,el⟩:=rZ pl
 obtain ⟨u,rfl,eu⟩:=rZ pu
 refine ⟨"str",_,slot_str_getitem.lookup,typeIs_str s z t,?_⟩
 refine wpAny_getItem_str_slice (l:=l) (u:=u) (st:=none) hs rfl ?_
 have e:(slicePicked z l u none).filterMap (z.cps[·]?)=cut z.cps.toList (HT.aI z.cps.size 0 lo) (HT.aI z.cps.size z.cps.size hi):=by
  unfold slicePicked
  rw [el,eu]
  show (Builtin.Str.strSliceIndices lo hi 1 z.cps.size).filterMap _=_
  rw [wG,pick_run]
  rfl
 unfold sliceMade
 split
 ·next c=>
  have c':(slicePicked z l u none).length=z.length:=by simpa using c
  have e2:vD z (HT.aI z.cps.size 0 lo) (HT.aI z.cps.size z.cps.size hi)=z:=by
   have hl:HT.aI z.cps.size z.cps.size hi-HT.aI z.cps.size 0 lo=z.cps.size:=by
    unfold slicePicked at c'
    rw [el,eu] at c'
    have c':(Builtin.Str.strSliceIndices lo hi 1 z.cps.size).length=z.cps.size:=c'
    rw [wG] at c'
    simpa using c'
   have hh:HT.aI z.cps.size z.cps.size hi<=z.cps.size:=by
    cases hi with
    |none=>exact LP _
    |some i=>simp only [HT.aI];split<;>omega
   have h0:HT.aI z.cps.size 0 lo=0\/z.cps.size=0:=by omega
   unfold vD cut
   rw [hl]
   rcases h0 with h0|h0
   ·rw [h0]
    rcases z with ⟨zs⟩
    show (⟨(List.take zs.size (List.drop 0 zs.toList)).toArray⟩:Str)=⟨zs⟩
    rw [List.drop_zero,MV (by simp)]
   ·have:z.cps=#[]:=Array.eq_empty_of_size_eq_zero h0
    rcases z with ⟨zs⟩
    simp at this
    subst this
    simp
  rw [e2] at q
  exact ⟨.str z,H,I,⟨t,rfl⟩,q⟩
 ·rw [e]
  refine ⟨?_,.str _,H,I.tok _,⟨_,rfl⟩,q⟩
  have:(cut z.cps.toList (HT.aI z.cps.size 0 lo) (HT.aI z.cps.size z.cps.size hi)).length<=z.cps.size:=by
   unfold cut
   rw [Ni,List.length_drop]
   simp
   omega
  show (cut z.cps.toList _ _).toArray.size<=sizeLine
  simp at this ⊢
  omega
noncomputable def BV (hl hh:Bool)(a lo hi:GE):GE:=fun Z M=>(a Z M).bind fun x M=>(lo Z M).bind fun l M=>(hi Z M).bind fun h M=>if du hl l&&du hh h then (match x with
 | .str z => if z.cps.size <= sz then (match aI z.cps.size 0 l, aI z.cps.size z.cps.size h with
   |some l,some h=>.ok (.str (vD z l h)) M
   |_,_=>.bad) else .bad
 |_=>.bad) else .bad
theorem Fn (hl hh:Bool){lo hi:Option Expr}{gl gh:GE}(ha:DE fa X a ga)(hlo:DO fa X lo hl gl)(hhi:DO fa X hi hh gh):DE fa X (.Subscript a (.Slice lo hi none p2) pos) (BV hl hh ga gl gh):=
 bq (rW E4 ha hlo hhi) fun σ H Q ⟨μ,Z,M,hE,hM,h⟩=>t1 hE hM h fun x M1 v H1 μ1 x1 hE1 hM1 r1 h1=>by
  obtain ⟨l,M2,e2,h2⟩:=aK h1
  obtain ⟨u,M3,e3,h3⟩:=aK h2
  split at h3
  ·next c=>
   rw [LN] at c
   obtain ⟨ol,el⟩:=part_of c.1
   obtain ⟨ou,eu⟩:=part_of c.2
   refine ⟨μ1,Z,M1,hE1,hM1,?_⟩
   rw [e2]
   refine ⟨ol,c.1,el,fun H2 μ2 x2 hM2=>⟨μ2,Z,M2,hE1.ext x2,hM2,?_⟩⟩
   rw [e3]
   refine ⟨ou,c.2,eu,fun H3 μ3 x3 hM3=>?_⟩
   cases x with
   | str z =>
     obtain rfl:v=.str z:=r1
     dsimp only at h3
     split at h3
     ·next hz=>
      simp only [mZ,el,eu,Option.map_some] at h3
      exact ⟨z,rfl,by rw [<- cX];exact hz,aZ (v:=.str _) hM3 (a7.ext h3 ((x1.trans x2).trans x3)) rfl⟩
     ·exact h3.elim
   |_=>exact h3.elim
  ·exact h3.elim
theorem Dz:bz X (compareOp .IsNot) (fun x y H Q=>∃k,x=.bl k/\y=.bl true/\Q (.bl (!k)) H):=by
 intro pins s σ H x y v u Q I rx ry h
 obtain ⟨k,rfl,rfl,q⟩:=h
 cases rx
 cases ry
 refine tqb (bc I q ?_)
 cases k<;>rfl
noncomputable def vo (a b:GE):GE:=fun Z M=>(a Z M).bind fun x M=>(b Z M).bind fun y M=>match x,y with
 |.bl k,.bl true=>.ok (.bl (!k)) M
 |_,_=>.bad
theorem Fz (ha:DE fa X a ga)(hb:DE fa X b gb)(hm:behindInMarks .IsNot b=false):DT fa X (.Compare a [.IsNot] [b] pos) (aE (vo ga gb)):=
 jO (oU Dz ha hb hm) fun σ H Q ⟨μ,Z,M,hE,hM,h⟩=>by
  obtain ⟨z,M3,e,q⟩:=aK h
  have h':ah (vo ga gb Z M) (fun d M=>d=z/\M=M3):=by rw [e];exact ⟨rfl,rfl⟩
  refine t2 hE hM h' fun x y M2 v u H2 μ2 x2 hE2 hM2 r1 r2 h2=>?_
  cases x with
  | bl k =>
    cases y with
    | bl j =>
      cases j with
      | true =>
        obtain ⟨rfl,rfl⟩:=h2
        exact ⟨k,r1,r2,!k,rfl,q H2 μ2 x2 hM2⟩
      |false=>exact h2.elim
    |_=>exact h2.elim
  |_=>cases y<;>exact h2.elim
noncomputable def signs (z:Str):List D:=z.cps.toList.map fun c=>.str ⟨#[c]⟩
noncomputable def HF (z:Str):It:=⟨fun i _=>i<z.cps.size,fun i H x H'=>H'=H/\∃c,z.cps[i]?=some c/\x=.str ⟨#[c]⟩,fun i _=>z.cps.size<=i⟩
theorem rh {P:Mc}{w:Me}{K:LH}{n:String}(hn:["enumerate","zip","dict_itemiterator","dict_reverseitemiterator","odict_iterator","itertools.zip_longest","itertools.pairwise"].contains n=false)(it:Addr)(z:Str)(t:Tok)
 (W:∀A':MK,A'.handled=none->Walks P w A' it [it] [it] z.cps.size (SignAt z) (fun i h=>h.IsStrIter it n z t i))
 (S:∀(A:MK) (i:Nat) (s:LM) (Q:LI->LM->Prop) (E:LI->LM->Prop),s.heap.IsStrIter it n z t i->Q (.ref it) s->wpAny (model P w) A (pyIter (.ref it)) Q E s)
 (D:∀(A:MK) (hh:A.handled=none) (i:Nat) (s:LM) (Q:Option LI->LM->Prop) (E:LI->LM->Prop),s.heap.IsStrIter it n z t i->z.cps.size<=i->(∀h',(∀b o,b≠it->s.heap.get? b=some o->h'.get? b=some o)->Q none {s with heap:=h'})->wpAny (model P w) A (pyNext (.ref it)) Q E s) :
 Turn P w K tg (HF z) [it] it (fun i h=>h.IsStrIter it n z t i) where
 mem:=by simp
 obj:=fun i h st b hb=>by
  have e:b=it:=by simpa using hb
  subst e
  obtain ⟨o,e,c,d⟩:=st
  exact ⟨o,e,fun v z=>by rw [d] at z;cases z⟩
 keep:=fun i h h' st k=>let ⟨o,e,r⟩:=st;⟨o,k it (by simp) o e,r⟩
 item:=by
  intro X hP hw hK hc i pins s σ H E I hf st hg
  subst hP hw hK
  obtain ⟨f0,f1,f2,f3,f4,f5⟩:=hf it (by simp)
  refine (W X.A (I.ok.hd hc)).item i s _ _ hg st fun v h' tk hv st' kk=>?_
  obtain ⟨c,u,hc',rfl⟩:=hv
  have I1:Inv X pins σ H {s with heap:=h',toks:=tk}:=I.turned (fun b o hb e=>kk b o (by simpa using hb) e) f0 f1 f3 f4 f5
  obtain ⟨o,e,co,d⟩:=id st'
  exact ⟨_,rfl,qT (s:={s with heap:=h',toks:=tk}) e co d hn ⟨.str ⟨#[c]⟩,H,I1,⟨u,rfl⟩,⟨rfl,c,hc',rfl⟩,st',fun b hb=>(hf b hb).1⟩⟩
 done:=by
  intro X hP hw hK hc i pins s σ H E I hf st hg
  subst hP hw hK
  obtain ⟨f0,f1,f2,f3,f4,f5⟩:=hf it (by simp)
  exact D X.A (I.ok.hd hc) i s _ _ st hg fun h' eb=>⟨rfl,I.turned (t':=s.toks) (fun b o hb e=>eb b o hb e) f0 f1 f3 f4 f5⟩
 self:=fun A i s Q E st h=>S A i s Q E st h
theorem FJ {l:Expr}{tl:TE}(hl:PE X l tl):PI X tg l (fun σ H R=>tl σ H fun x H1=>∃z,x=.str z/\R (HF z) H1):=by
 intro pins s σ H R I h
 refine aO (hl pins s σ H _ I h) fun v s1 ⟨x,H1,I1,r1,q1⟩=>?_
 obtain ⟨z,rfl,q⟩:=q1
 obtain ⟨t,rfl⟩:=r1
 have fp:∀b∈[s1.heap.objs.size],fC X pins H1 b:=fun b hb=>by
  have e:b=s1.heap.objs.size:=by simpa using hb
  subst e
  exact I1.fpOk (LP _) (I1.hok.fresh (LP _))
 cases ha:z.cps.all (· < 128)
 ·refine wpAny_pyIter_wide ha ?_
  exact ⟨s1.heap.objs.size,[s1.heap.objs.size],_,_,H1,rfl,I1.kept (t':=s1.toks) fun b o e=>LK _ e,rh (n:="str_iterator") rfl _ z t (fun A' h=>Walks.strWide h _ z t) (fun A i s Q E st h=>wpAny_pyIter_striter_wide st h) (fun A hh i s Q E st hi k=>wpAny_pyNext_wide_end hh st (by simp;omega) k),⟨_,L6 _ rfl,rfl,rfl⟩,fp,q⟩
 ·refine wpAny_pyIter_ascii ha ?_
  exact ⟨s1.heap.objs.size,[s1.heap.objs.size],_,_,H1,rfl,I1.kept (t':=s1.toks) fun b o e=>LK _ e,rh (n:="str_ascii_iterator") rfl _ z t (fun A' h=>Walks.strAscii h _ z t) (fun A i s Q E st h=>wpAny_pyIter_striter_ascii st h) (fun A hh i s Q E st hi k=>wpAny_pyNext_ascii_end hh st (by simp;omega) k),⟨_,L6 _ rfl,rfl,rfl⟩,fp,q⟩
noncomputable def BW (ga:GE):Env->Mem->Res Walk:=fun Z M=>(ga Z M).bind fun x M=>match x with
 |.str z=>.ok (fun _=>some (signs z)) M
 |_=>.bad
theorem yH {μ0:Mu}{H0:Hp}(z:Str):c8 fa X.K μ0 H0 (fun _=>some (signs z)) (HF z):=fun μ H M ds x hM e=>by
 cases e
 refine ⟨fun i d hd=>?_,fun i hi=>(show z.cps.size<=i by simpa [signs] using hi)⟩
 have hd:(signs z)[i]?=some d:=hd
 unfold signs at hd
 rw [Mr] at hd
 cases e:z.cps.toList[i]? with
 |none=>rw [e] at hd;cases hd
 | some c =>
   rw [e] at hd
   have e':D.str ⟨#[c]⟩=d:=LO hd
   subst e'
   have e2:z.cps[i]?=some c:=by simpa using e
   refine ⟨(MN.mp e2).1,fun y H' ⟨e1,c',e3,e4⟩=>?_⟩
   rw [e2] at e3
   cases e3
   subst e1 e4
   exact ⟨.refl,hM,rfl⟩
theorem Ef (ha:DE fa X a ga):DI fa X tg a (BW ga):=fun pins s σ H R I ⟨μ,Z,M,hE,hM,h⟩=>by
 obtain ⟨x,M1,e,q⟩:=aK h
 refine FJ ha pins s σ H R I ⟨μ,Z,M,hE,hM,?_⟩
 rw [e]
 intro v H1 μ1 x1 m1 r1
 cases x with
 | str z =>
   obtain rfl:v=.str z:=r1
   exact ⟨z,rfl,q _ H1 μ1 x1 m1 (yH z)⟩
 |_=>exact q.elim
end
end LD
namespace LD
open PySem PySem.Spec PySem.Calls PyProof.Rows PySem.W
section
variable {prog:Mc}{w:Me}{A:MK}{E:LI->LM->Prop}{s:LM}{K:Frag}{x C:Addr}{ox:Obj}{od:Option Obj}{name:Str}
noncomputable def EE (K:Frag)(C:Addr):Bool:=findIn K (.ref C) "__getattribute__"==some (some (.builtin "BaseException.__getattribute__"))&&findIn K (.ref C) "__getattr__"==some none&&mroIn K C (.type "BaseException")==some true&&mroIn K C (.type "object")==some true &&
 findIn K (.ref C) "__class__"==some (some (.builtin "object.__class__"))&&specialIn K (.builtin "object.__class__") "__get__"==some (some (.builtin "getset_descriptor.__get__"))&&takesIn K (.builtin "object.__class__")==some true
end
end LD
namespace LD
open PySem PySem.Spec PyProof.Rows L2
noncomputable def dz (f:Nat)(c:Call)(s:GA):GE:=fun Z M=>match s Z M with
 |.ok ds M=>c f ds M
 |_=>.bad
noncomputable def uH (k:D->Mem->Res Fl)(Z:Env):Res D->Res Fl
 |.ok d M=>k d M
 |.err x M=>.ok (.exc x Z) M
 |.bad=>.bad
noncomputable def jG (a:GE):GS:=fun Z M=>uH (fun _ M=>.ok (.next Z) M) Z (a Z M)
noncomputable def g9 (t:cy)(a:GE):GS:=fun Z M=>uH (fun x M=>(bV M (bW t x Z)).bind fun ρ1 M=>.ok (.next ρ1) M) Z (a Z M)
noncomputable def uT (a:GE):GS:=fun Z M=>uH (fun x M=>.ok (.ret x) M) Z (a Z M)
noncomputable def vp (t:GT)(a b:GE):GE:=fun Z M=>match t Z M with
 |.ok k M=>if k then a Z M else b Z M
 |_=>.bad
noncomputable def eF (c:Nat)(s:GA):GS:=fun Z M=>match s Z M with
 |.ok ds M=>if ds.length<=sz then .ok (.exc (.exc c none) Z) M else .bad
 |_=>.bad
noncomputable def JA (fa:Fa)(X:Cx)(g:GE):TE:=fun σ H Q=>∃μ Z M,a8 fa X.K μ H σ Z/\RelM fa X.K μ H M/\kK (g Z M) (a7 fa X.K μ H Q) (fun x M'=>XW fa X μ H x Z M')
abbrev DX (fa:Fa)(X:Cx)(e:Expr)(g:GE):Prop:=PE X e (JA fa X g)
section
variable {fa:Fa}{X:Cx}{a b:Expr}{ga gb:GE}{ta:GT}{pos p:Pos}{es:List Expr}{gs:GA}{n:Nat}
theorem x_call (f:Nat){x:Str}{call:Call}(C:∀f,eK fa X.prog X.w X.K X.mg X.base n f (call f))(hr:bx (2*n+4) X.A)(hex:X.ex=[])(hg:Gl X x)(hm:∀ad,fa f=some ad->X.mg x=some (.ref ad))(hs:DA fa X (a::es) gs)
 (hdb:(x==("__debug__":Str))=false) (he:notStar a=true) (hpl:es.all notStar=true):DX fa X (.Call (.Name x p) (a::es) [] pos) (dz f call gs):=by
 intro pins s σ H Q I ⟨μ,Z,M,hE,hM,h⟩
 unfold dz at h
 cases eg:gs Z M with
 |err=>rw [eg] at h;exact h.elim
 |bad=>rw [eg] at h;exact h.elim
 | ok ds M1 =>
   rw [eg] at h
   have h:kK (call f ds M1) (a7 fa X.K μ H Q) (fun x M'=>XW fa X μ H x Z M'):=h
   rcases C f with hb|⟨ad,fd,ps,h1,h2,h3,h4,F⟩
   ·rw [hb] at h;exact h.elim
   ·have hl:ds.length=ps.length:=by
     by_cases hl:ds.length=ps.length
     ·exact hl
     ·rw [h4 ds M1 hl] at h;exact h.elim
    refine wpAny_Call_Name_kw (fW I hg (hm ad h1) ?_ hdb)
    refine Nz (h₀:=X.base) I.ok.mod.kin h2 (aO (hs pos pins s σ H (fun vs H1=>∃μ1,Ext μ H μ1 H1/\RelM fa X.K μ1 H1 M1/\aG fa X.K μ1 H1 ds vs) I ⟨μ,Z,M,hE,hM,by rw [eg];exact fun vs H1 μ1 x1 m1 r1=>⟨μ1,x1,m1,r1⟩⟩) fun us s1 ⟨vs,H1,I1,r,μ1,x1,m1,r1⟩=>⟨I1.kIn,?_⟩) (bh he) (cm hpl)
    have hsp:Bo fa X.K ps.length (call f) vs H1 Q fun Cv dx H'=>∃y M' μ' C' c p,Cv=.ref C'/\Ext μ1 H1 μ' H'/\RelM fa X.K μ' H' M'/\y=.exc c p/\fa (eP c)=some C'/\vO H' c dx p/\XW fa X μ H y Z M':=by
     refine ⟨by rw [r1.length];exact hl,μ1,M1,ds,m1,r1,?_⟩
     cases ec:call f ds M1 with
     |ok d M2=>rw [ec] at h;exact a7.ext h x1
     |err y M2=>rw [ec] at h;exact fun C dx c p H' μ' y' m ex hc hn=>⟨_,M2,μ',C,c,p,rfl,y',m,ex,hc,hn,h⟩
     |bad=>rw [ec] at h;exact h.elim
    have hl2:us.length=ps.length:=by rw [<- r.length,r1.length];exact hl
    have hb:=h3 s1 us I1.kIn (by simpa using hl2)
    rw [NW] at hb
    refine wpAny_call (codeAny_mono (F.run X.A X.stack s1 H1 ⟨us,[]⟩ us vs Q _ hr I1.env0 hb r hsp) fun r' s' hq=>?_)
    cases r' with
    | error e =>
      unfold CR at hq
      dsimp only at hq
      obtain ⟨a',C',dx,H',rfl,I',fl,y,M',μ',C2,c,p,ec,ye,m',ey,hc,hn,hw⟩:=xW I1 hex hq
      cases ec
      exact hw pins σ H' μ' s' a' C' dx c p I' (x1.trans ye) ((hE.ext x1).ext ye) m' ey hc hn fl
    | ok fl =>
      cases fl with
      |ret u=>exact I1.after hq
      |next=>exact False.elim hq
      |brk=>exact False.elim hq
      |cont=>exact False.elim hq
theorem HN {c:Expr}(hc:DT fa X c ta)(ha:DX fa X a ga)(hb:DX fa X b gb):DX fa X (.IfExp c a b pos) (vp ta ga gb):=
 bq (rX hc ha hb) fun σ H Q ⟨μ,Z,M,hE,hM,h⟩=>by
  unfold vp at h
  cases et:ta Z M with
  |err=>rw [et] at h;exact h.elim
  |bad=>rw [et] at h;exact h.elim
  | ok k M1 =>
    rw [et] at h
    refine ⟨μ,Z,M,hE,hM,?_⟩
    rw [et]
    intro H1 μ1 x1 m1
    have go:∀g:GE,kK (g Z M1) (a7 fa X.K μ H Q) (fun x M'=>XW fa X μ H x Z M')->JA fa X g σ H1 Q:=fun g q=>by
     refine ⟨μ1,Z,M1,hE.ext x1,m1,?_⟩
     cases e:g Z M1 with
     |ok d M2=>rw [e] at q;exact a7.ext q x1
     |err y M2=>rw [e] at q;exact XW.ext q x1
     |bad=>rw [e] at q;exact q
    cases k with
    |true=>exact go ga h
    |false=>exact go gb h
theorem Ia (ha:DX fa X a ga)(hs:swapsWith a none pos.line X.env=pure false):DS fa X (.Expr a pos) (jG ga):=
 dU (lW ha hs) fun D' σ H ⟨μ,Z,M,hE,hM,h⟩=>⟨μ,Z,M,hE,hM,by
  unfold jG at h
  cases e:ga Z M with
  |ok d M1=>rw [e] at h;exact fun v H1 μ1 x1 m1 r1=>h σ H1 μ1 x1 (hE.ext x1) m1
  |err x M1=>rw [e] at h;exact h
  |bad=>rw [e] at h;exact h.elim⟩
theorem Fb {tg:Expr}{t:cy}(ha:DX fa X a ga)(hg:PG X tg (gT fa X.K t))(hs:swapsWithSole [tg] a pos.line X.env=pure false)(hw:swappedStores [tg] a X.env=pure none)(h1:(assignEach [tg] X.env).map (·.2)=[assign tg X.env]) :
 DS fa X (.Assign [tg] a pos) (g9 t ga):=
 dU (rS ha hg hs hw h1) fun D σ H ⟨μ,Z,M,hE,hM,h⟩=>⟨μ,Z,M,hE,hM,by
  unfold g9 at h
  cases e:ga Z M with
  | ok d M1 =>
    rw [e] at h
    obtain ⟨ρ1,M2,e',q⟩:=aK h
    cases eb:bW t d Z with
    |none=>rw [eb] at e';cases e'
    | some ρ2 =>
      rw [eb] at e'
      cases e'
      exact fun v H1 μ1 x1 m1 r1=>⟨μ1,Z,_,d,ρ1,hE.ext x1,m1,r1,eb,fun σ1 hE2=>q σ1 H1 μ1 x1 hE2 m1⟩
  |err x M1=>rw [e] at h;exact h
  |bad=>rw [e] at h;exact h.elim⟩
theorem E8 (ha:DX fa X a ga):DS fa X (.Return (some a) pos) (uT ga):=
 dU (xa ha) fun D' σ H ⟨μ,Z,M,hE,hM,h⟩=>⟨μ,Z,M,hE,hM,by
  unfold uT at h
  cases e:ga Z M with
  |ok d M1=>rw [e] at h;exact h
  |err x M1=>rw [e] at h;exact h
  |bad=>rw [e] at h;exact h.elim⟩
end
abbrev lM:List LI:=[.type "ValueError",.type "Exception",.type "BaseException",.type "object"]
noncomputable def E6 (K:LH)(C:Addr)(f:ClassData->Addr->List LI->String->Bool):Bool:=match K.lookup C with
 | some ⟨.type "type", _, .cls cd, sl⟩ => (match cd.mro, sl.toList with
   |.ref C'::bm,[_,_,_,_,some (.builtin n),_]=>f cd C' bm n
   |_,_=>false)
 |_=>false
theorem wW {K:LH}{h:Heap}{C:Addr}{f:ClassData->Addr->List LI->String->Bool}(X:K.In h)(q:E6 K C f=true) :
 ∃bm N nm q bs hdct sn sub ab col dd k0 k1 k2 k3 k5 dl n C',f ⟨nm,bs,.ref C'::bm,N,q,hdct,sn,sub,ab,col,dl⟩ C' bm n=true/\h.get? C=some ⟨.type "type",dd,.cls ⟨nm,bs,.ref C'::bm,N,q,hdct,sn,sub,ab,col,dl⟩,#[k0,k1,k2,k3,some (.builtin n),k5]⟩:=by
 unfold E6 at q
 split at q
 ·rename_i dd cd sl ho
  split at q
  ·rename_i C' bm k0 k1 k2 k3 n k5 hm hs
   obtain ⟨nm,bs,mro,ns,qn,hd,sn,sub,ab,col,del⟩:=cd
   dsimp only at hm
   subst hm
   have hsl:sl=#[k0,k1,k2,k3,some (.builtin n),k5]:=by
    obtain ⟨l⟩:=sl
    simp only at hs
    rw [hs]
   subst hsl
   exact ⟨_,_,_,_,_,_,_,_,_,_,_,_,_,_,_,_,_,_,_,q,X _ _ ho⟩
  ·cases q
 ·cases q
theorem AE {K:LH}{h:Heap}{C:Addr}{bmB:List LI}{newId:String}(X:K.In h)(q:PySem.W.excIn K C bmB newId=true) :
 ∃bm N nm q bs hdct sn sub ab col dd k0 k1 k2 k3 k5 mN,h.get? C=some (excClassObj nm q C N bs bm hdct sn sub ab col dd k0 k1 k2 k3 k5 newId)/\h.Ns N mN/\mN "__init__"=none/\OwnTail h bmB bm:=by
 obtain ⟨bm,ns,nm,qn,bs,hd,sn,sub,ab,col,dd,k0,k1,k2,k3,k5,dl,n,C',q,ho⟩:=wW (f:=fun cd C' bm n=>C'==C&&n==newId&&!cd.hasDel&&PySem.W.tailIn K bmB bm&&PySem.W.nsOkIn K cd.ns&&PySem.W.nsIn K cd.ns "__init__"==some none) X q
 simp only [LN,beq_iff_eq,NH] at q
 obtain ⟨⟨⟨⟨⟨rfl,rfl⟩,rfl⟩,ht⟩,hok⟩,hni⟩:=q
 exact ⟨bm,ns,nm,qn,bs,hd,sn,sub,ab,col,dd,k0,k1,k2,k3,k5,_,ho,.of_isNs (PySem.W.isNs_of_in X hok),PySem.W.nsMap_none_of_in X hok hni,PySem.W.tail_of_in X ht⟩
theorem xA {P:Mc}{w:Me}{H:Hp}{h:Heap}{a:Addr}{o:HO}(x:cj P w H h a o):∃ob,h.get? a=some ob:=by
 cases o with
 |lst xs=>obtain ⟨_,_,_,_,e⟩:=x;exact ⟨_,e⟩
 |tup xs=>obtain ⟨_,_,_,ob,e,_⟩:=x;exact ⟨_,e⟩
 |dK kvs=>obtain ⟨_,_,_,_,o,_,_,e,_⟩:=x;exact ⟨_,e⟩
 |dT kvs=>obtain ⟨_,_,_,_,o,_,_,e,_⟩:=x;exact ⟨_,e⟩
 |set S n=>obtain ⟨o,_,_,_,e,_⟩:=x;exact ⟨_,e⟩
 |ins C dx fs=>obtain ⟨_,_,_,e,_⟩:=x;exact ⟨_,e⟩
 |own y=>exact x
 |xd fs=>obtain ⟨_,⟨_,_,_,e,_⟩,_⟩:=x;exact ⟨_,e⟩
 |rng lo hi=>obtain ⟨_,_,_,e⟩:=x;exact ⟨_,e⟩
 |frz ob u=>obtain ⟨e,_⟩:=x;exact ⟨_,e⟩
 |tbl ps=>exact ⟨_,x⟩
 |met f y=>exact ⟨_,x⟩
 |ext φ=>obtain ⟨_,e,_⟩:=x;exact e
theorem sD {X:Cx}{pins:List (Addr×Obj)}{σ:L2.St}{H:Hp}{s:LM}(I:Inv X pins σ H s)(hex:X.ex=[]){e:Addr}(hn:s.heap.get? e=none):nH X e/\H e=none:=by
 refine ⟨⟨?_,fun p hp z=>?_⟩,?_⟩
 ·cases q:X.s₀.heap.get? e with
  |none=>rfl
  | some o =>
    obtain ⟨o',e'⟩:=I.base.there e o q (by rw [hex];simp)
    rw [hn] at e';cases e'
 ·have:=(I.pin p (NK _ hp)).1
  rw [z,hn] at this;cases this
 ·cases q:H e with
  |none=>rfl
  | some u =>
    obtain ⟨ob,z⟩:=xA (I.hok e u q)
    rw [hn] at z;cases z
section
variable {fa:Fa}{X:Cx}{a b:Expr}{ga gb:GE}{ta:GT}{pos p:Pos}{es:List Expr}{gs:GA}{n:Nat}
theorem C6 (c:Nat){x:Str}{np cpos:Pos}(hx:∃C,X.mg x=some (.ref C)/\fa (eP c)=some C/\PySem.W.excIn X.K C lM "ValueError.__new__"=true)(hex:X.ex=[])(hg:Gl X x)(hc:X.calm=true)(hs:DA fa X (a::es) gs)
 (hdb:(x==("__debug__":Str))=false) (he:notStar a=true) (hpl:es.all notStar=true):DS fa X (.Raise (some (.Call (.Name x np) (a::es) [] cpos)) none pos) (eF c gs):=by
 intro pins s σ H D' I ⟨μ,Z,M,hE,hM,h⟩
 obtain ⟨C,hmC,hfC,hin⟩:=hx
 obtain ⟨bm,N,nm,q,bs,hdct,sn,sub,ab,col,dd,k0,k1,k2,k3,k5,mN,hC,hN,hni,T⟩:=AE I.ok.mod.kin hin
 unfold eF at h
 cases eg:gs Z M with
 |err=>rw [eg] at h;exact h.elim
 |bad=>rw [eg] at h;exact h.elim
 | ok ds M1 =>
   rw [eg] at h
   dsimp only at h
   split at h
   ·next hz=>
    have h:XW fa X μ H (.exc c none) Z M1:=h
    refine wpAny_Raise_call_subT (nm:=nm) (q:=q) (N:=N) (bs:=bs) (hdct:=hdct) (sn:=sn) (sub:=sub) (ab:=ab) (col:=col) (dd:=dd) (k0:=k0) (k1:=k1) (k2:=k2) (k3:=k3) (k5:=k5) PySem.F.excBase_ValueError (T.hasType (by decide +kernel)) (I.ok.hd hc) (cm (es:=a::es) (by simp [he,hpl])) hni (fW I hg hmC ⟨rfl,?_⟩ hdb)
    have ar:=aO (hs cpos pins s σ H (fun vs H1=>∃μ1,Ext μ H μ1 H1/\RelM fa X.K μ1 H1 M1/\aG fa X.K μ1 H1 ds vs) I ⟨μ,Z,M,hE,hM,by rw [eg];exact fun vs H1 μ1 x1 m1 r1=>⟨μ1,x1,m1,r1⟩⟩) (Q':=fun us s2=>([]:List (Str×LI))=[]/\us.length<=sizeLine/\s2.heap.get? C=some (excClassObj nm q C N bs bm hdct sn sub ab col dd k0 k1 k2 k3 k5 "ValueError.__new__")/\s2.heap.Ns N mN/\OwnTail s2.heap lM bm/\∀h' e,Heap.MadeExcOf s2.heap h' e (.ref C) us->X.xe (.ref e) {s2 with heap:=h'}) fun us s1 ⟨vs,H1,I1,r,μ1,x1,m1,r1⟩=>by
     refine ⟨rfl,?_,I1.bk _ _ hC,hN.keeps I1.bk,T.keeps I1.bk,fun h' e hm=>?_⟩
     ·rw [<- r.length,r1.length,<- cX];exact hz
     ·obtain ⟨t,ht,_,_⟩:=hm.there
      obtain ⟨n1,n2⟩:=sD I1 hex hm.new
      exact h pins σ H1 μ1 {s1 with heap:=h'} e C none c none (I1.kept (t':=s1.toks) hm.keeps) x1 (hE.ext x1) m1 rfl hfC rfl ⟨n1,n2,_,_,ht,rfl,rfl,rfl,.inl rfl⟩
    rw [bh he] at ar ⊢
    exact PySem.Calls.evalArgs_plain ar
   ·exact h.elim
end
end LD
namespace LD
open PySem PySem.Spec PyProof.Rows L2
structure Hy (fa:Fa) (K:LH):Prop where
 g:∀c C,fa (eP c)=some C->EE K C=true/\PySem.W.mroIn K C (.type "ValueError")=some true/\PySem.W.isIn K (.ref C) C=true
 d:∀c C D,fa (eP c)=some C->fa 999=some D->PySem.W.isIn K (.ref C) D=true/\PySem.W.mroIn K C (.ref D)=some true/\PySem.W.mroIn K D (.type "BaseException")=some true/\PySem.W.typeIn K (.ref D)=some (.type "type")
 n:∀c C c' C',fa (eP c)=some C->fa (eP c')=some C'->c'≠c->PySem.W.kin_not K C C'=true
noncomputable def EG (K:LH)(cl:List (Nat×Addr))(D:Addr):Bool:=PySem.W.mroIn K D (.type "BaseException")==some true&&PySem.W.typeIn K (.ref D)==some (.type "type") &&
 cl.all fun q=>EE K q.2&&PySem.W.mroIn K q.2 (.type "ValueError")==some true&&PySem.W.isIn K (.ref q.2) q.2&&PySem.W.isIn K (.ref q.2) D&&PySem.W.mroIn K q.2 (.ref D)==some true&&cl.all fun r=>r.1==q.1||PySem.W.kin_not K q.2 r.2
noncomputable def ux (l cl:List (Nat×Addr))(D:Addr):Fa:=fun i=>if i<999 then l.lookup i else if i=999 then some D else cl.lookup (i-1000)
theorem lookup_mem:∀{l:List (Nat×Addr)}{c:Nat}{C:Addr},l.lookup c=some C->(c,C)∈l
 |[],_,_,h=>by cases h
 | (a, b) :: r, c, C, h => by
   rw [Mm] at h
   split at h
   ·next e=>cases h;rw [eq_of_beq e];exact Ml
   ·exact LY _ (lookup_mem h)
theorem ml {l cl:List (Nat×Addr)}{D:Addr}{c:Nat}{C:Addr}(h:ux l cl D (eP c)=some C):(c,C)∈cl:=by
 unfold ux eP at h
 rw [if_neg (by omega),if_neg (by omega),Nu] at h
 exact lookup_mem h
theorem EF {K:LH}{l cl:List (Nat×Addr)}{D:Addr}(h:EG K cl D=true):Hy (ux l cl D) K:=by
 unfold EG at h
 simp only [LN,beq_iff_eq,L9,NX] at h
 obtain ⟨⟨h1,h2⟩,h3⟩:=h
 refine ⟨fun c C e=>?_,fun c C D' e e'=>?_,fun c C c' C' e e' n=>?_⟩
 ·obtain ⟨⟨⟨⟨⟨a1,a2⟩,a3⟩,a4⟩,a5⟩,a6⟩:=h3 _ (ml e)
  exact ⟨a1,a2,a3⟩
 ·obtain ⟨⟨⟨⟨⟨a1,a2⟩,a3⟩,a4⟩,a5⟩,a6⟩:=h3 _ (ml e)
  have e':some D=some D':=e'
  cases e'
  exact ⟨a4,a5,h1,h2⟩
 ·obtain ⟨⟨⟨⟨⟨a1,a2⟩,a3⟩,a4⟩,a5⟩,a6⟩:=h3 _ (ml e)
  exact (a6 _ (ml e')).elim (fun z=>absurd z n) id
end LD
namespace LD
open PySem PySem.Spec PySem.Calls PyProof.Rows
section
variable {prog:Mc}{w:Me}{A:MK}{E:LI->LM->Prop}{h:Heap}{g:Array GenState}{d:Drawn}{t:Nat}{os:MD}
variable {nm q:Str}{C N:Addr}{bs bm:List LI}{hdct:Bool}{sn:List Str}{sub:List LI}{ab:Bool}{col:Option Bool}{dd:Option Addr}{k0 k1 k2 k3 k5:Option LI}
theorem AD {e:Addr}{oe:Obj}{vs:Array LI}{u:LI}{Q:LI->LM->Prop}(hC:h.get? C=some (excClassObj nm q C N bs bm hdct sn sub ab col dd k0 k1 k2 k3 k5 "ValueError.__new__"))(T:OwnTail h lM bm)
 (he:h.get? e=some oe) (hcls:oe.cls=.ref C) (hd:oe.data=.fields vs) {t0:Addr} (h0:vs[0]?=some (.ref t0))
 (hq:∀h' tp,(∀b o,b≠e->h.get? b=some o->h'.get? b=some o)->h'.get? e=some (oe.mapFields (·.setIfInBounds 0 (.ref tp)))->Q .none ⟨h',g,d,t,os⟩) :
 wpAny (model prog w) A (call (.builtin "ValueError.__init__") [.ref e,u]) Q E ⟨h,g,d,t,os⟩:=by
 refine wpAny_call (codeAny_call_builtin PySem.F.excBase_ValueError.init.plain PySem.F.excBase_ValueError.initEntry (wpAny_check_init_subT PySem.F.excBase_ValueError T hC he hcls ?_))
 wp_walk
 have he2:(h.push {cls:=.type "tuple",data:=.seq #[u]}).get? e=some oe:=LK _ he
 rw [hd]
 refine tqb ?_
 rw [h0]
 refine tqb ?_
 refine tqa (wpAny_setField he2 hd (MN.mp h0).1 ?_)
 wp_walk
 refine hq _ h.objs.size (fun b o hb e'=>?_) ?_
 ·rw [MM _ _ (MR hb)];exact LK _ e'
 ·exact Nj _ he2 (NN (Nc hd _))
end
noncomputable def km:List LI->Bool
 |.ref _::r=>km r
 |l=>l==lM
theorem rP (self:LI):∀{l:List LI},km l=true->refuseLoop self "__setattr__" l=pure ()
 |[],e=>absurd e (by decide)
 | a :: r, e => by
   cases a with
   |ref c=>rw [refuseLoop_ref];exact rP self e
   | _ =>
     have q:=eq_of_beq (show (_::r==lM)=true from e)
     rw [q];exact PySem.F.store_ValueError.passes self
noncomputable def qK (K:LH)(C:Addr):Bool:=(PySem.W.clsIn K C).any (fun cd=>km cd.mro)&&PySem.W.mroIn K C (.type "object")==some true
theorem Ir {prog:Mc}{w:Me}{A:MK}{R:Result->LM->Prop}{s:LM}{K:LH}{x C:Addr}{ox:Obj}{od:Option Obj}{name:Str}{tk:Tok}{v:LI}(X:K.In s.heap)(J:PySem.W.InstAt s.heap x ox C od)(hp:qK K C=true)(ht:PySem.W.takerIn K C name=some none)
 (h:∀b,wpAny (model prog w) A.in1 (Builtin.ObjectAttr.storeInOwnDict (.ref x) (.ref C) (.str name tk) name v b) (fun fin s'=>match fin with|.done f=>R (.ok f) s'|.again c'=>c'.quiet=true/\codeAny (model prog w) A c' R s') (fun e s'=>R (.error e) s') s) :
 codeAny (model prog w) A (.call (.builtin "object.__setattr__") ⟨[.ref x,.str name tk,v],[]⟩) R s:=by
 unfold qK at hp
 rw [LN,beq_iff_eq] at hp
 obtain ⟨cd,hc,ho⟩:=PySem.W.any_some hp.1
 have G:=PySem.F.store_ValueError
 have ho:km cd.mro=true:=ho
 have e0:PySem.W.Looks (model prog w) s.heap (isInstance (.ref x) (.type "object")) true:=J.type.andThen (PySem.W.looks_mroIn X hp.2)
 obtain ⟨at',ha,hr⟩:=Na.mp ht
 have e1:PySem.W.Looks (model prog w) s.heap (mroOf (.ref C)) cd.mro:=(PySem.W.looks_clsIn X hc).andThen .now
 have e2:PySem.W.Looks (model prog w) s.heap (Builtin.ObjectAttr.storeTaker? at') none:=by
  cases at' with
  |none=>exact .now
  | some a =>
    obtain ⟨b,hb,hn⟩:=Mq.mp hr
    cases b with
    |true=>cases hn
    |false=>exact (PySem.W.looks_takesIn X hb).andThen .now
 refine codeAny_call_builtin PySem.F.store_object.slot.plain G.entry (@PySem.W.check_slot (model prog w) _ _ s "object.__setattr__" "object" "__setattr__" (.ref x) [.str name tk,v] [] _ G.kind G.split e0 (G.args (.ref x) (.str name tk) v) ?_)
 rw [PySem.W.osa_eq]
 refine tqa ?_
 rw [refuse_eq]
 refine tqa (J.type.here (tqa (e1.here ?_)))
 rw [rP _ ho]
 exact tqb (tqa (J.type.here (tqa ((PySem.W.looks_findIn X ha).here (tqa (e2.here (h _)))))))
theorem D4 {prog:Mc}{w:Me}{A:MK}{E:LI->LM->Prop}{s:LM}{K:LH}{x C:Addr}{ox:Obj}{name:Str}{v:LI}{vs:Array LI}{Q:Unit->LM->Prop}(X:K.In s.heap)(J:PySem.W.InstAt s.heap x ox C none)
 (hs:PySem.W.findIn K (.ref C) "__setattr__"=some (some (.builtin "object.__setattr__"))) (hp:qK K C=true) (ht:PySem.W.takerIn K C name=some none) (hh:PySem.W.hasDictIn K C=true) (hd:ox.data=.fields vs)
 (h:∀h' d,s.heap.objs.size<=d->h'.Ns1 d (fun y=>if y=name then some v else none)->h'.get? x=some {ox with dict:=some d}->(∀b o,b≠x->s.heap.get? b=some o->h'.get? b=some o)->Q () {s with heap:=h',toks:=s.toks+2}) :
 wpAny (model prog w) A (setAttr (.ref x) name v) Q E s:=by
 refine PySem.W.set_plain X J hs (Ir (s:={s with toks:=s.toks+1}) X J hp ht fun b=>?_)
 obtain ⟨cd,hc,hd'⟩:=PySem.W.any_some hh
 have hx:=J.at_
 obtain ⟨oc,odi,oda,osl⟩:=ox
 obtain rfl:oc=.ref C:=J.cls
 obtain rfl:oda=.fields vs:=hd
 have hdi:odi=none:=by
  have:=J.dict
  cases odi with
  |none=>rfl
  |some d=>exact this.elim
 subst hdi
 refine tqa (tqb (tqa (tqa (wpAny_loadPart hx (tqa (PySem.W.Looks.here (s:={s with toks:=s.toks+1}) (PySem.W.looks_clsIn X hc) ?_))))))
 rw [hd']
 show wpAny _ _ (alloc {cls:=.type "dict",data:=.dict #[]} >>= fun d=>update x (fun o=>{o with dict:=some d}) >>= fun _=>(pure (some d):Sem (Option Addr))) _ _ _
 refine tqa (wpAny_alloc ?_)
 have hx2:(s.heap.push {cls:=.type "dict",data:=.dict #[]}).get? x=some ⟨.ref C,none,.fields vs,osl⟩:=LK _ hx
 refine tqa (wpAny_update hx2 (tqb ?_))
 have hdx:s.heap.objs.size≠x:=MU (L4 hx)
 have e1:(s.heap.push {cls:=.type "dict",data:=.dict #[]}).get? s.heap.objs.size=some {cls:=.type "dict",data:=.dict #[]}:=L6 s.heap rfl
 have e2:((s.heap.push {cls:=.type "dict",data:=.dict #[]}).update x (fun o=>{o with dict:=some s.heap.objs.size})).get? s.heap.objs.size=some {cls:=.type "dict",data:=.dict #[]}:=(MM _ _ (MR hdx)).trans e1
 have e3:((s.heap.push {cls:=.type "dict",data:=.dict #[]}).update x (fun o=>{o with dict:=some s.heap.objs.size})).Ns s.heap.objs.size (fun _=>none):=⟨_,#[],_,e2,rfl,(fun e he=>absurd he (by simp)),fun _=>rfl⟩
 have e4:=Nj (fun o=>{o with dict:=some s.heap.objs.size}) hx2 rfl
 refine tqa (tqb (tqa ?_))
 refine wpAny_nsSet1 (Heap.Ns1.of_empty e3) fun h' hn2 hs2=>?_
 obtain ⟨oD,esD,epD,hoD,hdD,hcD⟩:=hn2.count (PySem.Within.cons name v PySem.Within.nil)
 refine tqa (wpAny_lookBehind hoD (by rw [hdD];exact pastItsLine_dict (LR hcD (by show 1<=sizeLine+1;omega))) ?_)
 refine tqb (h _ s.heap.objs.size (LP _) hn2 ((hs2.2 _ (MR hdx)).trans e4) fun b o hb e=>?_)
 rw [hs2.2 b (MA (L4 e)),MM _ _ (MR hb)]
 exact LK _ e
end LD
namespace LD
open PySem PySem.Spec PyProof.Rows L2
noncomputable def fit (z:Str)(i:Int)(y:Str):Prop:=i.natAbs.log2<1920/\(z++(toString i:Str)).length<=sizeLine/\(z++(toString i:Str)++y).length<=sizeLine
section
variable {X:Cx}{a:Expr}{ta:TE}{pos p1 p2 p3:Pos}{j j2:Nat}{z y:Str}
noncomputable def Jz (z y:Str)(ta:TE):TE:=fun σ H Q=>z.length<=sizeLine/\ta σ H fun v H1=>∃i,v=.int i/\fit z i y/\Q (.str (z++(toString i:Str)++y)) H1
theorem qB (z:Str):Str.empty++z=z:=by
 cases z with
 |mk c=>show Str.mk (#[]++c)=_;simp
theorem vL (z:Str):z++Str.empty=z:=by
 cases z with
 |mk c=>show Str.mk (c++#[])=_;simp
theorem Im (ha:PE X a ta):PE X (.JoinedStr [.Constant (.str z) j p1,.FormattedValue a (-1) none p2,.Constant (.str y) j2 p3] pos) (Jz z y ta):=by
 intro pins s σ H Q I ⟨hz,h⟩
 refine JoinedStr_many (joinParts_cons (Calls.Constant_str ?_))
 show (Str.empty++z).length<=sizeLine/\_
 rw [qB]
 refine ⟨hz,joinParts_cons (FormattedValue_plain (aO (ha pins _ σ H _ (I.tok _) h) fun u s1 ⟨v,H1,I1,r1,i,ev,⟨f1,f2,f3⟩,q⟩=>?_))⟩
 subst ev
 obtain ⟨t,rfl⟩:=r1
 refine formatField_int_small f1 ⟨f2,joinParts_cons (Calls.Constant_str ⟨f3,joinParts_nil ?_ f3⟩)⟩
 exact ⟨.str _,H1,I1.tok _,⟨_,rfl⟩,q⟩
theorem Io (ha:PE X a ta):PE X (.JoinedStr [.Constant (.str z) j p1,.FormattedValue a (-1) none p2] pos) (Jz z Str.empty ta):=by
 intro pins s σ H Q I ⟨hz,h⟩
 refine JoinedStr_many (joinParts_cons (Calls.Constant_str ?_))
 show (Str.empty++z).length<=sizeLine/\_
 rw [qB]
 refine ⟨hz,joinParts_cons (FormattedValue_plain (aO (ha pins _ σ H _ (I.tok _) h) fun u s1 ⟨v,H1,I1,r1,i,ev,⟨f1,f2,f3⟩,q⟩=>?_))⟩
 subst ev
 obtain ⟨t,rfl⟩:=r1
 refine formatField_int_small f1 ⟨f2,joinParts_nil ?_ f2⟩
 have e:z++(toString i:Str)++Str.empty=z++(toString i:Str):=by
  exact vL _
 rw [e] at q
 exact ⟨.str _,H1,I1.tok _,⟨_,rfl⟩,q⟩
end
noncomputable def d4 (C:Addr)(dx:Option Addr)(a:Addr)(h:Heap):Prop:=∃o vs t0,h.get? a=some o/\o.cls=.ref C/\o.dict=dx/\o.data=.fields vs/\vs[0]?=some (.ref t0)/\vs[1]?=some .none
noncomputable def jX (K:LH)(C:Addr)(fI:Addr):Bool:=E6 K C fun cd C' bm n=>C'==C&&n=="ValueError.__new__"&&!cd.hasDel&&PySem.W.tailIn K lM bm&&PySem.W.nsOkIn K cd.ns&&PySem.W.nsIn K cd.ns "__init__"==some (some (.ref fI))
theorem u3 {K:LH}{h:Heap}{N:Addr}{x:Str}{v:LI}{mg:Str->Option LI}(X:K.In h)(G:h.Ns N mg)(e:PySem.W.nsIn K N x=some (some v)):mg x=some v:=by
 obtain ⟨o,es,ep,ho,hd,_,hf⟩:=G
 unfold PySem.W.nsIn at e
 split at e
 ·rename_i c d es' n' sl q
  have:=X _ _ q
  rw [ho] at this
  cases this
  cases hd
  split at e
  ·rename_i en he
   cases e
   rw [<- hf]
   unfold nsFind findBy
   rw [<- Array.find?_toList,he]
   rfl
  ·split at e<;>cases e
 ·cases e
theorem lF {K:LH}{h:Heap}{C fI:Addr}(X:K.In h)(q:jX K C fI=true) :
 ∃bm N nm q bs hdct sn sub ab col dd k0 k1 k2 k3 k5 mN,h.get? C=some (excClassObj nm q C N bs bm hdct sn sub ab col dd k0 k1 k2 k3 k5 "ValueError.__new__")/\h.Ns N mN/\mN "__init__"=some (.ref fI)/\OwnTail h lM bm:=by
 obtain ⟨bm,ns,nm,qn,bs,hd,sn,sub,ab,col,dd,k0,k1,k2,k3,k5,dl,n,C',q,ho⟩:=wW X q
 simp only [LN,beq_iff_eq,NH] at q
 obtain ⟨⟨⟨⟨⟨rfl,rfl⟩,rfl⟩,ht⟩,hok⟩,hni⟩:=q
 exact ⟨bm,ns,nm,qn,bs,hd,sn,sub,ab,col,dd,k0,k1,k2,k3,k5,_,ho,.of_isNs (PySem.W.isNs_of_in X hok),u3 X (.of_isNs (PySem.W.isNs_of_in X hok)) hni,PySem.W.tail_of_in X ht⟩
theorem yN {H:Hp}{a:Addr}{o:HO}(h:H a=some o):upd H a o=H:=by
 funext b
 unfold upd
 split
 ·next e=>rw [e,h]
 ·rfl
section
variable {X:Cx}{a b:Expr}{ta tb:TE}{apos cpos p1 pos:Pos}{x:Str}{D:Addr}
noncomputable def Ka (K:LH)(ta tb:TE):TE:=fun σ H Q=>ta σ H fun v H1=>tb σ H1 fun u H2=>∃e C fI,v=.ref e/\H2 e=some (.ext (d4 C none e))/\jX K C fI=true/\Q .non H2
theorem oN {P:Mc}{w:Me}{H:Hp}{h:Heap}{C e:Addr}{dx:Option Addr}(x:d4 C dx e h):cj P w H h e (.ext (d4 C dx e)):=by
 refine ⟨x,let ⟨o,_,_,e,_⟩:=x;⟨o,e⟩,fun g1 g2 ⟨o,vs,t0,k1,k2⟩ kk=>⟨o,vs,t0,kk o k1,k2⟩⟩
theorem FV {pl:Sem Bool}(hD:X.mg x=some (.ref D))(hg:Gl X x)(h1:PySem.W.readsIn X.K D (.type "type")=true)(h2:PySem.W.findCls X.K (.ref D) (.type "type") "__init__"=some (.val (.builtin "ValueError.__init__")))
 (h3:PySem.W.specialIn X.K (.ref D) "__getattribute__"=some (some (.builtin "type.__getattribute__"))) (ha:PE X a ta) (hb:PE X b tb) (he:notStar a=true) (he2:notStar b=true) (hdb:(x==("__debug__":Str))=false)
 (ht:eval (.Call (.Attribute (.Name x p1) "__init__" apos) [a,b] [] cpos) X.env=(do
  let ov <- eval (.Name x p1) X.env
  standAt apos.atName
  let (f,first) <- holding [ov] (getMethod ov "__init__" pl)
  callWith cpos f first (backTo cpos (starEach [a,b] X.env)) (backToKw cpos (keywordEach [] X.env)))) :
 PE X (.Call (.Attribute (.Name x p1) "__init__" apos) [a,b] [] cpos) (Ka X.K ta tb):=by
 intro pins s σ H Q I h
 refine PySem.W.methodCall_KW (pl:=pl) (fW I hg hD ?_ hdb) ht
 refine PySem.W.method_cls I.kIn h3 (PySem.W.cls_value I.kIn h1 h2 rfl ?_)
 refine Calls.callWith_builtin (cm (es:=[a,b]) (by simp [he,he2])) ?_
 have ar:=aO ((cK ha (cK hb fD (bh he2)) (bh he)) cpos pins {s with toks:=s.toks+1} σ H (fun vs H2=>match vs with|[v,u]=>∃e C fI,v=.ref e/\H2 e=some (.ext (d4 C none e))/\jX X.K C fI=true/\Q .non H2|_=>False) (I.tok _) h) (Q':=fun us s2=>wpAny (model X.prog X.w) X.A (call (.builtin "ValueError.__init__") ([]++us) []) (EP X pins σ Q) X.xe s2) fun us s1 ⟨vs,H1,I1,r,hq⟩=>by
  match vs,r,hq with
  |[],_,hq=>exact hq.elim
  |[_],_,hq=>exact hq.elim
  |_::_::_::_,_,hq=>exact hq.elim
  | [v, u], r, ⟨e, C, fI, ev, hH, hx, q⟩ =>
    subst ev
    obtain ⟨w1,w2,rfl,r1,r2⟩:=vals2 r
    obtain rfl:w1=Value.ref e:=r1
    obtain ⟨⟨o,vs,t0,k1,k2,k3,k4,k5,k6⟩,_,_⟩:=I1.hok e _ hH
    obtain ⟨bm,N,nm,qq,bs,hdct,sn,sub,ab,col,dd,c0,c1,c2,c3,c5,mN,hC,hN,hni,T⟩:=lF I1.kIn hx
    obtain ⟨hp,gg,dr,tk,os⟩:=s1
    refine AD hC T k1 k2 k4 k5 fun h' tp kk ke=>?_
    have nw:d4 C none e h':=⟨_,_,tp,ke,by rw [Obj.cls_mapFields];exact k2,by rw [lI];exact k3,Nc k4 _,by simp [(MN.mp k5).1],by rw [Array.getElem?_setIfInBounds_ne (by decide)];exact k6⟩
    have I2:=I1.write (x:=e) (e:=e) (o:=.ext (d4 C none e)) (h':=h') (t':=tk) (by rw [hH];exact True.intro) (.inl rfl) (fun b u hb z=>kk b u hb z) ⟨_,ke⟩ (oN nw)
    rw [yN hH] at I2
    exact ⟨.non,H1,I2,rfl,q⟩
 rw [bh he] at ar ⊢
 exact PySem.Calls.evalArgs_plain ar
end
noncomputable def setIn (K:LH)(C:Addr)(fld:Str):Bool:=PySem.W.findIn K (.ref C) "__setattr__"==some (some (.builtin "object.__setattr__"))&&qK K C&&PySem.W.takerIn K C fld==some none&&PySem.W.hasDictIn K C
section
variable {X:Cx}{o value:Expr}{to tv:TE}{p' pos:Pos}{fld:Str}
noncomputable def HS (K:LH)(tv to:TE)(fld:Str):TS:=fun D σ H=>tv σ H fun y H1=>to σ H1 fun x H2=>∃e C i,x=.ref e/\y=.int i/\H2 e=some (.ext (d4 C none e))/\setIn K C fld=true/\∀d,H2 d=none->d≠e->D.nx σ (upd (upd H2 d (.xd [(fld,.int i)])) e (.ext (d4 C (some d) e)))
theorem Dl (ho:PE X o to)(hv:PE X value tv)(hs:swapsWith value (some (.Attribute o fld p')) pos.line X.env=pure false):PS X (.Assign [.Attribute o fld p'] value pos) (HS X.K tv to fld):=by
 intro pins s σ H D I h
 refine plainObj_wpAny_Assign_Attribute (aO (hv pins s σ H _ I h) fun u s1 ⟨y,H1,I1,ry,q⟩=>aO (ho pins s1 σ H1 _ I1 q) fun ov s2 ⟨x,H2,I2,rx,e,C,i,ex,ey,hH,hset,q2⟩=>?_) hs
 subst ex ey
 obtain rfl:ov=Value.ref e:=rx
 obtain ⟨t,rfl⟩:=ry
 simp only [setIn,LN,beq_iff_eq] at hset
 obtain ⟨⟨⟨g1,g2⟩,g3⟩,g4⟩:=hset
 obtain ⟨⟨ob,vs,t0,k1,k2,k3,k4,k5,k6⟩,_,_⟩:=I2.hok e _ hH
 have IA:PySem.W.InstAt s2.heap e ob C none:=⟨k1,k2,by unfold PySem.W.notCls;rw [k4],by rw [k3];trivial⟩
 refine D4 I2.kIn IA g1 g2 g3 g4 k4 fun h' d hd hns hx' kk=>?_
 have hd0:H2 d=none:=I2.hok.fresh hd
 have hde:d≠e:=fun z=>by rw [z,hH] at hd0;cases hd0
 have lt:∀b o,s2.heap.get? b=some o->b≠d:=fun b o q z=>absurd (L4 q) (by rw [z];exact Nat.not_lt.mpr hd)
 have ne:∀b,H2 b=none->b≠e:=fun b q z=>by rw [z,hH] at q;cases q
 have up:∀b,b≠d->b≠e->upd (upd H2 d (.xd [(fld,.int i)])) e (.ext (d4 C (some d) e)) b=H2 b:=fun b z1 z2=>by rw [ax z2,ax z1]
 have nd:∀b u,H2 b=some u->b≠d:=fun b u q=>aN q hd0
 refine ⟨σ,_,I2.un (h':=h') (t':=s2.toks+2) (H':=upd (upd H2 d (.xd [(fld,.int i)])) e (.ext (d4 C (some d) e))) ⟨fun b o q n _ _=>kk b o (ne b n) q,fun b o q n _ _=>⟨o.slots,kk b o (ne b n) q⟩,fun b o q n _=>?_,fun b o q _=>?_,fun b xs q=>?_,fun b o u q=>?_,fun b ps q=>⟨#[],?_⟩⟩ fun b u q=>?_,q2 d hd0 hde⟩
 ·rw [up b (lt b o q) (ne b n)];exact n
 ·by_cases z:b=e
  ·exact ⟨_,by rw [z];exact hx'⟩
  ·exact ⟨o,kk b o z q⟩
 ·rw [up b (nd b _ q) (fun z=>by rw [z,hH] at q;cases q)];exact q
 ·rw [up b (nd b _ q) (fun z=>by rw [z,hH] at q;cases q)];exact q
 ·rw [up b (nd b _ q) (fun z=>by rw [z,hH] at q;cases q)];simpa using q
 ·by_cases z:b=e
  ·subst z
   rw [bt] at q;cases q
   exact oN ⟨_,vs,t0,hx',k2,rfl,k4,k5,k6⟩
  ·by_cases z2:b=d
   ·subst z2
    rw [ax hde,bt] at q;cases q
    refine ⟨_,hns,fun f=>?_⟩
    by_cases hf:f=fld
    ·subst hf
     simp only [Mm,beq_self_eq_true,if_true]
     exact ⟨t,rfl⟩
    ·rw [if_neg hf]
     have:([(fld,V.int i)]:List (Str×V)).lookup f=none:=by simp [Mm,Mx.mpr hf]
     rw [this];trivial
   ·rw [up b z2 z] at q
    refine (I2.hok b u q).stay (fun c v hc w=>kk c v ?_ w) (fun c w=>?_) fun c xs w=>?_
    ·rcases hc with hc|hc
     ·rw [hc];exact z
     ·intro y;rw [y,hH] at hc;cases hc
    ·rw [up c (nd c _ w) (fun y=>by rw [y,hH] at w;cases w)];exact w
    ·rw [up c (nd c _ w) (fun y=>by rw [y,hH] at w;cases w)];exact w
end
end LD
namespace LD
open PySem PySem.Spec PyProof.Rows
section
variable {prog:Mc}{w:Me}{A:MK}{E:LI->LM->Prop}{h:Heap}{g:Array GenState}{d:Drawn}{t:Nat}{os:MD}
variable {nm q:Str}{C N:Addr}{bs bm:List LI}{hdct:Bool}{sn:List Str}{sub:List LI}{ab:Bool}{col:Option Bool}{dd:Option Addr}{k0 k1 k2 k3 k5:Option LI}
theorem qD {mN:Str->Option LI}{rest:List LI}{fI:Addr}{oI:Obj}{Q:Fin->LM->Prop}
 (hC:h.get? C=some (excClassObj nm q C N bs bm hdct sn sub ab col dd k0 k1 k2 k3 k5 "ValueError.__new__")) (T:OwnTail h lM bm) (hn:h.Ns N mN) (hi:mN "__init__"=some (.ref fI)) (hfI:h.get? fI=some oI) (hfc:oI.cls=.type "function")
 (hq:∀h' e,Heap.MadeExcOf h h' e (.ref C) rest->wpAny (model prog w) A (call (.ref fI) (.ref e::rest)) (fun r s'=>r=.none/\Q (.done (.ret (.ref e))) s') E ⟨h',g,d,t,os⟩) (hrest:rest.length<=sizeLine) :
 wpAny (model prog w) A (Builtin.«type.__call__» ⟨.ref C::rest,[]⟩) Q E ⟨h,g,d,t,os⟩:=by
 have F:=PySem.F.excBase_ValueError
 repeat (first|with_reducible refine wpAny_loadPart_at hC ?_|with_reducible refine wpAny_madeBy_exc hC ?_|wp_step)
 refine codeAny_call_builtin_code (Code.quiet_builtin _ F.quiet) (wpAny_check_new_subT F T hC ?_)
 refine codeAny_exc_new_subT F T hC ?_ hrest
 show wpAny _ _ _ _ _ _
 have kp:∀b o,h.get? b=some o->((h.push {cls:=.type "tuple",data:=.seq rest.toArray}).push {cls:=.ref C,data:=.fields #[.ref h.objs.size,.none,.none,.none,.bool false,.none]}).get? b=some o:=fun b o hb=>LK _ (LK _ hb)
 have hC₁:=kp _ _ hC
 have hfI₁:=kp _ _ hfI
 have hn₁:=hn.keeps kp
 have T₁:=T.keeps kp
 have hget:((h.push {cls:=.type "tuple",data:=.seq rest.toArray}).push {cls:=.ref C,data:=.fields #[.ref h.objs.size,.none,.none,.none,.bool false,.none]}).get? (h.objs.size+1)=some {cls:=.ref C,data:=.fields #[.ref h.objs.size,.none,.none,.none,.bool false,.none]}:=by heap_get
 have hcC:(Value.ref C::bm).contains (.ref C)=true:=by simp
 unfold isInstance
 repeat (first|with_reducible refine wpAny_loadPart_at hget ?_|(with_reducible refine wpAny_isSubtype_exc hC₁ ?_;rw [hcC])|wp_step)
 show wpAny _ _ (typeLookup (.ref C) _) _ _ _
 refine wpAny_typeLookup_tail hC₁ hn₁ T₁ F.mroIs F.init.lookup ?_
 rw [hi]
 refine tqo (tqa ?_)
 unfold bindSpecial
 refine tqa (wpAny_typeOf (T:="function") ⟨_,hfI₁,hfc⟩ ?_)
 rw [if_pos (by decide)]
 refine tqb (tqa (wpAny_mono (hq _ (h.objs.size+1) ⟨kp,Heap.get?_none_of_le (NI _),h.objs.size,hget,Heap.get?_none_of_le (LP _),?_⟩) (fun r s' hr=>?_) fun _ _ x=>x))
 ·exact LK _ (Heap.get?_push_at rfl rfl)
 ·obtain ⟨rfl,hQ⟩:=hr
  wp_walk
  exact hQ
theorem yx {mN:Str->Option LI}{rest:List LI}{fI:Addr}{oI:Obj}{Q:LI->LM->Prop}
 (hC:h.get? C=some (excClassObj nm q C N bs bm hdct sn sub ab col dd k0 k1 k2 k3 k5 "ValueError.__new__")) (T:OwnTail h lM bm) (hn:h.Ns N mN) (hi:mN "__init__"=some (.ref fI)) (hfI:h.get? fI=some oI) (hfc:oI.cls=.type "function")
 (hq:∀h' e,Heap.MadeExcOf h h' e (.ref C) rest->wpAny (model prog w) (A.under (.builtin "type.__call__" ⟨.ref C::rest,[]⟩)) (call (.ref fI) (.ref e::rest)) (fun r s'=>r=.none/\Q (.ref e) s') E ⟨h',g,d,t,os⟩) (hrest:rest.length<=sizeLine) :
 wpAny (model prog w) A (call (.ref C) rest) Q E ⟨h,g,d,t,os⟩:=by
 have f1:=tc_lookup
 have f2:=tc_bind (.ref C)
 have hT:(⟨h,g,d,t,os⟩:LM).TypeIs (.ref C) "type":=⟨_,hC,rfl⟩
 refine wpAny_call (codeAny_of_tree ?_)
 show wpAny _ _ (callAny (.ref C) _) _ _ _
 repeat (any_goals (first|assumption|with_reducible refine wpAny_loadPart_at hC ?_|wp_step))
 refine ⟨rfl,?_⟩
 refine codeAny_call_builtin_at (Code.quiet_builtin _ (by decide +kernel)) entry_typeCall (wpAny_check_type_call_sub hC (qD hC T hn hi hfI hfc (fun h' e hm=>?_) hrest))
 exact hq h' e hm
end
end LD
namespace LD
open PySem PySem.Spec PyProof.Rows L2
noncomputable def Ci (x m:Str)(a b:Expr)(p1 apos cpos:Pos)(env:Mw):Prop:=∃pl,eval (.Call (.Attribute (.Name x p1) m apos) [a,b] [] cpos) env=(do
 let ov <- eval (.Name x p1) env
 standAt apos.atName
 let (f,first) <- holding [ov] (getMethod ov m pl)
 callWith cpos f first (backTo cpos (starEach [a,b] env)) (backToKw cpos (keywordEach [] env)))
noncomputable def JC (C:Addr)(fld:Str):Sp:=fun vs H Q _=>∃e i,vs=[.ref e,.int i]/\H e=some (.ext (d4 C none e))/\i.natAbs<2^64/\∀d,H d=none->d≠e->Q .non (upd (upd H d (.xd [(fld,.int i)])) e (.ext (d4 C (some d) e)))
theorem len_app (a b:Str):(a++b).length=a.length+b.length:=by
 show (Str.append a b).length=_
 unfold Str.append Str.length
 simp
theorem yg {z y:Str}{i:Int}(hz:z.length<=1000)(hy:y.length<=1000)(hi:i.natAbs<2^64):fit z i y:=by
 have h1:i.natAbs.log2<1920:=by
  by_cases h0:i.natAbs=0
  ·rw [h0];decide
  ·exact L5 ((Nat.log2_lt h0).mpr hi) (by omega)
 have h2:((toString i:Str)).length<=1921:=PyProof.Rows.int_text_len_1921 h1
 have hs:sizeLine=16777216:=cX.symm
 refine ⟨h1,?_,?_⟩
 ·rw [len_app];omega
 ·rw [len_app,len_app];omega
section
variable {P:Mc}{w:Me}{K:LH}{mg:Str->Option LI}{base:Heap}{qual y fld z:Str}{st:Stmt}{f C D fI:Addr}{fd:NV}{p1 p2 p3 p4 p5 p6 p7 p8 p9 p10 p11 p12 p13:Pos}{j:Nat}
theorem GQ (F:oK K "__init__" qual st f fd)(S:gj ["self",y] ["self",y] (aM st))
 (hb:cz st=[.Expr (.Call (.Attribute (.Name "DeedError" p1) "__init__" p2) [.Name "self" p3,.JoinedStr [.Constant (.str z) j p4,.FormattedValue (.Name y p5) (-1) none p6] p7] [] p8) p9,.Assign [.Attribute (.Name "self" p10) fld p11] (.Name y p12) p13])
 (hev:∀L cd,Ci "DeedError" "__init__" (.Name "self" p3) (.JoinedStr [.Constant (.str z) j p4,.FormattedValue (.Name y p5) (-1) none p6] p7) p1 p2 p8 (envOfC qual (aM st) L f cd))
 (hz:z.length<=1000) (hyd:(y==("__debug__":Str))=false) (hyc:(y==("__classdict__":Str))=false) (v0:(aM st).names.lookup ("self":Str)=some .local) (v1:(aM st).names.lookup y=some .local)
 (hg:∀L cd,(envOfC qual (aM st) L f cd).kindOf "DeedError"=some .globalImplicit) (hD:mg "DeedError"=some (.ref D)) (h1:PySem.W.readsIn K D (.type "type")=true) (h2:PySem.W.findCls K (.ref D) (.type "type") "__init__"=some (.val (.builtin "ValueError.__init__")))
 (h3:PySem.W.specialIn K (.ref D) "__getattribute__"=some (some (.builtin "type.__getattribute__"))) (hC:jX K C fI=true) (hset:setIn K C fld=true):fU P w K mg base (fH P w) 1 f fd ["self",y] (JC C fld):=by
 refine pj F S (fun vs H Q E ⟨e,i,ev,_⟩=>by rw [ev];rfl) fun cdv A outer s H vs Q E hr ⟨e,i,ev,hH,hi,q⟩=>?_
 subst ev
 rw [hb]
 have V0:qC (eB (fH P w) P w K mg base ["self",y] qual (aM st) f cdv A outer s H E).env.scope "self":=.inl v0
 have V1:qC (eB (fH P w) P w K mg base ["self",y] qual (aM st) f cdv A outer s H E).env.scope y:=.inl v1
 have a0:∀p,PE (eB (fH P w) P w K mg base ["self",y] qual (aM st) f cdv A outer s H E) (.Name "self" p) (zg 0):=fun p=>nV (i:=0) rfl V0
 have a1:∀p,PE (eB (fH P w) P w K mg base ["self",y] qual (aM st) f cdv A outer s H E) (.Name y p) (zg 1):=fun p=>nV (i:=1) rfl V1 hyd hyc
 obtain ⟨pl,hev⟩:=hev s.heap.objs.size cdv
 refine ⟨_,m8 (lW (FV (pl:=pl) hD (hg _ _) h1 h2 h3 (a0 p3) (Io (a1 p5)) rfl rfl rfl hev) rfl) (m8 (Dl (a0 p10) (a1 p12) rfl) t7),?_⟩
 refine ⟨.ref e,rfl,LR hz (by rw [<- cX];decide),.int i,rfl,i,rfl,yg hz (by decide) hi,e,C,fI,rfl,hH,hC,?_⟩
 exact ⟨.int i,rfl,.ref e,rfl,e,C,i,rfl,rfl,hH,hset,fun d hd hde=>q d hd hde⟩
end
end LD
namespace LD
open PySem PySem.Spec PyProof.Rows L2
noncomputable def j4 (fa:Fa)(P:Mc)(w:Me)(K:LH)(mg:Str->Option LI)(base:Heap)(c:Nat)(x:Str):Prop:=
 ∃C fI fd y oI,mg x=some (.ref C)/\fa (eP c)=some C/\jX K C fI=true/\PySem.W.keepIn K (.ref C)=true/\K.lookup fI=some oI/\oI.cls=.type "function"/\Binds K fd ["self",y] []/\fU P w K mg base (fH P w) 1 fI fd ["self",y] (JC C (gk c))
section
variable {X:Cx}{pins:List (Addr×Obj)}{σ:L2.St}{H H0:Hp}{s:LM}{fa:Fa}
theorem tG {a:Addr}{φ:Heap->Prop}(I:Inv X pins σ H s)(ha:H a=some (.ext φ))(hH:∀b,b≠a->H0 b=H b)(hz:H0 a=none):Inv X pins σ H0 s:=by
 have nn:∀b,H b=none->b≠a:=fun b q z=>by rw [z,ha] at q;cases q
 have no:∀b u,H b=some u->(∀φ,u≠.ext φ)->H0 b=some u:=fun b u q n=>by
  rw [hH b (fun z=>by rw [z,ha] at q;cases q;exact n _ rfl)];exact q
 refine ⟨I.ok,I.os,I.bare,⟨I.base.keep,I.base.slot,fun b o e n hx=>?_,I.base.there,fun b xs e=>?_,fun b o u e=>?_,fun b ps e=>?_⟩,I.loc,I.cell,?_,fun x c e=>?_,fun p hp'=>?_,fun b u e=>?_,I.len⟩
 ·have q:=I.base.free b o e n hx
  rw [hH b (nn b q)];exact q
 ·exact no _ _ (I.base.tups b xs e) (fun _ z=>nomatch z)
 ·exact no _ _ (I.base.frzs b o u e) (fun _ z=>nomatch z)
 ·obtain ⟨m,q⟩:=I.base.tbls b ps e
  exact ⟨m,no _ _ q (fun _ z=>nomatch z)⟩
 ·rw [hH _ (nn _ I.free)];exact I.free
 ·rw [hH _ (nn _ (I.freeC x c e))];exact I.freeC x c e
 ·obtain ⟨e,n,r⟩:=I.pin p hp'
  exact ⟨e,by rw [hH _ (nn _ n)];exact n,r⟩
 ·by_cases hb:b=a
  ·rw [hb,hz] at e;cases e
  ·rw [hH b hb] at e
   exact (I.hok b u e).stay (fun c v _ q=>q) (fun c q=>no _ _ q (fun _ z=>nomatch z)) fun c xs q=>no _ _ q (fun _ z=>nomatch z)
theorem Gw {c:Nat}{x:Str}{C:Addr}{i:Int}{t:Tok}{Q:LI->LM->Prop}(J:j4 fa X.prog X.w X.K X.mg X.base c x)(hr:bx 2 X.A)(hex:X.ex=[])(I:Inv X pins σ H s)(hC:X.mg x=some (.ref C))(hi:i.natAbs<2^64)
 (h:∀e d s',fa (eP c)=some C->nH X e->H e=none->H d=none->d≠e->Inv X pins σ (upd (upd H d (.xd [(gk c,.int i)])) e (.ext (d4 C (some d) e))) s'->Q (.ref e) s'):wpAny (model X.prog X.w) X.A (call (.ref C) [.int i t]) Q X.xe s:=by
 obtain ⟨C',fI,fd,y,oI,m1,hf,hin,hk,hfI,hfc,hb,F⟩:=J
 rw [hC] at m1
 cases m1
 obtain ⟨bm,N,nm,q,bs,hdct,sn,sub,ab,col,dd,k0,k1,k2,k3,k5,mN,hCo,hN,hni,T⟩:=lF I.kIn hin
 obtain ⟨hp,g,dr,tk,os⟩:=s
 refine yx hCo T hN hni (I.kIn _ _ hfI) hfc (fun h' e hm=>?_) (by rw [<- cX];exact Np rfl)
 obtain ⟨tp,ht,_,_⟩:=hm.there
 obtain ⟨n1,n2⟩:=sD I hex hm.new
 have I1:=I.kept (t':=tk) hm.keeps
 have I2:Inv X pins σ (upd H e (.ext (d4 C none e))) ⟨h',g,dr,tk,os⟩:=xU I1 hex n2 n1.1 ⟨_,_,ht,rfl⟩ (fun p hp z=>by
  have:=(I.pin p hp).1
  rw [z,hm.new] at this;cases this) (oN ⟨_,_,tp,ht,rfl,rfl,rfl,rfl,rfl⟩)
 have hb':=hb ⟨h',g,dr,tk,os⟩ [.ref e,.int i t] I2.kIn rfl
 rw [NW] at hb'
 refine wpAny_call (codeAny_mono (F.run _ X.stack ⟨h',g,dr,tk,os⟩ (upd H e (.ext (d4 C none e))) ⟨[.ref e,.int i t],[]⟩ [.ref e,.int i t] [.ref e,.int i] (fun v H'=>v=.non/\∃d,H d=none/\d≠e/\H'=upd (upd H d (.xd [(gk c,.int i)])) e (.ext (d4 C (some d) e))) (fun _ _ _=>False) (hr.make C [.int i t] []) (I2.env0.make C [.int i t] []) hb' (.cons rfl (.cons ⟨t,rfl⟩ .nil)) ?_) fun r s' hq'=>?_)
 ·refine ⟨e,i,rfl,bt,hi,fun d hd hde=>⟨rfl,d,by rw [ax hde] at hd;exact hd,hde,?_⟩⟩
  funext b
  unfold upd
  split
  ·rfl
  ·split
   ·rfl
   ·rfl
 ·cases r with
  | error e' =>
    obtain ⟨_,_,_,_,_,_,_,_,_,_,z⟩:=hq'
    exact z.elim
  | ok fl =>
    cases fl with
    | ret u =>
      obtain ⟨v,H',I3,rv,ev,d,hd,hde,eH⟩:=I2.after hq'
      subst ev eH
      exact ⟨rv,h e d s' hf n1 n2 hd hde I3⟩
    |next=>exact False.elim hq'
    |brk=>exact False.elim hq'
    |cont=>exact False.elim hq'
end
noncomputable def gMkI (c:Nat)(a:GE):GE:=fun Z M=>(a Z M).bind fun d M=>match d with
 |.int i=>if i.natAbs<2^64 then .ok (.exc c (some i)) M else .bad
 |_=>.bad
noncomputable def jN (c:Nat)(a:GE):GS:=fun Z M=>match a Z M with
 |.ok (.int i) M=>if i.natAbs<2^64 then .ok (.exc (.exc c (some i)) Z) M else .bad
 |_=>.bad
theorem uU {M:Model}{A:MK}{E:LI->LM->Prop}{env:Mw}{nm q:Str}{C N:Addr}{bs bm:List LI}{hdct:Bool}{sn:List Str}{sub:List LI}{ab:Bool}{col:Option Bool}{dd:Option Addr}{k0 k1 k2 k3 k5:Option LI}{newId:String}
 {s:LM}{x:Sem LI}{Q:Flow->LM->Prop} (hbase:bm.contains (.type "BaseException")=true) (hh:A.handled=none)
 (h:wpAny M A x (fun v s₁=>∃e o vs,v=.ref e/\s₁.heap.get? C=some (excClassObj nm q C N bs bm hdct sn sub ab col dd k0 k1 k2 k3 k5 newId)/\s₁.heap.get? e=some o/\o.cls=.ref C/\o.data=.fields vs/\vs[1]?=some .none/\E (.ref e) s₁) E s) :
 wpAny M A (raiseStmt env (some x) none) Q E s:=by
 have hcB:(Value.ref C::bm).contains (.type "BaseException")=true:=by rw [List.contains_cons,hbase,Bool.or_true]
 unfold raiseStmt
 refine tqa (wpAny_mono h (fun v s₁ h₁=>?_) fun _ _ x=>x)
 obtain ⟨e,⟨cl,od,da,sl⟩,vs,rfl,hC,he,hc,hd,h1,hE⟩:=h₁
 obtain rfl:cl=.ref C:=hc
 obtain rfl:da=.fields vs:=hd
 obtain ⟨hp,g,d,tk,os⟩:=s₁
 repeat (first|with_reducible refine wpAny_loadPart_at he ?_|with_reducible refine wpAny_loadPart_at hC ?_|(with_reducible refine wpAny_isSubtype_exc hC ?_;rw [hcB])|(with_reducible refine tqf he rfl h1 ?_)|wp_step)
 exact wpAny_raiseNew_none hh hE
section
variable {fa:Fa}{X:Cx}{a b:Expr}{ga gb:GE}{ta:GT}{pos p np cpos:Pos}{es:List Expr}{gs:GA}{n:Nat}{x:Str}
theorem AF (c:Nat){pins:List (Addr×Obj)}{σ:L2.St}{H:Hp}{s:LM}{Q:LI->LM->Prop}(J:j4 fa X.prog X.w X.K X.mg X.base c x)(hr:bx 2 X.A)(hex:X.ex=[])(hg:Gl X x)(ha:DE fa X a ga)(hdb:(x==("__debug__":Str))=false)(he:notStar a=true)(I:Inv X pins σ H s)
 (h:∃μ Z M,a8 fa X.K μ H σ Z/\RelM fa X.K μ H M/\ah (ga Z M) fun d M'=>∃i,d=.int i/\i.natAbs<2^64/\∀H1 μ1 e d C s',Ext μ H μ1 H1->a8 fa X.K μ1 H1 σ Z->RelM fa X.K μ1 H1 M'->X.mg x=some (.ref C)->fa (eP c)=some C->nH X e->H1 e=none->H1 d=none->d≠e->Inv X pins σ (upd (upd H1 d (.xd [(gk c,.int i)])) e (.ext (d4 C (some d) e))) s'->Q (.ref e) s') :
 wpAny (model X.prog X.w) X.A (eval (.Call (.Name x np) [a] [] cpos) X.env) Q X.xe s:=by
 obtain ⟨μ,Z,M,hE,hM,h⟩:=h
 obtain ⟨C,fI,fd,y,oI,m1,hf,hin,hk,r⟩:=id J
 refine wpAny_Call_Name_kw (fW I hg m1 ?_ hdb)
 refine Nz (h₀:=X.base) I.ok.mod.kin hk (aO (cK ha fD (bh he) cpos pins s σ H (fun vs H1=>∃μ1 M1 i,Ext μ H μ1 H1/\RelM fa X.K μ1 H1 M1/\vs=[.int i]/\i.natAbs<2^64/\∀H1 μ1 e d C s',Ext μ H μ1 H1->a8 fa X.K μ1 H1 σ Z->RelM fa X.K μ1 H1 M1->X.mg x=some (.ref C)->fa (eP c)=some C->nH X e->H1 e=none->H1 d=none->d≠e->Inv X pins σ (upd (upd H1 d (.xd [(gk c,.int i)])) e (.ext (d4 C (some d) e))) s'->Q (.ref e) s') I ⟨μ,Z,M,hE,hM,aQ h fun d M' ⟨i,ed,hi,k⟩ v H1 μ1 x1 m1 r1=>by
  subst ed
  obtain rfl:v=.int i:=r1
  exact ⟨μ1,M',i,x1,m1,rfl,hi,k⟩⟩) fun us s1 ⟨vs,H1,I1,r,μ1,M1,i,x1,mm,ev,hi,k⟩=>⟨I1.kIn,?_⟩) (bh he) (cm (es:=[]) rfl)
 subst ev
 cases r with
 | cons r1 r2 =>
   cases r2
   obtain ⟨t,rfl⟩:=r1
   exact Gw J hr hex I1 m1 hi fun e d s' hfa n1 n2 hd hde I3=>k H1 μ1 e d C s' x1 (hE.ext x1) mm m1 hfa n1 n2 hd hde I3
theorem zC (c:Nat)(J:j4 fa X.prog X.w X.K X.mg X.base c x)(hr:bx 2 X.A)(hex:X.ex=[])(hg:Gl X x)(hc:X.calm=true)(ha:DE fa X a ga)(hdb:(x==("__debug__":Str))=false)(he:notStar a=true):DS fa X (.Raise (some (.Call (.Name x np) [a] [] cpos)) none pos) (jN c ga):=by
 intro pins s σ H D' I ⟨μ,Z,M,hE,hM,h⟩
 obtain ⟨C,fI,fd,y,oI,m1,hf,hin,hk,r⟩:=id J
 obtain ⟨bm,N,nm,q,bs,hdct,sn,sub,ab,col,dd,k0,k1,k2,k3,k5,mN,hCo,hN,hni,T⟩:=lF I.ok.mod.kin hin
 rw [arm_exec_Raise]
 simp only [evalOpt,Option.map]
 refine tqa (wpAny_standAt (uU (C:=C) (nm:=nm) (q:=q) (N:=N) (bs:=bs) (bm:=bm) (hdct:=hdct) (sn:=sn) (sub:=sub) (ab:=ab) (col:=col) (dd:=dd) (k0:=k0) (k1:=k1) (k2:=k2) (k3:=k3) (k5:=k5) (newId:="ValueError.__new__") (T.hasType (by decide +kernel)) (I.ok.hd hc) (tqa (wpAny_mono (AF (Q:=fun v s₁=>∃e o vs,v=.ref e/\s₁.heap.get? C=some (excClassObj nm q C N bs bm hdct sn sub ab col dd k0 k1 k2 k3 k5 "ValueError.__new__")/\s₁.heap.get? e=some o/\o.cls=.ref C/\o.data=.fields vs/\vs[1]?=some .none/\X.xe (.ref e) s₁) c J hr hex hg ha hdb he I ?_) (fun v s₃ h₃=>tqa (wpAny_standAt (tqb h₃))) fun _ _ x=>x))))
 refine ⟨μ,Z,M,hE,hM,?_⟩
 unfold jN at h
 cases eg:ga Z M with
 |err=>rw [eg] at h;exact h.elim
 |bad=>rw [eg] at h;exact h.elim
 | ok x0 M1 =>
   rw [eg] at h
   cases x0 with
   | int i =>
     dsimp only at h
     split at h
     ·next hi=>
      have h:XW fa X μ H (.exc c (some i)) Z M1:=h
      refine ⟨i,rfl,hi,fun H1 μ1 e d C' s' x1 hE1 hM1 hm hf nw he hd hde I3=>?_⟩
      rw [m1] at hm
      cases hm
      have ne:upd (upd H1 d (.xd [(gk c,.int i)])) e (.ext (d4 C (some d) e)) e=some (.ext (d4 C (some d) e)):=bt
      obtain ⟨⟨o,vs,t0,g1,g2,g3,g4,g5,g6⟩,_,_⟩:=I3.hok e _ ne
      have he':upd H1 d (.xd [(gk c,.int i)]) e=none:=by rw [ax (MR hde)];exact he
      have I4:Inv X pins σ (upd H1 d (.xd [(gk c,.int i)])) s':=tG I3 ne (fun b hb=>(ax hb).symm) he'
      have hMd:RelM fa X.K μ1 (upd H1 d (.xd [(gk c,.int i)])) M1:=hM1.alloc hd
      have xd:=Ext.alloc (o:=.xd [(gk c,.int i)]) hM1 hd
      exact ⟨e,o,vs,rfl,I3.bk _ _ hCo,g1,g2,g4,g6,h pins σ _ μ1 s' e C (some d) c (some i) I4 (x1.trans xd) (hE1.ext xd) hMd rfl hf ⟨d,rfl,bt⟩ ⟨nw,he',o,vs,g1,g2,g3,g4,.inl g6⟩⟩
     ·exact h.elim
   |_=>exact h.elim
noncomputable def B7 (fa:Fa)(K:LH)(f:Str):Prop:=∀c C,fa (eP c)=some C->gk c=f->PySem.W.hasDictIn K C=true/\PySem.W.findIn K (.ref C) f=some none
end
end LD
namespace LD
open PySem PySem.Spec PyProof.Rows L2
noncomputable def inC (s:Stmt):Stmt:=match s with
 |.ClassDef _ _ _ (b::_) _ _ _ _ _ _ _=>b
 |_=>s
noncomputable def BX (z y:Str)(a:GE):GE:=fun Z M=>(a Z M).bind fun d M=>match d with
 |.int i=>if z.length<=1000/\y.length<=1000/\i.natAbs<2^64 then .ok (.str (z++(toString i:Str)++y)) M else .bad
 |_=>.bad
theorem Kj {fa:Fa}{X:Cx}{a:Expr}{ga:GE}{pos p1 p2 p3:Pos}{j j2:Nat}{z y:Str}(ha:DE fa X a ga):DE fa X (.JoinedStr [.Constant (.str z) j p1,.FormattedValue a (-1) none p2,.Constant (.str y) j2 p3] pos) (BX z y ga):=
 bq (Im ha) fun σ H Q ⟨μ,Z,M,hE,hM,h⟩=>by
  obtain ⟨x0,M1,eg,h1⟩:=aK h
  cases x0 with
  | int i =>
    have h1:ah (if z.length<=1000/\y.length<=1000/\i.natAbs<2^64 then .ok (.str (z++(toString i:Str)++y)) M1 else .bad) (a7 fa X.K μ H Q):=h1
    split at h1
    ·next hm=>
     refine ⟨LR hm.1 (by rw [<- cX];decide),μ,Z,M,hE,hM,?_⟩
     rw [eg]
     intro v H1 μ1 x1 m1 r1
     obtain rfl:v=.int i:=r1
     exact ⟨i,rfl,yg hm.1 hm.2.1 hm.2.2,h1 (.str _) H1 μ1 x1 m1 rfl⟩
    ·exact h1.elim
  |_=>exact h1.elim
noncomputable def GR (K:LH)(C D fI:Addr)(fld:Str):Bool:=jX K C fI&&PySem.W.keepIn K (.ref C)&&PySem.W.readsIn K D (.type "type")&&(PySem.W.specialIn K (.ref D) "__getattribute__"==some (some (.builtin "type.__getattribute__")))&&setIn K C fld&&PySem.W.keepIn K (.ref fI)
theorem Av {fa:Fa}{w:Me}{K:LH}{mg:Str->Option LI}{h:Heap}{c:Nat}{x qual y z pm:Str}{st:Stmt}{C D fI cd:Addr}{t:Tok}{p1 p2 p3 p4 p5 p6 p7 p8 p9 p10 p11 p12 p13:Pos}{j:Nat}(X:K.In h)(G:h.Ns mainGlobals mg)
 (a:PySem.W.nsIn K mainGlobals x=some (some (.ref C))) (aD:PySem.W.nsIn K mainGlobals "DeedError"=some (some (.ref D))) (hf:fa (eP c)=some C) (b:GR K C D fI (gk c)=true) (h2:PySem.W.findCls K (.ref D) (.type "type") "__init__"=some (.val (.builtin "ValueError.__init__")))
 (l:K.lookup fI=some ⟨.type "function",none,.func (PySem.W.fnOf "__init__" qual (ft st) (cz st) (aM st) .none .none .none (.str pm t) none (.ref cd) .none),#[]⟩) (e:PySem.W.codeIn K (.ref cd) qual=true) (S:gj ["self",y] ["self",y] (aM st))
 (hb:cz st=[.Expr (.Call (.Attribute (.Name "DeedError" p1) "__init__" p2) [.Name "self" p3,.JoinedStr [.Constant (.str z) j p4,.FormattedValue (.Name y p5) (-1) none p6] p7] [] p8) p9,.Assign [.Attribute (.Name "self" p10) (gk c) p11] (.Name y p12) p13])
 (hev:∀L cd,Ci "DeedError" "__init__" (.Name "self" p3) (.JoinedStr [.Constant (.str z) j p4,.FormattedValue (.Name y p5) (-1) none p6] p7) p1 p2 p8 (envOfC qual (aM st) L fI cd))
 (hz:z.length<=1000) (hyd:(y==("__debug__":Str))=false) (hyc:(y==("__classdict__":Str))=false) (v0:(aM st).names.lookup ("self":Str)=some .local) (v1:(aM st).names.lookup y=some .local)
 (hg:∀L cd,(envOfC qual (aM st) L fI cd).kindOf "DeedError"=some .globalImplicit)
 (hbd:∀(kV doc pm:LI) (an:Option Addr) (cdv ct u1 u2:LI),bindArgs (PySem.W.fnOf "__init__" qual (ft st) (cz st) (aM st) .none kV doc pm an cdv ct) ⟨[u1,u2],[]⟩=pure ((["self",y]:List Str).zip [u1,u2])) (P:Mc) (base:Heap):j4 fa P w K mg base c x:=by
 simp only [GR,LN,beq_iff_eq] at b
 obtain ⟨⟨⟨⟨⟨b1,b2⟩,b3⟩,b4⟩,b5⟩,b6⟩:=b
 have F:=yd l e b6
 exact ⟨C,fI,_,y,_,Nd X G a,hf,b1,b2,l,rfl,F.binds fun kV doc pm an cdv ct us hl=>Jv (p:=fun us=>bindArgs (PySem.W.fnOf "__init__" qual (ft st) (cz st) (aM st) .none kV doc pm an cdv ct) ⟨us,[]⟩=pure ((["self",y]:List Str).zip us)) (hbd kV doc pm an cdv ct) us hl,
  GQ F S hb hev hz hyd hyc v0 v1 hg (Nd X G aD) b3 h2 b4 b1 b5⟩
end LD
namespace LD
open PySem PySem.Spec PyProof.Rows L2
noncomputable def B9 (fa:Fa)(K:LH)(mg:Str->Option LI)(x1 x2:Str)(k1 k2:Nat):Prop:=∃D1 D2,mg x1=some (.ref D1)/\mg x2=some (.ref D2)/\∀c C,c=k1\/c=k2->fa (eP c)=some C->PySem.W.exmAny K (.ref C) [.ref D1,.ref D2]=some true
end LD
namespace LD
open PySem PySem.Spec PyProof.Rows L2
noncomputable def sH (M:Mem)(o:Nat)(nm:Str):Option D:=if 5000<=o then (match M[o-5000]? with
 |some (.int c::es)=>((cw c.toNat).findIdx? (·==nm)).bind fun i=>es[i]?
 |_=>none) else none
noncomputable def cb (nm:Str)(a:GE):GE:=fun Z M=>(a Z M).bind fun x M=>match x with
 |.fn o=>bV M (sH M o nm)
 |_=>.bad
noncomputable def yC (fa:Fa)(K:LH):Prop:=∀c C,fa (i9 c)=some C->cw c≠[]->iD K C/\∀f∈cw c,jm K C f
section
variable {fa:Fa}{K:LH}{μ:Mu}{H:Hp}{M:Mem}
theorem RelM.obj (h:RelM fa K μ H M){o:Nat}{a:Addr}{c:Int}{es:List D}(ho:5000<=o)(ha:μ.ob o=some a)(e:M[o-5000]?=some (.int c::es)) :
 ∃n C dx fs,c=(n:Nat)/\fa (i9 n)=some C/\H a=some (.ins C dx fs)/\fs.map (·.1)=(cw n).take fs.length/\aG fa K μ H es (fs.map (·.2)):=by
 have eo:aU (o-5000)=o:=Nat.add_sub_cancel' ho
 rcases h.at' _ _ e with ⟨b,vs,h1,_⟩|⟨b,n,C,dx,fs,es',h1,h2,h3,h4,h5,h6,h7⟩
 ·have:=h.sep _ _ h1
  rw [eo,ha] at this;cases this
 ·rw [eo,ha] at h1;cases h1
  cases h6
  exact ⟨n,C,dx,fs,rfl,h3,h4,h5,h7⟩
theorem sr {nm:Str}:∀{fs:List (Str×V)}{ns:List Str}{i:Nat}{v:V},fs.map (·.1)=ns.take fs.length->ns.findIdx? (·==nm)=some i->(fs.map (·.2))[i]?=some v->fs.lookup nm=some v
 |[],_,_,_,_,_,e=>by simp at e
 |(x,u)::fs,[],_,_,h,_,_=>by simp at h
 | (x, u) :: fs, y :: ns, i, v, h, f, e => by
   simp only [MO,MC,List.take_succ_cons,List.cons.injEq] at h
   obtain ⟨rfl,h⟩:=h
   rw [List.findIdx?_cons] at f
   split at f
   ·next q=>
    cases f
    cases e
    rw [Mm,show (nm==x)=true by rw [<- eq_of_beq q,beq_self_eq_true]]
   ·next q=>
    obtain ⟨j,hj,rfl⟩:=Mq.mp f
    rw [Mm,show (nm==x)=false by rw [Bool.eq_false_iff];exact fun z=>q (by rw [<- eq_of_beq z,beq_self_eq_true])]
    exact sr h hj e
end
section
variable {fa:Fa}{X:Cx}{a:Expr}{ga:GE}{pos:Pos}
theorem Jh (nm:Str)(hc:yC fa X.K)(hf:∀o,5000<=o->fa o=none)(ha:DE fa X a ga)(hb:attributeBase a nm X.env (eval a X.env)=eval a X.env):DE fa X (.Attribute a nm pos) (cb nm ga):=
 bq (FW ha hb) fun σ H Q ⟨μ,Z,M,hE,hM,h⟩=>by
  obtain ⟨x0,M1,eg,h⟩:=aK h
  refine ⟨μ,Z,M,hE,hM,?_⟩
  rw [eg]
  intro v H1 μ1 x1 m1 r1
  cases x0 with
  | fn o =>
    dsimp only at h
    obtain ⟨d,ed,q⟩:=jR h
    unfold sH at ed
    split at ed
    ·next ho=>
     split at ed
     ·next c es em=>
      obtain ⟨i,hi,ei⟩:=Na.mp ed
      obtain ⟨b,rfl,hb⟩:=r1
      rcases hb with hb|⟨_,hb⟩
      ·rw [hf o ho] at hb;cases hb
      obtain ⟨n,C,dx,fs,rfl,hC,hH,hn,hr⟩:=m1.obj ho hb em
      rw [Nk] at hi
      obtain ⟨v,hv,rv⟩:=hr.get ei
      have ne:cw n≠[]:=fun z=>by rw [z] at hi;cases hi
      obtain ⟨cl,na⟩:=hc n C hC ne
      have mem:nm∈cw n:=by
       obtain ⟨hl,h1,_⟩:=N0.mp hi
       rw [<- eq_of_beq h1];exact Nv _
      exact ⟨b,C,dx,fs,v,rfl,hH,cl,na nm mem,sr hn hi hv,q v H1 μ1 x1 m1 rv⟩
     ·cases ed
    ·cases ed
  |_=>exact h.elim
end
noncomputable def kB (M:Mem)(o:Nat)(nm:Str)(z:D):Option Mem:=if 5000<=o then (match M[o-5000]? with
 |some (.int c::es)=>((cw c.toNat).findIdx? (·==nm)).bind fun i=>if i<es.length then some (M.set (o-5000) (.int c::es.set i z)) else if i=es.length then some (M.set (o-5000) (.int c::(es++[z]))) else none
 |_=>none) else none
noncomputable def g8 (nm:Str)(a v:GE):GS:=fun Z M=>(v Z M).bind fun z M=>(a Z M).bind fun x M=>match x with
 | .fn o => (match kB M o nm z with
   |some M'=>.ok (.next Z) M'
   |none=>.bad)
 |_=>.bad
theorem Az (n:Nat):(cw n).length<1000:=by
 unfold cw
 split<;>decide
theorem t5 {nm:Str}{v:V}:∀{fs:List (Str×V)}{ns:List Str}{i:Nat},fs.map (·.1)=ns.take fs.length->ns.findIdx? (·==nm)=some i->i<fs.length->(cH nm v fs).map (·.1)=fs.map (·.1)/\(cH nm v fs).map (·.2)=(fs.map (·.2)).set i v
 |(x,u)::fs,[],_,h,_,_=>by simp at h
 | (x, u) :: fs, y :: ns, i, h, f, l => by
   simp only [MO,MC,List.take_succ_cons,List.cons.injEq] at h
   obtain ⟨rfl,h⟩:=h
   rw [List.findIdx?_cons] at f
   show (if x=nm then (x,v)::fs else (x,u)::cH nm v fs).map _=_/\(if x=nm then (x,v)::fs else (x,u)::cH nm v fs).map _=_
   split at f
   ·next q=>
    cases f
    rw [if_pos (eq_of_beq q)]
    exact ⟨rfl,rfl⟩
   ·next q=>
    obtain ⟨j,hj,rfl⟩:=Mq.mp f
    rw [if_neg (fun z=>q (by rw [z,beq_self_eq_true]))]
    obtain ⟨h1,h2⟩:=t5 (v:=v) h hj (Nat.lt_of_succ_lt_succ l)
    exact ⟨by rw [MO,h1];rfl,by rw [MO,h2];rfl⟩
theorem t6 {nm:Str}{v:V}:∀{fs:List (Str×V)}{ns:List Str},fs.map (·.1)=ns.take fs.length->ns.findIdx? (·==nm)=some fs.length->cH nm v fs=fs++[(nm,v)]
 |[],_,_,_=>rfl
 |(x,u)::fs,[],h,_=>by simp at h
 | (x, u) :: fs, y :: ns, h, f => by
   simp only [MO,MC,List.take_succ_cons,List.cons.injEq] at h
   obtain ⟨rfl,h⟩:=h
   rw [List.findIdx?_cons] at f
   show (if x=nm then (x,v)::fs else (x,u)::cH nm v fs)=_
   split at f
   ·cases f
   ·next q=>
    obtain ⟨j,hj,e⟩:=Mq.mp f
    cases e
    rw [if_neg (fun z=>q (by rw [z,beq_self_eq_true])),t6 h hj];rfl
section
variable {fa:Fa}{K:LH}{μ:Mu}{H:Hp}{M:Mem}
theorem Ext.ins {a C dx:Addr}{fs fs':List (Str×V)}(h:RelM fa K μ H M)(hH:H a=some (.ins C dx fs)):Ext μ H μ (upd H a (.ins C dx fs')):=by
 have ne:∀{b o},H b=some o->(∀C dx fs,o≠.ins C dx fs)->b≠a:=fun g n z=>by rw [z,hH] at g;cases g;exact n _ _ _ rfl
 refine ⟨⟨fun _ _ q=>q,fun b vs g=>?_,fun b vs g n=>⟨by rw [ax (ne g (fun _ _ _ z=>by cases z))];exact g,n⟩,fun b ob u g=>by rw [ax (ne g (fun _ _ _ z=>by cases z))];exact g,fun b o i g=>?_,fun _ _ q=>q⟩,rfl,fun b hb=>?_⟩
 ·rcases g with g|⟨ob,g⟩
  ·exact .inl (by rw [ax (ne g (fun _ _ _ z=>by cases z))];exact g)
  ·exact .inr ⟨ob,by rw [ax (ne g (fun _ _ _ z=>by cases z))];exact g⟩
 ·rw [ax (ne g (fun _ _ _ z=>by rcases i with ⟨_,i⟩|⟨_,i⟩<;>(rw [i] at z;cases z)))];exact g
 ·obtain ⟨⟨vs,g⟩,_⟩:=h.pv b hb
  rw [ax (ne g (fun _ _ _ z=>by cases z))]
theorem RelM.objW (h:RelM fa K μ H M){k n:Nat}{a C dx:Addr}{fs fs':List (Str×V)}{ds es:List D}(e:M[k]?=some ds)(ha:μ.ob (aU k)=some a)(hC:fa (i9 n)=some C)(hH:H a=some (.ins C dx fs))(hn:fs'.map (·.1)=(cw n).take fs'.length)(hr:aG fa K μ H es (fs'.map (·.2))) :
 RelM fa K μ (upd H a (.ins C dx fs')) (M.set k (.int n::es)):=by
 have x:Ext μ H μ (upd H a (.ins C dx fs')):=Ext.ins h hH
 refine ⟨fun j es' q=>?_,fun j hj=>h.out j (by simpa using hj),fun j hj=>h.oout j (by simpa using hj),h.inj,h.oinj,h.sep,fun b hb=>⟨let ⟨⟨vs,g⟩,_⟩:=h.pv b hb;⟨vs,by rw [x.pk b hb];exact g⟩,(h.pv b hb).2⟩⟩
 by_cases hj:j=k
 ·subst hj
  have hl:j<M.length:=(LJ.mp e).1
  rw [Md hl] at q
  cases q
  have np:μ.pub j=none:=by
   cases z:μ.pub j with
   |none=>rfl
   |some b=>rw [h.sep j b z] at ha;cases ha
  exact .inr ⟨a,n,C,dx,fs',es,ha,np,hC,bt,hn,rfl,hr.ext x⟩
 ·rw [LS (MR hj)] at q
  rcases h.at' j es' q with ⟨b,vs,h1,h2,h3⟩|⟨b,c,C',dx',gs,es2,h1,h2,h3,h4,h5,h6,h7⟩
  ·exact .inl ⟨b,vs,h1,by rw [ax (fun z=>by rw [z,hH] at h2;cases h2)];exact h2,h3.ext x⟩
  ·have nb:b≠a:=fun z=>hj (h.oinj _ _ a (z ▸ h1) ha)
   exact .inr ⟨b,c,C',dx',gs,es2,h1,h2,h3,by rw [ax nb];exact h4,h5,h6,h7.ext x⟩
end
section
variable {fa:Fa}{X:Cx}{a e:Expr}{ga gv:GE}{pos pos':Pos}
theorem H9 (nm:Str)(hc:yC fa X.K)(hf:∀o,5000<=o->fa o=none)(ha:DE fa X a ga)(hv:DE fa X e gv)(hs:swapsWith e (some (.Attribute a nm pos')) pos.line X.env=pure false):DS fa X (.Assign [.Attribute a nm pos'] e pos) (g8 nm ga gv):=
 dU (FH ha hv hs) fun D' σ H ⟨μ,Z,M,hE,hM,h⟩=>t2 hE hM h fun z x M2 v u H2 μ2 x2 hE2 hM2 rz rx h2=>by
  cases x with
  | fn o =>
    dsimp only at h2
    cases eS:kB M2 o nm z with
    |none=>rw [eS] at h2;exact h2.elim
    | some M' =>
      rw [eS] at h2
      have q:∀σ' H' μ',Ext μ H μ' H'->a8 fa X.K μ' H' σ' Z->RelM fa X.K μ' H' M'->D'.nx σ' H':=h2
      unfold kB at eS
      split at eS
      ·next ho=>
       split at eS
       ·next c es em=>
        obtain ⟨i,hi,eS⟩:=Na.mp eS
        obtain ⟨b,rfl,hb⟩:=rx
        rcases hb with hb|⟨_,hb⟩
        ·rw [hf o ho] at hb;cases hb
        obtain ⟨n,C,dx,fs,rfl,hC,hH,hn,hr⟩:=hM2.obj ho hb em
        rw [Nk] at hi
        have ne:cw n≠[]:=fun z=>by rw [z] at hi;cases hi
        obtain ⟨cl,na⟩:=hc n C hC ne
        obtain ⟨hil,hi1,_⟩:=N0.mp hi
        have mem:nm∈cw n:=by rw [<- eq_of_beq hi1];exact Nv _
        have lf:fs.length<=(cw n).length:=by
         have:=congrArg List.length hn
         rw [LX,Ni] at this
         omega
        have le:es.length=fs.length:=by rw [<- hr.length,LX]
        have hb':μ2.ob (aU (o-5000))=some b:=by rw [show aU (o-5000)=o from Nat.add_sub_cancel' ho];exact hb
        refine ⟨b,C,dx,fs,rfl,hH,cl,na nm mem,NA lf (Az n),?_⟩
        have fin:∀es',M'=M2.set (o-5000) (.int n::es')->(cH nm v fs).map (·.1)=(cw n).take (cH nm v fs).length->aG fa X.K μ2 H2 es' ((cH nm v fs).map (·.2))->D'.nx σ (upd H2 b (.ins C dx (cH nm v fs))):=fun es' e1 e2 e3=>by
         subst e1
         exact q σ _ μ2 (x2.trans (Ext.ins hM2 hH)) (hE2.ext (Ext.ins hM2 hH)) (hM2.objW em hb' hC hH e2 e3)
        split at eS
        ·next hlt=>
         obtain ⟨p1,p2⟩:=t5 (v:=v) hn hi (le ▸ hlt)
         have pl:(cH nm v fs).length=fs.length:=by have:=congrArg List.length p1;simpa using this
         exact fin _ (LO eS).symm (by rw [p1,pl];exact hn) (by rw [p2];exact hr.set i rz)
        ·split at eS
         ·next _ heq=>
          rw [heq,le] at hi
          have pa:=t6 (v:=v) hn hi
          refine fin _ (LO eS).symm ?_ (by rw [pa,MZ];exact hr.append (.one rz))
          rw [pa,MZ,hn,ME]
          subst heq
          rw [List.length_singleton,List.take_add_one]
          congr 1
          rw [Mb (by rw [<- le];exact hil)]
          have:=eq_of_beq hi1
          simp only [le] at this
          simp [this]
         ·cases eS
       ·cases eS
      ·cases eS
  |_=>exact h2.elim
end
noncomputable def oJ (fa:Fa)(K:LH)(m:Str)(c f:Nat):Prop:=∃C,fa (i9 c)=some C/\iD K C/\(∀ad,fa f=some ad->Meth K C m ad)/\m∉cw c
noncomputable def la (M:Mem)(o:Nat):Option Nat:=if 5000<=o then (match M[o-5000]? with
 |some (.int c::_)=>some c.toNat
 |_=>none) else none
noncomputable def cq (c f:Nat)(call:Call)(a:GE)(s:GA):GE:=fun Z M=>(a Z M).bind fun x M=>match x with
 |.fn o=>if la M o=some c then (s Z M).bind fun ds M=>call f (.fn o::ds) M else .bad
 |_=>.bad
theorem qo {m:Str}:∀{fs:List (Str×V)}{ns:List Str},fs.map (·.1)=ns.take fs.length->m∉ns->fs.lookup m=none
 |[],_,_,_=>rfl
 |(x,u)::fs,[],h,_=>by simp at h
 | (x, u) :: fs, y :: ns, h, n => by
   simp only [MO,MC,List.take_succ_cons,List.cons.injEq] at h
   obtain ⟨rfl,h⟩:=h
   rw [Mm,show (m==x)=false from Mx.mpr fun z=>n (by rw [z];exact Ml)]
   exact qo h fun z=>n (LY _ z)
theorem uj {env:Mw}{o:Expr}{m:Str}{apos pos:Pos}{args:List Expr}(hbase:attributeBase o m env (eval o env)=eval o env)(hfew:methodCallForm args.length (backTo pos (starEach args env)) (backToKw pos (keywordEach [] env))=true)(hline:(apos.endLine==pos.line)=true) :
 ∃pl,eval (.Call (.Attribute o m apos) args [] pos) env=(do
  let ov <- eval o env
  standAt apos.atName
  let (f,first) <- holding [ov] (getMethod ov m pl)
  callWith pos f first (backTo pos (starEach args env)) (backToKw pos (keywordEach [] env))):=by
 refine ⟨(do let b <- importBound o env;pure (b.getD true)),?_⟩
 rw [eval,hbase]
 unfold methodCall
 simp only [List.length_nil,Nat.add_zero,hfew]
 have e:methodCallPos true o env apos pos=pure pos:=by unfold methodCallPos;rw [hline];rfl
 simp only [e,pure_bind]
 rfl
section
variable {fa:Fa}{X:Cx}{o e:Expr}{es:List Expr}{go:GE}{gs:GA}{pos apos:Pos}{n c f:Nat}{m:Str}{call:Call}
theorem qm {k:Nat}{C:Addr}{t:TA}(ht:∀σ H R,tA fa X.K gs σ H R->t σ H R){σ:L2.St}{H:Hp}{Q:VK}{μ:Mu}{Z:Env}{M:Mem}(hf:∀o,5000<=o->fa o=none)(hC:fa (i9 c)=some C)(hnm:m∉cw c)(hE:a8 fa X.K μ H σ Z)(hM:RelM fa X.K μ H M)(h:ah (cq c f call go gs Z M) (a7 fa X.K μ H Q))
 (hk:∀ds M1,ds.length≠k->call f ds M1=.bad):uL C m (Bo fa X.K k (call f)) [] E0 (tE fa X.K go) t σ H Q:=
 t1 hE hM h fun x M1 v H1 μ1 x1 hE1 hM1 r1 h1=>by
  cases x with
  | fn o =>
    dsimp only at h1
    split at h1
    ·next ec=>
     unfold la at ec
     split at ec
     ·next ho=>
      split at ec
      ·next c' es' em=>
       obtain ⟨b,rfl,hb⟩:=id r1
       rcases hb with hb|⟨_,hb⟩
       ·rw [hf o ho] at hb;cases hb
       obtain ⟨n',C',dx,fs,rfl,hC',hH,hn,_⟩:=hM1.obj ho hb em
       rw [Nk] at ec
       obtain rfl:n'=c:=LO ec
       rw [hC] at hC';cases hC'
       refine ⟨b,dx,fs,rfl,hH,qo hn hnm,?_⟩
       refine ht _ _ _ (pR hE1 hM1 h1 fun ds M2 vs H2 μ2 x2 hE2 hM2 r2 h2=>?_)
       rw [NW]
       refine ⟨?_,μ2,M2,.fn o::ds,hM2,⟨_,vs,rfl,Rep.ext x2 r1,r2⟩,xv (jr h2 (x1.trans x2))⟩
       rw [MC,r2.length]
       by_cases hl:(D.fn o::ds).length=k
       ·exact hl
       ·rw [hk _ M2 hl] at h2;exact h2.elim
      ·cases ec
     ·cases ec
    ·exact h1.elim
  |_=>exact h1.elim
theorem sq {Z:Env}{M:Mem}{P:D->Mem->Prop}(hb:∀ds M,call f ds M=.bad)(h:ah (cq c f call go gs Z M) P):False:=by
 obtain ⟨x,M1,_,h⟩:=aK h
 cases x with
 | fn o =>
   dsimp only at h
   split at h
   ·obtain ⟨ds,M2,_,h⟩:=aK h
    rw [hb] at h;exact h
   ·exact h
 |_=>exact h
theorem Hk (CO:eK fa X.prog X.w X.K X.mg X.base n f (call f))(hr:bx (2*n+4) X.A)(hf:∀o,5000<=o->fa o=none){C:Addr}(hC:fa (i9 c)=some C)(cl:iD X.K C)(hm:∀ad,fa f=some ad->Meth X.K C m ad)(hnm:m∉cw c)(ho:DE fa X o go)(hs:DA fa X (e::es) gs)
 (hbase:attributeBase o m X.env (eval o X.env)=eval o X.env) (hfew:methodCallForm (e::es).length (backTo pos (starEach (e::es) X.env)) (backToKw pos (keywordEach [] X.env))=true) (hline:(apos.endLine==pos.line)=true)
 (he:starEach (e::es) X.env=(false,eval e X.env)::starEach es X.env) (hpl:(backTo pos (starEach es X.env)).any (·.1)=false) :
 DE fa X (.Call (.Attribute o m apos) (e::es) [] pos) (cq c f call go gs):=by
 rcases CO with hb|⟨ad,fd,ps,h1,h2,h3,h4,F⟩
 ·exact fun pins s σ H Q I ⟨μ,Z,M,hE,hM,h⟩=>(sq hb h).elim
 ·obtain ⟨pl,ht⟩:=uj hbase hfew hline
  exact bq (Dt (pl:=pl) ho cl (hm ad h1) F hr h3 .nil lX hs he hpl ht) fun σ H Q ⟨μ,Z,M,hE,hM,h⟩=>qm (fun _ _ _ z=>z) hf hC hnm hE hM h h4
theorem El (CO:eK fa X.prog X.w X.K X.mg X.base n f (call f))(hr:bx (2*n+4) X.A)(hf:∀o,5000<=o->fa o=none){C:Addr}(hC:fa (i9 c)=some C)(cl:iD X.K C)(hm:∀ad,fa f=some ad->Meth X.K C m ad)(hnm:m∉cw c)(ho:DE fa X o go)
 (hbase:attributeBase o m X.env (eval o X.env)=eval o X.env) (hline:(apos.endLine==pos.line)=true) :
 DE fa X (.Call (.Attribute o m apos) [] [] pos) (cq c f call go ai):=by
 rcases CO with hb|⟨ad,fd,ps,h1,h2,h3,h4,F⟩
 ·exact fun pins s σ H Q I ⟨μ,Z,M,hE,hM,h⟩=>(sq hb h).elim
 ·obtain ⟨pl,ht⟩:=uj (args:=[]) (pos:=pos) hbase rfl hline
  exact bq (zR (pl:=pl) ho cl (hm ad h1) F hr h3 .nil lX ht) fun σ H Q ⟨μ,Z,M,hE,hM,h⟩=>qm (fun σ H R ⟨μ,Z,M,_,hM,h⟩=>h [] H μ Ext.refl hM rfl) hf hC hnm hE hM h h4
end
noncomputable def js (μ:Mu)(k:Nat)(p:Addr):Mu:=⟨μ.pub,μ.priv,fun j=>if j=aU k then some p else μ.ob j⟩
section
variable {fa:Fa}{K:LH}{μ:Mu}{H:Hp}{M:Mem}
theorem RelM.ob_ins (h:RelM fa K μ H M){k:Nat}{a:Addr}(e:μ.ob (aU k)=some a):∃C dx fs,H a=some (.ins C dx fs):=by
 by_cases hk:k<M.length
 ·rcases h.at' k M[k] (by simp [hk]) with ⟨b,vs,h1,_⟩|⟨b,n,C,dx,fs,es',h1,h2,h3,h4,_⟩
  ·rw [h.sep _ _ h1] at e;cases e
  ·rw [e] at h1;cases h1
   exact ⟨C,dx,fs,h4⟩
 ·rw [h.oout k (Nat.le_of_not_lt hk)] at e;cases e
theorem Ext.objNew (h:RelM fa K μ H M){x dx C:Addr}(hx:H x=none)(hd:H dx=none)(ne:dx≠x):Ext μ H (js μ M.length x) (upd (upd H dx (.own x)) x (.ins C dx [])):=by
 have e1:Ext μ H μ (upd H dx (.own x)):=Ext.alloc h hd
 have e2:Ext μ (upd H dx (.own x)) μ (upd (upd H dx (.own x)) x (.ins C dx [])):=Ext.alloc (h.alloc hd) (by rw [ax (MR ne)];exact hx)
 have e:=e1.trans e2
 refine ⟨⟨e.mu,e.tups,fun b vs g n=>⟨(e.lsts b vs g n).1,n⟩,e.frzs,e.exts,fun j b z=>?_⟩,rfl,e.pk⟩
 show (if j=aU M.length then some x else μ.ob j)=some b
 split
 ·next q=>rw [q,h.oout _ (LP _)] at z;cases z
 ·exact z
theorem RelM.objNew (h:RelM fa K μ H M){x dx C:Addr}{c:Nat}(hx:H x=none)(hd:H dx=none)(ne:dx≠x)(hC:fa (i9 c)=some C):RelM fa K (js μ M.length x) (upd (upd H dx (.own x)) x (.ins C dx [])) (M++[[.int c]]):=by
 have X:Ext μ H (js μ M.length x) (upd (upd H dx (.own x)) x (.ins C dx [])):=Ext.objNew h hx hd ne
 have old:∀{b o},H b=some o->(upd (upd H dx (.own x)) x (.ins C dx [])) b=some o:=fun g=>by rw [ax (aN g hx),ax (aN g hd)];exact g
 have pc:∀{k b},(js μ M.length x).ob (aU k)=some b->(k=M.length/\b=x)\/μ.ob (aU k)=some b:=fun {k b} z=>by
  have z:(if aU k=aU M.length then some x else μ.ob (aU k))=some b:=z
  split at z
  ·next q=>cases z;exact .inl ⟨Nat.add_left_cancel q,rfl⟩
  ·exact .inr z
 refine ⟨fun k ds q=>?_,fun k hk=>h.out k (by simp at hk;omega),fun k hk=>?_,h.inj,fun j k b e1 e2=>?_,fun k b z=>?_,fun b hb=>⟨?_,(h.pv b hb).2⟩⟩
 ·by_cases hk:k<M.length
  ·rw [Ma hk] at q
   rcases h.at' k ds q with ⟨b,vs,h1,h2,h3⟩|⟨b,c',C',dx',gs,es2,h1,h2,h3,h4,h5,h6,h7⟩
   ·exact .inl ⟨b,vs,h1,old h2,h3.ext X⟩
   ·exact .inr ⟨b,c',C',dx',gs,es2,X.obs _ _ h1,h2,h3,old h4,h5,h6,h7.ext X⟩
  ·have hk':k=M.length:=by
    have:=(LJ.mp q).1
    simp at this;omega
   subst hk'
   rw [MF (LP _)] at q
   simp at q
   subst q
   exact .inr ⟨x,c,C,dx,[],[],by show (if aU M.length=aU M.length then some x else _)=some x;rw [if_pos rfl],h.out _ (LP _),hC,bt,rfl,rfl,rfl⟩
 ·show (if aU k=aU M.length then some x else μ.ob (aU k))=none
  simp at hk
  rw [if_neg (fun z=>by have:=Nat.add_left_cancel z;omega)]
  exact h.oout k (by omega)
 ·rcases pc e1 with ⟨a1,a2⟩|a1<;>rcases pc e2 with ⟨b1,b2⟩|b1
  ·omega
  ·subst a2;obtain ⟨_,_,_,z⟩:=h.ob_ins b1;rw [hx] at z;cases z
  ·subst b2;obtain ⟨_,_,_,z⟩:=h.ob_ins a1;rw [hx] at z;cases z
  ·exact h.oinj j k b a1 b1
 ·show (if aU k=aU M.length then some x else μ.ob (aU k))=none
  have z:μ.pub k=some b:=z
  rw [if_neg (fun q=>by rw [Nat.add_left_cancel q,h.out _ (LP _)] at z;cases z)]
  exact h.sep k b z
 ·obtain ⟨⟨vs,g⟩,_⟩:=h.pv b hb
  exact ⟨vs,old g⟩
end
noncomputable def mi (c f:Nat)(call:Call)(s:GA):GE:=fun Z M=>(s Z M).bind fun ds M=>(call f (.fn (aU M.length)::ds) (M++[[.int c]])).bind fun r M'=>match r with
 |.non=>.ok (.fn (aU M.length)) M'
 |_=>.bad
section
variable {fa:Fa}{X:Cx}{e:Expr}{es:List Expr}{gs:GA}{pos p:Pos}{n c f:Nat}{x:Str}{call:Call}
theorem Hl (CO:eK fa X.prog X.w X.K X.mg X.base n f (call f))(hr:bx (2*n+4+1) X.A)(hf:∀o,5000<=o->fa o=none){C:Addr}(hC:fa (i9 c)=some C)(mk:∀ad,fa f=some ad->Mk X.K C ad)(hg:Gl X x)(hm:X.mg x=some (.ref C))(hs:DA fa X (e::es) gs)
 (hdb:(x==("__debug__":Str))=false) (he:starEach (e::es) X.env=(false,eval e X.env)::starEach es X.env) (hpl:(backTo pos (starEach es X.env)).any (·.1)=false) :
 DE fa X (.Call (.Name x p) (e::es) [] pos) (mi c f call gs):=by
 rcases CO with hb|⟨ad,fd,ps,h1,h2,h3,h4,F⟩
 ·intro pins s σ H Q I ⟨μ,Z,M,hE,hM,h⟩
  obtain ⟨ds,M1,_,h⟩:=aK h
  rw [hb] at h;exact h.elim
 ·exact bq (Du (mk ad h1) F hr hg hm h3 .nil lX hs hdb he hpl) fun σ H Q ⟨μ,Z,M,hE,hM,h⟩=>pR hE hM h fun ds M1 vs H1 μ1 x1 hE1 hM1 r1 q=>by
   intro a dx na nd ne
   rw [NW]
   have X2:Ext μ1 H1 (js μ1 M1.length a) (upd (upd H1 dx (.own a)) a (.ins C dx [])):=Ext.objNew hM1 na nd ne
   have hob:(js μ1 M1.length a).ob (aU M1.length)=some a:=by
    show (if aU M1.length=aU M1.length then some a else _)=some a
    rw [if_pos rfl]
   have rs:Rep fa X.K (js μ1 M1.length a) (upd (upd H1 dx (.own a)) a (.ins C dx [])) (.fn (aU M1.length)) (.ref a):=⟨a,rfl,.inr ⟨hf _ (Nt _ _),hob⟩⟩
   obtain ⟨r,M2,ec,q⟩:=aK q
   refine ⟨?_,js μ1 M1.length a,M1++[[.int c]],.fn (aU M1.length)::ds,hM1.objNew na nd ne hC,⟨_,vs,rfl,rs,r1.ext X2⟩,?_⟩
   ·rw [MC,r1.length]
    by_cases hl:(D.fn (aU M1.length)::ds).length=ps.length
    ·exact hl
    ·rw [h4 _ _ hl] at ec;cases ec
   ·rw [ec]
    intro v H3 μ3 x3 hM3 r3
    cases r with
    | non =>
      obtain rfl:v=.non:=r3
      exact ⟨rfl,q (.ref a) H3 μ3 (x1.trans (X2.trans x3)) hM3 (rs.ext x3)⟩
    |_=>exact q.elim
end
end LD
namespace LD
open PySem PySem.Spec PyProof.Rows L2
noncomputable def ph (a:GE):GE:=fun Z M=>(a Z M).bind fun x M=>match x with
 | .cell k => match M[k]? with
   | some ds => match ds[ds.length - 1]? with
     |some y=>.ok y (M.set k ds.dropLast)
     |none=>.bad
   |none=>.bad
 |_=>.bad
noncomputable def mh (a:GE):GE:=fun Z M=>(a Z M).bind fun x M=>match x with
 | .cell k => match M[k]? with
   |some ds=>.ok .non (M.set k ds.reverse)
   |none=>.bad
 |_=>.bad
section
variable {fa:Fa}{X:Cx}{a:Expr}{ga:GE}{apos cpos:Pos}
theorem I9 (ha:DE fa X a ga)(hbase:attributeBase a "pop" X.env (eval a X.env)=eval a X.env)(hline:(apos.endLine==cpos.line)=true) :
 DE fa X (.Call (.Attribute a "pop" apos) [] [] cpos) (ph ga):=
 bq (xn PySem.F.plainAttrs_list PySem.F.slot_list_pop PySem.F.type_list_pop Gv ha hbase hline) fun σ H Q ⟨μ,Z,M,hE,hM,h⟩=>
  t1 hE hM h fun x M1 v H1 μ1 x1 hE1 hM1 r1 h1=>by
   cases x with
   | cell k =>
     dsimp only at h1
     cases e:M1[k]? with
     |none=>rw [e] at h1;exact h1.elim
     | some ds =>
       rw [e] at h1
       dsimp only at h1
       cases ey:ds[ds.length-1]? with
       |none=>rw [ey] at h1;exact h1.elim
       | some y =>
         rw [ey] at h1
         obtain ⟨ad,rfl,hk⟩:=r1
         obtain ⟨ws,h4,h5⟩:=hM1.at_ e hk
         obtain ⟨w,hw,rw'⟩:=h5.get ey
         refine ⟨.inl ⟨rfl,ws,b9.of h4⟩,ad,ws,w,rfl,rfl,h4,by rw [h5.length];exact hw,?_⟩
         have h1:a7 fa X.K μ H Q y (M1.set k ds.dropLast):=h1
         have x2:=Ext.write (vs:=ws) (ws:=ws.dropLast) hM1 hk
         have r:=h5.take (ds.length-1)
         rw [<- List.dropLast_eq_take,<- h5.length,<- List.dropLast_eq_take] at r
         exact h1 w _ μ1 (x1.trans x2) (hM1.write hk r) (rw'.ext x2)
   |_=>exact h1.elim
theorem Hj (ha:DE fa X a ga)(hbase:attributeBase a "reverse" X.env (eval a X.env)=eval a X.env)(hline:(apos.endLine==cpos.line)=true) :
 DE fa X (.Call (.Attribute a "reverse" apos) [] [] cpos) (mh ga):=
 bq (xn PySem.F.plainAttrs_list PySem.F.slot_list_reverse PySem.F.type_list_reverse u9 ha hbase hline) fun σ H Q ⟨μ,Z,M,hE,hM,h⟩=>
  t1 hE hM h fun x M1 v H1 μ1 x1 hE1 hM1 r1 h1=>by
   cases x with
   | cell k =>
     dsimp only at h1
     cases e:M1[k]? with
     |none=>rw [e] at h1;exact h1.elim
     | some ds =>
       rw [e] at h1
       obtain ⟨ad,rfl,hk⟩:=r1
       obtain ⟨ws,h4,h5⟩:=hM1.at_ e hk
       refine ⟨.inl ⟨rfl,ws,b9.of h4⟩,ad,ws,rfl,rfl,h4,?_⟩
       have h1:a7 fa X.K μ H Q .non (M1.set k ds.reverse):=h1
       have x2:=Ext.write (vs:=ws) (ws:=ws.reverse) hM1 hk
       exact h1 .non _ μ1 (x1.trans x2) (hM1.write hk h5.reverse) rfl
   |_=>exact h1.elim
theorem Eo {p pos:Pos}{n f:Nat}{x:Str}{call:Call}(C:eK fa X.prog X.w X.K X.mg X.base n f (call f))(hr:bx (2*n+4) X.A)(hg:Gl X x)(hm:∀ad,fa f=some ad->X.mg x=some (.ref ad))
 (hdb:(x==("__debug__":Str))=false):DE fa X (.Call (.Name x p) [] [] pos) (av f call ai):=by
 rcases C with hb|⟨ad,fd,ps,h1,h2,h3,h4,F⟩
 ·exact fun pins s σ H Q I ⟨μ,Z,M,hE,hM,h⟩=>(sX hb h).elim
 ·exact bq (zT F hr hg (hm ad h1) h2 h3 .nil lX hdb) fun σ H Q ⟨μ,Z,M,hE,hM,h⟩=>by
   obtain ⟨μ',ρ',M',_,hM',h'⟩:=lK hE hM h h4
   exact h' [] H μ' Ext.refl hM' rfl
end
end LD
namespace LD
open PySem
theorem ob {α β:Type}{a:Option α}{f:α->Option β}{r:β}(h:a.bind f=some r):∃x,a=some x/\f x=some r:=Na.mp h
theorem oi {α:Type}{c:Prop}[Decidable c]{a:Option α}{r:α}(h:(if c then a else none)=some r):c/\a=some r:=by
 split at h
 ·exact ⟨by assumption,h⟩
 ·cases h
section
variable {β:Type}{r:β}{e:Expr}{st:Stmt}
theorem od {c:Prop}[Decidable c]{f:c->Option β}(h:(if x:c then f x else none)=some r):∃x,f x=some r:=by
 by_cases z:c
 ·rw [dif_pos z] at h;exact ⟨z,h⟩
 ·rw [dif_neg z] at h;cases h
noncomputable def BA (e:Expr)(k:UnaryOp->Expr->Pos->Option β):Option β:=if h:e.ctorIdx=3 then @Expr.UnaryOp.elim (fun _=>Option β) e h k else none
theorem sj {k:UnaryOp->Expr->Pos->Option β}(h:BA e k=some r):∃a b c,e=.UnaryOp a b c/\k a b c=some r:=(od h).elim fun z h=>@Expr.UnaryOp.elim (fun e=>∀z,@Expr.UnaryOp.elim (fun _=>Option β) e z k=some r->∃a b c,e=.UnaryOp a b c/\k a b c=some r) e z (fun a b c _ h=>⟨a,b,c,rfl,h⟩) z h
noncomputable def u7 (e:Expr)(k:BoolOp->List Expr->Pos->Option β):Option β:=if h:e.ctorIdx=0 then @Expr.BoolOp.elim (fun _=>Option β) e h k else none
theorem so {k:BoolOp->List Expr->Pos->Option β}(h:u7 e k=some r):∃a b c,e=.BoolOp a b c/\k a b c=some r:=(od h).elim fun z h=>@Expr.BoolOp.elim (fun e=>∀z,@Expr.BoolOp.elim (fun _=>Option β) e z k=some r->∃a b c,e=.BoolOp a b c/\k a b c=some r) e z (fun a b c _ h=>⟨a,b,c,rfl,h⟩) z h
noncomputable def Gg (e:Expr)(k:Expr->List Nl->Scope->Pos->Option β):Option β:=if h:e.ctorIdx=8 then @Expr.ListComp.elim (fun _=>Option β) e h k else none
theorem xD {k:Expr->List Nl->Scope->Pos->Option β}(h:Gg e k=some r):∃a b c d,e=.ListComp a b c d/\k a b c d=some r:=(od h).elim fun z h=>@Expr.ListComp.elim (fun e=>∀z,@Expr.ListComp.elim (fun _=>Option β) e z k=some r->∃a b c d,e=.ListComp a b c d/\k a b c d=some r) e z (fun a b c d _ h=>⟨a,b,c,d,rfl,h⟩) z h
noncomputable def Ab (e:Expr)(k:Expr->Expr->Expr->Pos->Option β):Option β:=if h:e.ctorIdx=5 then @Expr.IfExp.elim (fun _=>Option β) e h k else none
theorem uh {k:Expr->Expr->Expr->Pos->Option β}(h:Ab e k=some r):∃a b c d,e=.IfExp a b c d/\k a b c d=some r:=(od h).elim fun z h=>@Expr.IfExp.elim (fun e=>∀z,@Expr.IfExp.elim (fun _=>Option β) e z k=some r->∃a b c d,e=.IfExp a b c d/\k a b c d=some r) e z (fun a b c d _ h=>⟨a,b,c,d,rfl,h⟩) z h
noncomputable def Ac (e:Expr)(k:Expr->List CmpOp->List Expr->Pos->Option β):Option β:=if h:e.ctorIdx=15 then @Expr.Compare.elim (fun _=>Option β) e h k else none
theorem oX {k:Expr->List CmpOp->List Expr->Pos->Option β}(h:Ac e k=some r):∃a b c d,e=.Compare a b c d/\k a b c d=some r:=(od h).elim fun z h=>@Expr.Compare.elim (fun e=>∀z,@Expr.Compare.elim (fun _=>Option β) e z k=some r->∃a b c d,e=.Compare a b c d/\k a b c d=some r) e z (fun a b c d _ h=>⟨a,b,c,d,rfl,h⟩) z h
noncomputable def n9 (e:Expr)(k:Expr->List Expr->List Keyword->Pos->Option β):Option β:=if h:e.ctorIdx=16 then @Expr.Call.elim (fun _=>Option β) e h k else none
theorem kn {k:Expr->List Expr->List Keyword->Pos->Option β}(h:n9 e k=some r):∃a b c d,e=.Call a b c d/\k a b c d=some r:=(od h).elim fun z h=>@Expr.Call.elim (fun e=>∀z,@Expr.Call.elim (fun _=>Option β) e z k=some r->∃a b c d,e=.Call a b c d/\k a b c d=some r) e z (fun a b c d _ h=>⟨a,b,c,d,rfl,h⟩) z h
noncomputable def Gj (e:Expr)(k:Expr->Int->Option Expr->Pos->Option β):Option β:=if h:e.ctorIdx=17 then @Expr.FormattedValue.elim (fun _=>Option β) e h k else none
theorem DN {k:Expr->Int->Option Expr->Pos->Option β}(h:Gj e k=some r):∃a b c d,e=.FormattedValue a b c d/\k a b c d=some r:=(od h).elim fun z h=>@Expr.FormattedValue.elim (fun e=>∀z,@Expr.FormattedValue.elim (fun _=>Option β) e z k=some r->∃a b c d,e=.FormattedValue a b c d/\k a b c d=some r) e z (fun a b c d _ h=>⟨a,b,c,d,rfl,h⟩) z h
noncomputable def Gh (e:Expr)(k:List Expr->Pos->Option β):Option β:=if h:e.ctorIdx=18 then @Expr.JoinedStr.elim (fun _=>Option β) e h k else none
theorem DL {k:List Expr->Pos->Option β}(h:Gh e k=some r):∃a b,e=.JoinedStr a b/\k a b=some r:=(od h).elim fun z h=>@Expr.JoinedStr.elim (fun e=>∀z,@Expr.JoinedStr.elim (fun _=>Option β) e z k=some r->∃a b,e=.JoinedStr a b/\k a b=some r) e z (fun a b _ h=>⟨a,b,rfl,h⟩) z h
noncomputable def sk (e:Expr)(k:Const->Nat->Pos->Option β):Option β:=if h:e.ctorIdx=19 then @Expr.Constant.elim (fun _=>Option β) e h k else none
theorem lZ {k:Const->Nat->Pos->Option β}(h:sk e k=some r):∃a b c,e=.Constant a b c/\k a b c=some r:=(od h).elim fun z h=>@Expr.Constant.elim (fun e=>∀z,@Expr.Constant.elim (fun _=>Option β) e z k=some r->∃a b c,e=.Constant a b c/\k a b c=some r) e z (fun a b c _ h=>⟨a,b,c,rfl,h⟩) z h
noncomputable def l7 (e:Expr)(k:Expr->Str->Pos->Option β):Option β:=if h:e.ctorIdx=20 then @Expr.Attribute.elim (fun _=>Option β) e h k else none
theorem ja {k:Expr->Str->Pos->Option β}(h:l7 e k=some r):∃a b c,e=.Attribute a b c/\k a b c=some r:=(od h).elim fun z h=>@Expr.Attribute.elim (fun e=>∀z,@Expr.Attribute.elim (fun _=>Option β) e z k=some r->∃a b c,e=.Attribute a b c/\k a b c=some r) e z (fun a b c _ h=>⟨a,b,c,rfl,h⟩) z h
noncomputable def u5 (e:Expr)(k:Expr->Expr->Pos->Option β):Option β:=if h:e.ctorIdx=21 then @Expr.Subscript.elim (fun _=>Option β) e h k else none
theorem oW {k:Expr->Expr->Pos->Option β}(h:u5 e k=some r):∃a b c,e=.Subscript a b c/\k a b c=some r:=(od h).elim fun z h=>@Expr.Subscript.elim (fun e=>∀z,@Expr.Subscript.elim (fun _=>Option β) e z k=some r->∃a b c,e=.Subscript a b c/\k a b c=some r) e z (fun a b c _ h=>⟨a,b,c,rfl,h⟩) z h
noncomputable def nName (e:Expr)(k:Str->Pos->Option β):Option β:=if h:e.ctorIdx=23 then @Expr.Name.elim (fun _=>Option β) e h k else none
theorem dv {k:Str->Pos->Option β}(h:nName e k=some r):∃a b,e=.Name a b/\k a b=some r:=(od h).elim fun z h=>@Expr.Name.elim (fun e=>∀z,@Expr.Name.elim (fun _=>Option β) e z k=some r->∃a b,e=.Name a b/\k a b=some r) e z (fun a b _ h=>⟨a,b,rfl,h⟩) z h
noncomputable def oV (e:Expr)(k:List Expr->Nat->Pos->Option β):Option β:=if h:e.ctorIdx=25 then @Expr.Tuple.elim (fun _=>Option β) e h k else none
theorem gR {k:List Expr->Nat->Pos->Option β}(h:oV e k=some r):∃a b c,e=.Tuple a b c/\k a b c=some r:=(od h).elim fun z h=>@Expr.Tuple.elim (fun e=>∀z,@Expr.Tuple.elim (fun _=>Option β) e z k=some r->∃a b c,e=.Tuple a b c/\k a b c=some r) e z (fun a b c _ h=>⟨a,b,c,rfl,h⟩) z h
noncomputable def Ge (e:Expr)(k:Option Expr->Option Expr->Option Expr->Pos->Option β):Option β:=if h:e.ctorIdx=26 then @Expr.Slice.elim (fun _=>Option β) e h k else none
theorem DJ {k:Option Expr->Option Expr->Option Expr->Pos->Option β}(h:Ge e k=some r):∃a b c d,e=.Slice a b c d/\k a b c d=some r:=(od h).elim fun z h=>@Expr.Slice.elim (fun e=>∀z,@Expr.Slice.elim (fun _=>Option β) e z k=some r->∃a b c d,e=.Slice a b c d/\k a b c d=some r) e z (fun a b c d _ h=>⟨a,b,c,d,rfl,h⟩) z h
noncomputable def rN (e:Stmt)(k:List Expr->Expr->Pos->Option β):Option β:=if h:e.ctorIdx=5 then @Stmt.Assign.elim (fun _=>Option β) e h k else none
theorem lV {k:List Expr->Expr->Pos->Option β}(h:rN st k=some r):∃a b c,st=.Assign a b c/\k a b c=some r:=(od h).elim fun z h=>@Stmt.Assign.elim (fun e=>∀z,@Stmt.Assign.elim (fun _=>Option β) e z k=some r->∃a b c,e=.Assign a b c/\k a b c=some r) st z (fun a b c _ h=>⟨a,b,c,rfl,h⟩) z h
noncomputable def Fe (e:Stmt)(k:Option Expr->Option Expr->Pos->Option β):Option β:=if h:e.ctorIdx=16 then @Stmt.Raise.elim (fun _=>Option β) e h k else none
theorem C7 {k:Option Expr->Option Expr->Pos->Option β}(h:Fe st k=some r):∃a b c,st=.Raise a b c/\k a b c=some r:=(od h).elim fun z h=>@Stmt.Raise.elim (fun e=>∀z,@Stmt.Raise.elim (fun _=>Option β) e z k=some r->∃a b c,e=.Raise a b c/\k a b c=some r) st z (fun a b c _ h=>⟨a,b,c,rfl,h⟩) z h
noncomputable def zD (e:Stmt)(k:Expr->Pos->Option β):Option β:=if h:e.ctorIdx=24 then @Stmt.Expr.elim (fun _=>Option β) e h k else none
theorem tY {k:Expr->Pos->Option β}(h:zD st k=some r):∃a b,st=.Expr a b/\k a b=some r:=(od h).elim fun z h=>@Stmt.Expr.elim (fun e=>∀z,@Stmt.Expr.elim (fun _=>Option β) e z k=some r->∃a b,e=.Expr a b/\k a b=some r) st z (fun a b _ h=>⟨a,b,rfl,h⟩) z h
noncomputable def Gn (e:Expr)(k:Expr->Operator->Expr->Pos->Option β):Option β:=if h:e.ctorIdx=2 then @Expr.BinOp.elim (fun _=>Option β) e h k else none
theorem DP {k:Expr->Operator->Expr->Pos->Option β}(h:Gn e k=some r):∃a b c d,e=.BinOp a b c d/\k a b c d=some r:=(od h).elim fun z h=>@Expr.BinOp.elim (fun e=>∀z,@Expr.BinOp.elim (fun _=>Option β) e z k=some r->∃a b c d,e=.BinOp a b c d/\k a b c d=some r) e z (fun a b c d _ h=>⟨a,b,c,d,rfl,h⟩) z h
noncomputable def Gf (e:Expr)(k:List Expr->Pos->Option β):Option β:=if h:e.ctorIdx=24 then @Expr.List.elim (fun _=>Option β) e h k else none
theorem DK {k:List Expr->Pos->Option β}(h:Gf e k=some r):∃a b,e=.List a b/\k a b=some r:=(od h).elim fun z h=>@Expr.List.elim (fun e=>∀z,@Expr.List.elim (fun _=>Option β) e z k=some r->∃a b,e=.List a b/\k a b=some r) e z (fun a b _ h=>⟨a,b,rfl,h⟩) z h
noncomputable def JD (e:Stmt)(k:Option Expr->Pos->Option β):Option β:=if h:e.ctorIdx=3 then @Stmt.Return.elim (fun _=>Option β) e h k else none
theorem Fd {k:Option Expr->Pos->Option β}(h:JD st k=some r):∃a b,st=.Return a b/\k a b=some r:=(od h).elim fun z h=>@Stmt.Return.elim (fun e=>∀z,@Stmt.Return.elim (fun _=>Option β) e z k=some r->∃a b,e=.Return a b/\k a b=some r) st z (fun a b _ h=>⟨a,b,rfl,h⟩) z h
noncomputable def JG (e:Stmt)(k:Expr->Expr->List Stmt->List Stmt->Pos->Option β):Option β:=if h:e.ctorIdx=9 then @Stmt.For.elim (fun _=>Option β) e h k else none
theorem Fi {k:Expr->Expr->List Stmt->List Stmt->Pos->Option β}(h:JG st k=some r):∃a b c d f,st=.For a b c d f/\k a b c d f=some r:=(od h).elim fun z h=>@Stmt.For.elim (fun e=>∀z,@Stmt.For.elim (fun _=>Option β) e z k=some r->∃a b c d f,e=.For a b c d f/\k a b c d f=some r) st z (fun a b c d f _ h=>⟨a,b,c,d,f,rfl,h⟩) z h
noncomputable def JF (e:Stmt)(k:Expr->List Stmt->List Stmt->Pos->Option β):Option β:=if h:e.ctorIdx=12 then @Stmt.If.elim (fun _=>Option β) e h k else none
theorem Fh {k:Expr->List Stmt->List Stmt->Pos->Option β}(h:JF st k=some r):∃a b c d,st=.If a b c d/\k a b c d=some r:=(od h).elim fun z h=>@Stmt.If.elim (fun e=>∀z,@Stmt.If.elim (fun _=>Option β) e z k=some r->∃a b c d,e=.If a b c d/\k a b c d=some r) st z (fun a b c d _ h=>⟨a,b,c,d,rfl,h⟩) z h
noncomputable def JE (e:Stmt)(k:Pos->Option β):Option β:=if h:e.ctorIdx=25 then @Stmt.Pass.elim (fun _=>Option β) e h k else none
theorem Ff {k:Pos->Option β}(h:JE st k=some r):∃a,st=.Pass a/\k a=some r:=(od h).elim fun z h=>@Stmt.Pass.elim (fun e=>∀z,@Stmt.Pass.elim (fun _=>Option β) e z k=some r->∃a,e=.Pass a/\k a=some r) st z (fun a _ h=>⟨a,rfl,h⟩) z h
variable {α:Type}{l:List α}
noncomputable def n0 (l:List α)(v:Option β):Option β:=if l.isEmpty=true then v else none
theorem gx {v:Option β}(h:n0 l v=some r):l=[]/\v=some r:=(oi h).elim fun c h=>⟨List.isEmpty_iff.mp c,h⟩
noncomputable def nC (l:List α)(k:α->List α->Option β):Option β:=match l with
 |[]=>none
 |a::s=>k a s
theorem iF {k:α->List α->Option β}(h:nC l k=some r):∃a s,l=a::s/\k a s=some r:=by
 cases l with
 |nil=>cases h
 |cons a s=>exact ⟨a,s,rfl,h⟩
noncomputable def n1 (l:List α)(k:α->Option β):Option β:=nC l fun a s=>n0 s (k a)
theorem dJ {k:α->Option β}(h:n1 l k=some r):∃a,l=[a]/\k a=some r:=by
 obtain ⟨a,s,rfl,h⟩:=iF h
 obtain ⟨rfl,h⟩:=gx h
 exact ⟨a,rfl,h⟩
noncomputable def n2 (l:List α)(k:α->α->Option β):Option β:=nC l fun a s=>n1 s (k a)
theorem iG {k:α->α->Option β}(h:n2 l k=some r):∃a b,l=[a,b]/\k a b=some r:=by
 obtain ⟨a,s,rfl,h⟩:=iF h
 obtain ⟨b,rfl,h⟩:=dJ h
 exact ⟨a,b,rfl,h⟩
noncomputable def Aa (e:Expr)(k:Str->Option β):Option β:=sk e fun c _ _=>match c with
 |.str z=>k z
 |_=>none
theorem ug {k:Str->Option β}(h:Aa e k=some r):∃z i p,e=.Constant (.str z) i p/\k z=some r:=by
 obtain ⟨c,i,p,rfl,h⟩:=lZ h
 cases c with
 |str z=>exact ⟨z,i,p,rfl,h⟩
 |_=>cases h
noncomputable def BB (e:Expr)(v:Option β):Option β:=sk e fun c _ _=>match c with
 |.bool b=>if b=true then v else none
 |_=>none
theorem zZ {v:Option β}(h:BB e v=some r):∃i p,e=.Constant (.bool true) i p/\v=some r:=by
 obtain ⟨c,i,p,rfl,h⟩:=lZ h
 cases c with
 |bool b=>obtain ⟨rfl,k⟩:=oi h;exact ⟨i,p,rfl,k⟩
 |_=>cases h
noncomputable def Gi (e:Expr)(k:Int->Option β):Option β:=sk e fun c _ _=>match c with
 |.int z=>k z
 |_=>none
theorem DM {k:Int->Option β}(h:Gi e k=some r):∃z i p,e=.Constant (.int z) i p/\k z=some r:=by
 obtain ⟨c,i,p,rfl,h⟩:=lZ h
 cases c with
 |int z=>exact ⟨z,i,p,rfl,h⟩
 |_=>cases h
noncomputable def JM (e:Expr)(k:Expr->Option β):Option β:=Gj e fun a i s _=>if i=-1/\s.isNone=true then k a else none
theorem Gk {k:Expr->Option β}(h:JM e k=some r):∃a p,e=.FormattedValue a (-1) none p/\k a=some r:=by
 obtain ⟨a,i,s,p,rfl,h⟩:=DN h
 obtain ⟨⟨rfl,c⟩,k⟩:=oi h
 rw [NQ.mp c]
 exact ⟨a,p,rfl,k⟩
noncomputable def nG (c:Nl)(k:Expr->Expr->List Expr->Option β):Option β:=if c.is_async=0 then k c.target c.iter c.ifs else none
theorem u6 {c:Nl}{k:Expr->Expr->List Expr->Option β}(h:nG c k=some r):∃t i f,c=⟨t,i,f,0⟩/\k t i f=some r:=by
 obtain ⟨z,h⟩:=oi h
 cases c;cases z
 exact ⟨_,_,_,rfl,h⟩
noncomputable def lu (e:Expr)(k:Str->List Expr->Pos->Option β):Option β:=n9 e fun f es ks p=>nName f fun x _=>n0 ks (k x es p)
theorem fE {k:Str->List Expr->Pos->Option β}(h:lu e k=some r):∃x q es p,e=.Call (.Name x q) es [] p/\k x es p=some r:=by
 obtain ⟨f,es,ks,p,rfl,h⟩:=kn h
 obtain ⟨x,q,rfl,h⟩:=dv h
 obtain ⟨rfl,h⟩:=gx h
 exact ⟨x,q,es,p,rfl,h⟩
noncomputable def JN (e:Expr)(k:Expr->Str->Expr->Bool->Option β):Option β:=n9 e fun f es ks p=>l7 f fun a m q=>n0 ks (n1 es fun d=>k a m d (q.endLine==p.line))
theorem Gm {k:Expr->Str->Expr->Bool->Option β}(h:JN e k=some r):∃a m q d p,e=.Call (.Attribute a m q) [d] [] p/\k a m d (q.endLine==p.line)=some r:=by
 obtain ⟨f,es,ks,p,rfl,h⟩:=kn h
 obtain ⟨a,m,q,rfl,h⟩:=ja h
 obtain ⟨rfl,h⟩:=gx h
 obtain ⟨d,rfl,h⟩:=dJ h
 exact ⟨a,m,q,d,p,rfl,h⟩
theorem bR {a b:Option β}(h:a.or b=some r):a=some r\/b=some r:=by
 cases a with
 |none=>exact .inr h
 |some x=>exact .inl h
end
end LD
namespace LD
open PySem PySem.Spec PyProof.Rows L2
inductive En where
 |fn (i:Nat) (r:Bool)|int (i:Int)|str (z:Str)|dct (fs:List (Str×Nat))|xc (k:Nat)|xi (k:Nat)|xk (k:Nat)|de|bl|cls (c f:Nat)
structure Ca (fa:Fa) (P:Mc) (w:Me) (K:LH) (mg:Str->Option LI) (base:Heap) (T:List (Str×En)):Prop where
 fn:∀{x:Str}{i:Nat}{r:Bool},T.lookup x=some (.fn i r)->∀ad,fa i=some ad->mg x=some (.ref ad)
 int:∀{x:Str}{i:Int},T.lookup x=some (.int i)->∃t,mg x=some (.int i t)
 str:∀{x:Str}{z:Str},T.lookup x=some (.str z)->∃t,mg x=some (.str z t)
 dct:∀{x:Str}{fs:List (Str×Nat)},T.lookup x=some (.dct fs)->∃ad kvs,mg x=some (.ref ad)/\fy K w.params ad kvs/\dS fa kvs fs
 xc:∀{x:Str}{k:Nat},T.lookup x=some (.xc k)->∃C,mg x=some (.ref C)/\fa (eP k)=some C/\PySem.W.excIn K C lM "ValueError.__new__"=true/\PySem.W.keepIn K (.ref C)=true
 xi:∀{x:Str}{k:Nat},T.lookup x=some (.xi k)->j4 fa P w K mg base k x/\∃D,mg x=some (.ref D)/\fa (eP k)=some D
 xk:∀{x:Str}{k:Nat},T.lookup x=some (.xk k)->∃D,mg x=some (.ref D)/\fa (eP k)=some D
 de:∀{x:Str},T.lookup x=some .de->∃D,mg x=some (.ref D)/\fa 999=some D
 bl:∀{x:Str},T.lookup x=some .bl->mg x=none
 xcs:Hy fa K
 ob:yC fa K
 of:∀o,5000<=o->fa o=none
 cls:∀{x:Str}{c f:Nat},T.lookup x=some (.cls c f)->∃C,mg x=some (.ref C)/\fa (i9 c)=some C/\∀ad,fa f=some ad->Mk K C ad
structure G where
 T:List (Str×En)
 tw:List (Str×Str×Nat×Nat)
 xf:List Str
 cel:List (Nat×Nat×Nat)
 txt:List (Nat×Nat×Nat)
 ms:List (Str×Nat×Nat)
 c:Call
 N:List Str
 sc:Scope
 lv:Nat
structure eT (fa:Fa) (n:Nat) (g:G) (X:Cx):Prop where
 N:X.N=g.N
 nd:g.N.Nodup
 sc:X.env.scope=g.sc
 T:Ca fa X.prog X.w X.K X.mg X.base g.T
 tw:∀q∈g.tw,B9 fa X.K X.mg q.1 q.2.1 q.2.2.1 q.2.2.2
 xf:∀f∈g.xf,B7 fa X.K f
 ms:∀q∈g.ms,oJ fa X.K q.1 q.2.1 q.2.2
 fn:g.lv≠1->∀x,X.fn x=true
 calm:0<g.lv->X.calm=true
 C:0<g.lv->∀f,eK fa X.prog X.w X.K X.mg X.base n f (g.c f)
 hr:0<g.lv->bx (2*n+4+1) X.A
 top:2<=g.lv->X.ex=[]/\X.stack=X.env::X.outer/\X.env.frame=some X.env.locals/\X.env.scope.kind=.function
 po:g.lv=2->PassesOwn (model X.prog X.w) X.A X.env X.xe
structure Rc where
 e:G->Expr->Option GE
 t:G->Expr->Option GT
 x:G->Expr->Option GE
 w:G->Expr->Expr->Option GW
 s:G->Stmt->Option GS
abbrev d9:=Rc->G->Expr->Option GE
abbrev HB:=Rc->G->Expr->Option GT
abbrev td:=Rc->G->Expr->Expr->Option GW
abbrev oH:=Rc->G->Stmt->Option GS
structure jl (fa:Fa) (n:Nat) (R:Rc):Prop where
 e:∀{g:G}{X:Cx}{a:Expr}{ga:GE},eT fa n g X->R.e g a=some ga->DE fa X a ga
 t:∀{g:G}{X:Cx}{a:Expr}{ga:GT},eT fa n g X->R.t g a=some ga->DT fa X a ga
 x:∀{g:G}{X:Cx}{a:Expr}{ga:GE},eT fa n g X->R.x g a=some ga->DX fa X a ga
 w:∀{g:G}{X:Cx}{t a:Expr}{ga:GW},eT fa n g X->R.w g t a=some ga->DI fa X t a ga
 s:∀{g:G}{X:Cx}{a:Stmt}{ga:GS},eT fa n g X->R.s g a=some ga->DS fa X a ga
noncomputable def SE (r:d9):Prop:=∀{fa:Fa}{n:Nat}{R:Rc},jl fa n R->∀{g:G}{X:Cx},eT fa n g X->∀{a:Expr}{ga:GE},r R g a=some ga->DE fa X a ga
noncomputable def ST (r:HB):Prop:=∀{fa:Fa}{n:Nat}{R:Rc},jl fa n R->∀{g:G}{X:Cx},eT fa n g X->∀{a:Expr}{ga:GT},r R g a=some ga->DT fa X a ga
noncomputable def SX (r:d9):Prop:=∀{fa:Fa}{n:Nat}{R:Rc},jl fa n R->∀{g:G}{X:Cx},eT fa n g X->∀{a:Expr}{ga:GE},r R g a=some ga->DX fa X a ga
noncomputable def SW (r:td):Prop:=∀{fa:Fa}{n:Nat}{R:Rc},jl fa n R->∀{g:G}{X:Cx},eT fa n g X->∀{t a:Expr}{ga:GW},r R g t a=some ga->DI fa X t a ga
noncomputable def SS (r:oH):Prop:=∀{fa:Fa}{n:Nat}{R:Rc},jl fa n R->∀{g:G}{X:Cx},eT fa n g X->∀{a:Stmt}{ga:GS},r R g a=some ga->DS fa X a ga
structure Rs where
 e:List d9
 t:List HB
 x:List d9
 w:List td
 s:List oH
noncomputable def It (rs:Rs):Nat->Rc
 |0=>⟨fun _ _=>none,fun _ _=>none,fun _ _=>none,fun _ _ _=>none,fun _ _=>none⟩
 |n+1=>⟨fun g a=>rs.e.findSome? fun r=>r (It rs n) g a,fun g a=>rs.t.findSome? fun r=>r (It rs n) g a,fun g a=>rs.x.findSome? fun r=>r (It rs n) g a,fun g t a=>rs.w.findSome? fun r=>r (It rs n) g t a,fun g a=>rs.s.findSome? fun r=>r (It rs n) g a⟩
noncomputable def AllP {α:Type}(p:α->Prop):List α->Prop
 |[]=>True
 |a::l=>p a/\AllP p l
theorem AllP.mem {α:Type}{p:α->Prop}:∀{l:List α},AllP p l->∀a∈l,p a
 |_::_,h,a,m=>(My.mp m).elim (fun e=>e ▸ h.1) (AllP.mem h.2 a)
structure A0 (rs:Rs):Prop where
 e:AllP SE rs.e
 t:AllP ST rs.t
 x:AllP SX rs.x
 w:AllP SW rs.w
 s:AllP SS rs.s
theorem Cg {fa:Fa}{n:Nat}{rs:Rs}(h:A0 rs):∀k,jl fa n (It rs k)
 |0=>⟨(fun _ z=>nomatch z),(fun _ z=>nomatch z),(fun _ z=>nomatch z),(fun _ z=>nomatch z),(fun _ z=>nomatch z)⟩
 | k + 1 => by
   have ih:=Cg (n:=n) (fa:=fa) h k
   refine ⟨fun o z=>?_,fun o z=>?_,fun o z=>?_,fun o z=>?_,fun o z=>?_⟩
   ·obtain ⟨r,m,e⟩:=Nf z;exact h.e.mem r m ih o e
   ·obtain ⟨r,m,e⟩:=Nf z;exact h.t.mem r m ih o e
   ·obtain ⟨r,m,e⟩:=Nf z;exact h.x.mem r m ih o e
   ·obtain ⟨r,m,e⟩:=Nf z;exact h.w.mem r m ih o e
   ·obtain ⟨r,m,e⟩:=Nf z;exact h.s.mem r m ih o e
noncomputable def JX:Str:="__debug__"
noncomputable def je (g:G)(x:Str):Bool:=g.sc.names.lookup x==some .globalImplicit&&!(x==JX)
noncomputable def vr (g:G)(x:Str):Option Nat:=if (g.sc.names.lookup x==some .local||g.sc.names.lookup x==some .cell||g.sc.names.lookup x==some .free)&&!(x==JX)&&!(x==("__classdict__":Str)) then g.N.findIdx? (·==x) else none
section
variable {fa:Fa}{n:Nat}{g:G}{X:Cx}{R:Rc}(o:eT fa n g X)
include o
theorem cS {x:Str}(h:je g x=true):Gl X x/\(x==("__debug__":Str))=false:=by
 unfold je at h
 rw [LN,NH] at h
 exact ⟨by show X.env.scope.names.lookup x=_;rw [o.sc];exact eq_of_beq h.1,h.2⟩
theorem vj {x:Str}{i:Nat}(h:g.N.findIdx? (·==x)=some i):X.N[i]?=some x:=by
 obtain ⟨hi,h1,_⟩:=N0.mp h
 rw [o.N,Mb hi,eq_of_beq h1]
theorem Bb {x:Str}{i:Nat}(h:vr g x=some i):X.N[i]?=some x/\qC X.env.scope x/\(x==("__debug__":Str))=false/\(x==("__classdict__":Str))=false:=by
 obtain ⟨c,h⟩:=oi h
 simp only [LN,NX,NH] at c
 refine ⟨vj o h,?_,c.1.2,c.2⟩
 unfold qC
 rw [o.sc]
 rcases c.1.1 with (z|z)|z
 ·exact .inl (eq_of_beq z)
 ·exact .inr (.inl (eq_of_beq z))
 ·exact .inr (.inr (eq_of_beq z))
omit o
theorem eT.rm (o:eT fa n g X)(h:0<g.lv):Rm X:=C8 (o.hr h)
end
noncomputable def cA (f:Expr->Option GE):List Expr->Option GA
 |[]=>some ai
 |a::r=>if notStar a=true then (f a).bind fun x=>(cA f r).bind fun y=>some (ae x y) else none
theorem hJ {fa:Fa}{X:Cx}{f:Expr->Option GE}(hf:∀{a:Expr}{ga:GE},f a=some ga->DE fa X a ga):∀{es:List Expr}{gs:GA},cA f es=some gs->DA fa X es gs/\es.all notStar=true
 |[],_,h=>by cases h;exact ⟨Hi,rfl⟩
 | a :: r, _, h => by
   obtain ⟨c,h⟩:=oi h
   obtain ⟨x,hx,h⟩:=ob h
   obtain ⟨y,hy,h⟩:=ob h
   cases h
   obtain ⟨h1,h2⟩:=hJ hf hy
   exact ⟨Ek (hf hx) h1 (bh c),by rw [MB,c,h2];rfl⟩
noncomputable def sZ (f:Expr->Option GE)(k:GE->GE->GE):List Expr->Option GE
 |[]=>none
 |[a]=>f a
 |a::b::r=>(f a).bind fun x=>(sZ f k (b::r)).bind fun y=>some (k x y)
theorem uG {fa:Fa}{X:Cx}{pos:Pos}{f:Expr->Option GE}(hf:∀{a:Expr}{ga:GE},f a=some ga->DE fa X a ga):∀{es:List Expr}{ge:GE},sZ f dY es=some ge->DE fa X (.BoolOp .And es pos) ge
 |[a],_,h=>B1 (hf h)
 | a :: b :: r, _, h => by
   obtain ⟨x,hx,h⟩:=ob h
   obtain ⟨y,hy,h⟩:=ob h
   cases h
   exact Jl (hf hx) (uG hf hy)
theorem yA {fa:Fa}{X:Cx}{pos:Pos}{f:Expr->Option GE}(hf:∀{a:Expr}{ga:GE},f a=some ga->DE fa X a ga):∀{es:List Expr}{ge:GE},sZ f JW es=some ge->DE fa X (.BoolOp .Or es pos) ge
 |[a],_,h=>B1 (hf h)
 | a :: b :: r, _, h => by
   obtain ⟨x,hx,h⟩:=ob h
   obtain ⟨y,hy,h⟩:=ob h
   cases h
   exact K5 (hf hx) (yA hf hy)
noncomputable def rB (f:Expr->Option GT)(k:GT->GT->GT):List Expr->Option GT
 |[]=>none
 |[a]=>f a
 |a::b::r=>(f a).bind fun x=>(rB f k (b::r)).bind fun y=>some (k x y)
theorem tP {fa:Fa}{X:Cx}{pos:Pos}{f:Expr->Option GT}(hf:∀{a:Expr}{ga:GT},f a=some ga->DT fa X a ga):∀{es:List Expr}{ge:GT},rB f eU es=some ge->DW fa X (.BoolOp .And es pos) ge
 |[a],_,h=>D7 (hf h)
 | a :: b :: r, _, h => by
   obtain ⟨x,hx,h⟩:=ob h
   obtain ⟨y,hy,h⟩:=ob h
   cases h
   exact G5 (hf hx) (tP hf hy)
theorem wC {fa:Fa}{X:Cx}{pos:Pos}{f:Expr->Option GT}(hf:∀{a:Expr}{ga:GT},f a=some ga->DT fa X a ga):∀{es:List Expr}{ge:GT},rB f ib es=some ge->DW fa X (.BoolOp .Or es pos) ge
 |[a],_,h=>G4 (hf h)
 | a :: b :: r, _, h => by
   obtain ⟨x,hx,h⟩:=ob h
   obtain ⟨y,hy,h⟩:=ob h
   cases h
   exact IV (hf hx) (wC hf hy)
noncomputable def Bd:d9:=fun _ g e=>nName e fun x _=>((vr g x).bind fun i=>some (aa i)).or (if je g x=true then (g.T.lookup x).bind fun
 |.int i=>some (gC (.int i))
 |.str i=>some (gC (.str i))
 |_=>none else none)
theorem yO:SE Bd:=by
 intro fa n R rc g X o a ga h
 replace h:=dv h;obtain ⟨x,p,rfl,h⟩:=h
 rcases bR h with h|h
 ·obtain ⟨i,e,h⟩:=ob h;cases h;obtain ⟨a,b,c,d⟩:=Bb o e;exact IY a b c d
 ·obtain ⟨c,h⟩:=oi h
  obtain ⟨hg,hd⟩:=cS o c
  obtain ⟨t,e,h⟩:=ob h
  cases t with
  |int i=>cases h;exact Dc hg (o.T.int e) hd
  |str i=>cases h;obtain ⟨t,e⟩:=o.T.str e;exact iX (v:=.str _) (jQ hg e ⟨t,rfl⟩ hd) fun _ _=>rfl
  |_=>cases h
noncomputable def wm:d9:=fun _ _ e=>sk e fun
 |.int i,_,_=>some (gC (.int i))
 |.bool i,_,_=>some (gC (.bl i))
 |.str i,_,_=>some (gC (.str i))
 |.none,_,_=>some (gC .non)
 |_,_,_=>none
theorem wj:SE wm:=by
 intro fa n R rc g X o a ga h
 replace h:=lZ h;obtain ⟨c,i,p,rfl,h⟩:=h
 cases c with
 |int i=>cases h;exact Jf
 |bool i=>cases h;exact Hq
 |str i=>cases h;exact I0
 |none=>cases h;exact Jb
 |_=>cases h
noncomputable def G.cl (g:G)(p:Pos):Bool:=g.cel.contains (p.line,p.col,p.endCol)
noncomputable def G.tx (g:G)(p:Pos):Bool:=g.txt.contains (p.line,p.col,p.endCol)
noncomputable def B5:Operator->Option kO
 |.Add=>some .add|.Sub=>some .sub|.Mult=>some .mul|.FloorDiv=>some .fdiv|.Mod=>some .mod|.Pow=>some .pow|_=>none
theorem AW {q:Operator}{b:kO}(h:B5 q=some b):q=binOp b:=by cases q<;>cases h<;>rfl
noncomputable def fu:CmpOp->iC
 |.Eq=>.eq|.NotEq=>.ne|.Lt=>.lt|.LtE=>.le|.Gt=>.gt|.GtE=>.ge|.Is=>.isN|.IsNot=>.notN|.In=>.isin|.NotIn=>.notin
theorem cx (q:CmpOp):dP (fu q)=q:=by cases q<;>rfl
noncomputable def EN:d9:=fun R g e=>(Gn e fun a q b p=>(B5 q).bind fun q=>(R.e g a).bind fun x=>(R.e g b).bind fun y=>some (az (g.cl p) q x y)).or
 ((BA e fun q a _ => match q with
   |.USub=>(R.e g a).bind fun x=>some (dX x)
   |.Not=>(R.e g a).bind fun x=>some (KW x)
   |_=>none).or
 ((u7 e fun q es _ => match q with
   |.And=>sZ (R.e g) dY es
   |.Or=>sZ (R.e g) JW es).or
 ((Ab e fun c a b _=>(R.t g c).bind fun t=>(R.e g a).bind fun x=>(R.e g b).bind fun y=>some (jf t x y)).or
 ((oV e fun es _ _=>(cA (R.e g) es).bind fun s=>some (cp s)).or (Gf e fun es p=>(cA (R.e g) es).bind fun s=>some (bQ (g.cl p) s))))))
theorem Cz:SE EN:=by
 intro fa n R rc g X o a ga h
 replace h:=bR h;rcases h with h|h
 ·replace h:=DP h;obtain ⟨a,q,b,p,rfl,h⟩:=h
  obtain ⟨q,hq,h⟩:=ob h;obtain ⟨x,hx,h⟩:=ob h;obtain ⟨y,hy,h⟩:=ob h;cases h
  rw [AW hq];exact Jk _ _ (rc.e o hx) (rc.e o hy)
 replace h:=bR h;rcases h with h|h
 ·replace h:=sj h;obtain ⟨q,a,p,rfl,h⟩:=h
  cases q with
  |USub=>obtain ⟨x,hx,h⟩:=ob h;cases h;exact Jc (rc.e o hx)
  |Not=>obtain ⟨x,hx,h⟩:=ob h;cases h;exact Ja (rc.e o hx)
  |_=>cases h
 replace h:=bR h;rcases h with h|h
 ·replace h:=so h;obtain ⟨q,es,p,rfl,h⟩:=h
  cases q with
  |And=>exact uG (rc.e o) h
  |Or=>exact yA (rc.e o) h
 replace h:=bR h;rcases h with h|h
 ·replace h:=uh h;obtain ⟨c,a,b,p,rfl,h⟩:=h
  obtain ⟨t,ht,h⟩:=ob h;obtain ⟨x,hx,h⟩:=ob h;obtain ⟨y,hy,h⟩:=ob h;cases h
  exact Je (rc.t o ht) (rc.e o hx) (rc.e o hy)
 replace h:=bR h;rcases h with h|h
 ·replace h:=gR h;obtain ⟨es,k,p,rfl,h⟩:=h
  obtain ⟨s,hs,h⟩:=ob h;cases h;exact IZ (hJ (rc.e o) hs).1
 ·replace h:=DK h;obtain ⟨es,p,rfl,h⟩:=h
  obtain ⟨s,hs,h⟩:=ob h;cases h;exact Jd _ (hJ (rc.e o) hs).1
noncomputable def AO (g:G)(x:Str):Option (List (Str×Nat)):=if je g x=true then (match g.T.lookup x with|some (.dct fs)=>some fs|_=>none) else none
theorem sM {fa:Fa}{n:Nat}{g:G}{X:Cx}(o:eT fa n g X){x:Str}{fs:List (Str×Nat)}(h:AO g x=some fs):(∃ad kvs,X.mg x=some (.ref ad)/\fy X.K X.w.params ad kvs/\dS fa kvs fs)/\Gl X x/\(x==("__debug__":Str))=false:=by
 obtain ⟨c,h⟩:=oi h
 split at h
 ·next e=>cases h;exact ⟨o.T.dct e,cS o c⟩
 ·cases h
noncomputable def AU (R:Rc)(g:G)(e:Expr):Option GE:=Ac e fun a qs bs _=>
 (n2 qs fun q r=>n2 bs fun b c=>if 0<g.lv/\behindInMarks r c=false then (R.e g a).bind fun y=>(R.e g b).bind fun z=>(R.e g c).bind fun u=>some (sG (fu q) (fu r) y z u) else none).or
 (n1 qs fun q=>n1 bs fun b=>(if fu q=.notin then nName b fun x _=>(AO g x).bind fun fs=>(R.e g a).bind fun y=>some (iK fs y) else none).or
  (if 0<g.lv/\behindInMarks q b=false then (R.e g a).bind fun y=>(R.e g b).bind fun z=>some (aR (fu q) y z) else none))
noncomputable def EU:d9:=AU
theorem se {q:CmpOp}(h:fu q=.notin):q=.NotIn:=(cx q).symm.trans (congrArg dP h)
theorem CD:SE EU:=by
 intro fa n R rc g X o a ga h
 replace h:=oX h;obtain ⟨a,qs,bs,p,rfl,h⟩:=h
 replace h:=bR h;rcases h with h|h
 ·replace h:=iG h;obtain ⟨q,r,rfl,h⟩:=h;replace h:=iG h;obtain ⟨b,d,rfl,h⟩:=h;replace h:=oi h;obtain ⟨c,h⟩:=h
  replace h:=ob h;obtain ⟨y,hy,h⟩:=h;replace h:=ob h;obtain ⟨z,hz,h⟩:=h;replace h:=ob h;obtain ⟨u,hu,h⟩:=h;cases h
  have:=Jj (o.rm c.1) (fu q) (fu r) (rc.e o hy) (rc.e o hz) (rc.e o hu) (by rw [cx,cx];exact c.2) (pos:=p)
  rw [cx,cx] at this;exact this
 replace h:=dJ h;obtain ⟨q,rfl,h⟩:=h;replace h:=dJ h;obtain ⟨b,rfl,h⟩:=h
 replace h:=bR h;rcases h with h|h
 ·replace h:=oi h;obtain ⟨c,h⟩:=h;replace h:=dv h;obtain ⟨x,_,rfl,h⟩:=h;obtain ⟨fs,e,h⟩:=ob h
  obtain ⟨y,hy,h⟩:=ob h;cases h;obtain ⟨d,e1,e2⟩:=sM o e;rw [se c];exact Dd d e1 e2 (rc.e o hy) rfl
 ·obtain ⟨c,h⟩:=oi h
  obtain ⟨y,hy,h⟩:=ob h;obtain ⟨z,hz,h⟩:=ob h;cases h
  have:=Ji (o.rm c.1) (fu q) (rc.e o hy) (rc.e o hz) (by rw [cx];exact c.2) (pos:=p)
  rw [cx] at this;exact this
noncomputable def J2:Expr->Bool
 |.Compare ..=>false
 |.BoolOp ..=>false
 |.UnaryOp ..=>false
 |.IfExp ..=>false
 |_=>true
noncomputable def vT:HB:=fun R g e=>(Ac e fun a qs bs _=>(n1 qs fun q=>n1 bs fun b=>BB b (if fu q=.notN then (R.e g a).bind fun x=>some (aE (vo x (gC (.bl true)))) else none)).or ((AU R g e).bind fun x=>some (aE x))).or
 ((u7 e fun q es _ => match q with
   |.And=>rB (R.t g) eU es
   |.Or=>rB (R.t g) ib es).or
 ((BA e fun q a _ => match q with
   |.Not=>(R.t g a).bind fun x=>some (bN x)
   |_=>none).or (if J2 e=true then (R.e g e).bind fun x=>some (aE x) else none)))
theorem Cs {fa:Fa}{n:Nat}{R:Rc}(rc:jl fa n R){g:G}{X:Cx}(o:eT fa n g X){a:Expr}{ga:GE}(h:AU R g a=some ga):DT fa X a (aE ga):=by
 replace h:=oX h;obtain ⟨a,qs,bs,p,rfl,h⟩:=h
 replace h:=bR h;rcases h with h|h
 ·replace h:=iG h;obtain ⟨q,r,rfl,h⟩:=h;replace h:=iG h;obtain ⟨b,d,rfl,h⟩:=h;replace h:=oi h;obtain ⟨c,h⟩:=h
  replace h:=ob h;obtain ⟨y,hy,h⟩:=h;replace h:=ob h;obtain ⟨z,hz,h⟩:=h;replace h:=ob h;obtain ⟨u,hu,h⟩:=h;cases h
  have:=G8 (o.rm c.1) (fu q) (fu r) (rc.e o hy) (rc.e o hz) (rc.e o hu) (by rw [cx,cx];exact c.2) (pos:=p)
  rw [cx,cx] at this;exact this
 replace h:=dJ h;obtain ⟨q,rfl,h⟩:=h;replace h:=dJ h;obtain ⟨b,rfl,h⟩:=h
 replace h:=bR h;rcases h with h|h
 ·replace h:=oi h;obtain ⟨c,h⟩:=h;replace h:=dv h;obtain ⟨x,_,rfl,h⟩:=h;obtain ⟨fs,e,h⟩:=ob h
  obtain ⟨y,hy,h⟩:=ob h;cases h;obtain ⟨d,e1,e2⟩:=sM o e;rw [se c];exact Di d e1 e2 (rc.e o hy) rfl
 ·obtain ⟨c,h⟩:=oi h
  obtain ⟨y,hy,h⟩:=ob h;obtain ⟨z,hz,h⟩:=ob h;cases h
  have:=G7 (o.rm c.1) (fu q) (rc.e o hy) (rc.e o hz) (by rw [cx];exact c.2) (pos:=p)
  rw [cx] at this;exact this
theorem HP:ST vT:=by
 intro fa n R rc g X o a ga h
 replace h:=bR h;rcases h with h|h
 ·replace h:=oX h;obtain ⟨a,qs,bs,p,rfl,h⟩:=h
  replace h:=bR h;rcases h with h|h
  ·replace h:=dJ h;obtain ⟨q,rfl,h⟩:=h;replace h:=dJ h;obtain ⟨b,rfl,h⟩:=h;replace h:=zZ h;obtain ⟨_,_,rfl,h⟩:=h;replace h:=oi h;obtain ⟨c,h⟩:=h
   replace h:=ob h;obtain ⟨x,hx,h⟩:=h;cases h;rw [show q=.IsNot from (cx q).symm.trans (congrArg dP c)];exact Fz (rc.e o hx) Hq rfl
  ·replace h:=ob h;obtain ⟨x,hx,h⟩:=h;cases h;exact Cs rc o hx
 replace h:=bR h;rcases h with h|h
 ·replace h:=so h;obtain ⟨q,es,p,rfl,h⟩:=h
  cases q with
  |And=>exact PW.pt (tP (rc.t o) h)
  |Or=>exact PW.pt (wC (rc.t o) h)
 replace h:=bR h;rcases h with h|h
 ·replace h:=sj h;obtain ⟨q,a,p,rfl,h⟩:=h
  cases q with
  |Not=>obtain ⟨x,hx,h⟩:=ob h;cases h;exact G6 (rc.t o hx)
  |_=>cases h
 ·obtain ⟨c,h⟩:=oi h
  obtain ⟨x,hx,h⟩:=ob h;cases h
  exact AI (rc.e o hx) fun _=>by cases a<;>first|rfl|cases c
end LD
namespace LD
open PySem PySem.Spec PyProof.Rows L2
noncomputable def n6:Expr->Bool
 |.Slice ..=>false
 |_=>true
theorem rV {b:Expr}(h:n6 b=true):j0 b:=by
 intro x i
 cases b<;>first|rfl|cases h
noncomputable def cO (f:Expr->Option GE):Option Expr->Option GE
 |none=>some (gC .non)
 |some a=>f a
theorem qU {fa:Fa}{X:Cx}{f:Expr->Option GE}(hf:∀{a:Expr}{ga:GE},f a=some ga->DE fa X a ga){q:Option Expr}{ge:GE}(h:cO f q=some ge):DO fa X q q.isSome ge:=by
 cases q with
 |none=>cases h;exact Ec
 |some a=>exact Eb (hf h)
noncomputable def EI:UnaryOp->Bool
 |.USub=>true
 |_=>false
theorem Ct {q:UnaryOp}(h:EI q=true):q=.USub:=by cases q<;>first|rfl|cases h
noncomputable def EL:d9:=fun R g e=>u5 e fun a b _=>nName a fun x _=>(AO g x).bind fun fs=>if n6 b=true then (R.e g b).bind fun y=>some (kA fs y) else none
theorem Cw:SE EL:=by
 intro fa n R rc g X o a ga h
 replace h:=oW h;obtain ⟨a,b,p,rfl,h⟩:=h;replace h:=dv h;obtain ⟨x,q,rfl,h⟩:=h;obtain ⟨fs,e,h⟩:=ob h
 obtain ⟨c,h⟩:=oi h;obtain ⟨y,hy,h⟩:=ob h;cases h
 obtain ⟨d,e1,e2⟩:=sM o e
 exact De d e1 e2 (rc.e o hy) (rV c)
noncomputable def ER:d9:=fun R g e=>u5 e fun a b p=>(Ge b fun lo hi st _=>match st with
 |none=>(R.e g a).bind fun x=>(cO (R.e g) lo).bind fun y=>(cO (R.e g) hi).bind fun z=>some (if g.tx p=true then BV lo.isSome hi.isSome x y z else dw (g.cl p) lo.isSome hi.isSome x y z)
 |some s=>BA s fun q c _=>Gi c fun z=>if lo.isNone=true/\hi.isNone=true/\EI q=true/\z=1 then (R.e g a).bind fun x=>some (GU (g.cl p) x) else none).or
 (if n6 b=true then (R.e g a).bind fun x=>(R.e g b).bind fun y=>some (aH x y) else none)
theorem CB:SE ER:=by
 intro fa n R rc g X o a ga h
 replace h:=oW h;obtain ⟨a,b,p,rfl,h⟩:=h
 replace h:=bR h;rcases h with h|h
 ·replace h:=DJ h;obtain ⟨lo,hi,st,p2,rfl,h⟩:=h
  cases st with
  | none =>
    replace h:=ob h;obtain ⟨x,hx,h⟩:=h;replace h:=ob h;obtain ⟨y,hy,h⟩:=h;replace h:=ob h;obtain ⟨z,hz,h⟩:=h;cases h
    split
    ·exact Fn _ _ (rc.e o hx) (qU (rc.e o) hy) (qU (rc.e o) hz)
    ·exact I8 _ _ _ (rc.e o hx) (qU (rc.e o) hy) (qU (rc.e o) hz)
  | some s =>
    replace h:=sj h;obtain ⟨q,c,_,rfl,h⟩:=h;replace h:=DM h;obtain ⟨z,_,_,rfl,h⟩:=h;replace h:=oi h;obtain ⟨⟨c1,c2,c3,rfl⟩,h⟩:=h
    rw [NQ.mp c1,NQ.mp c2,Ct c3]
    obtain ⟨x,hx,h⟩:=ob h;cases h;exact Ie _ (rc.e o hx)
 ·obtain ⟨c,h⟩:=oi h;obtain ⟨x,hx,h⟩:=ob h;obtain ⟨y,hy,h⟩:=ob h;cases h
  exact Jg (rc.e o hx) (rc.e o hy) (rV c)
noncomputable def lx (g:G)(x:Str):Option Nat:=if (g.sc.names.lookup x==some .local||(g.sc.names.lookup x==some .cell&&g.lv != 1))=true then g.N.findIdx? (·==x) else none
noncomputable def Gx (g:G):List Expr->Option (List Nat)
 |[]=>some []
 |e::r=>nName e fun x _=>(lx g x).bind fun i=>(Gx g r).bind fun l=>some (i::l)
noncomputable def cG (g:G)(e:Expr):Option cy:=(nName e fun x _=>(lx g x).bind fun i=>some (.one i)).or (oV e fun es _ _=>if 0<g.lv then (Gx g es).bind fun l=>some (.tup l) else none)
section
variable {fa:Fa}{n:Nat}{g:G}{X:Cx}{R:Rc}(o:eT fa n g X)
include o
theorem BC {x:Str}{i:Nat}(h:lx g x=some i):X.N[i]?=some x/\L2.Loc X.env.scope x/\(X.fn x=true\/X.env.scope.names.lookup x=some .local):=by
 obtain ⟨c,h⟩:=oi h
 rw [NX,LN] at c
 refine ⟨vj o h,?_,?_⟩
 ·unfold L2.Loc;rw [o.sc]
  rcases c with z|z
  ·exact .inl (eq_of_beq z)
  ·exact .inr (eq_of_beq z.1)
 ·rcases c with z|z
  ·right;rw [o.sc];exact eq_of_beq z
  ·exact .inl (o.fn (by simpa using z.2) x)
theorem xI:∀{es:List Expr}{l:List Nat},Gx g es=some l->jD X l es
 |[],_,h=>by cases h;exact .nil
 | e :: r, _, h => by
   replace h:=dv h;obtain ⟨x,p,rfl,h⟩:=h
   obtain ⟨i,hi,h⟩:=ob h;obtain ⟨l,hl,h⟩:=ob h;cases h
   obtain ⟨a,b,c⟩:=BC o hi
   exact .cons a b c (xI hl)
theorem kG {t:Expr}{tt:cy}(h:cG g t=some tt):PG X t (gT fa X.K tt):=by
 replace h:=bR h;rcases h with h|h
 ·replace h:=dv h;obtain ⟨x,p,rfl,h⟩:=h
  replace h:=ob h;obtain ⟨i,hi,h⟩:=h;cases h
  obtain ⟨a,b,c⟩:=BC o hi
  exact Ei (o.N ▸ o.nd) a b c
 ·replace h:=gR h;obtain ⟨es,k,p,rfl,h⟩:=h
  obtain ⟨c,h⟩:=oi h;obtain ⟨l,hl,h⟩:=ob h;cases h
  exact Hg (o.calm c) (o.N ▸ o.nd) (xI o hl)
end
noncomputable def cB (nm:Str)(R:Rc)(g:G)(e:Expr):Option (List Expr×GA):=lu e fun x es _=>nC es fun a es=>if x=nm/\je g x=true/\(match g.T.lookup x with|some .bl=>true|_=>false)=true/\0<g.lv then (cA (R.e g) (a::es)).bind fun gs=>some (a::es,gs) else none
theorem mz {g:G}{x:Str}(h:(match g.T.lookup x with|some .bl=>true|_=>false)=true):g.T.lookup x=some .bl:=by
 split at h
 ·assumption
 ·cases h
theorem oB {fa:Fa}{n:Nat}{R:Rc}{nm:Str}(rc:jl fa n R){g:G}{X:Cx}(o:eT fa n g X){e:Expr}{as:List Expr}{gs:GA}(h:cB nm R g e=some (as,gs)):∃p pos a es,as=a::es/\e=.Call (.Name nm p) (a::es) [] pos/\Gl X nm/\X.mg nm=none/\0<g.lv/\DA fa X (a::es) gs/\notStar a=true/\es.all notStar=true:=by
 replace h:=fE h;obtain ⟨x,q,es,p,rfl,h⟩:=h;replace h:=iF h;obtain ⟨a,es,rfl,h⟩:=h
 replace h:=oi h;obtain ⟨⟨rfl,c1,c2,c3⟩,h⟩:=h
 obtain ⟨gs,hgs,h⟩:=ob h;cases h
 obtain ⟨d,ns⟩:=hJ (rc.e o) hgs
 rw [MB,LN] at ns
 exact ⟨_,_,_,_,rfl,rfl,(cS o c1).1,o.T.bl (mz c2),c3,d,ns.1,ns.2⟩
noncomputable def EO:d9:=fun R g e=>(cB "len" R g e).bind fun q=>some (aV .len q.2)
theorem CA:SE EO:=fun {fa n R} rc {g X} o {a ga} h=>by
 obtain ⟨⟨as,gs⟩,hq,h⟩:=ob h;cases h
 obtain ⟨_,_,_,_,_,rfl,hg,hm,_,d,n1,n2⟩:=oB rc o hq
 exact vC .len IQ hg hm PySem.boot_len d (by decide) (by decide) (bh n1) (cm n2)
noncomputable def EV:d9:=fun R g e=>(cB "all" R g e).bind fun q=>some (aV .all q.2)
theorem CF:SE EV:=fun {fa n R} rc {g X} o {a ga} h=>by
 obtain ⟨⟨as,gs⟩,hq,h⟩:=ob h;cases h
 obtain ⟨_,_,_,_,_,rfl,hg,hm,lv,d,n1,n2⟩:=oB rc o hq
 exact vC .all (IS (o.calm lv)) hg hm (by decide +kernel) d (by decide) (by decide) (bh n1) (cm n2)
noncomputable def EK:d9:=fun R g e=>(cB "sum" R g e).bind fun q=>some (aV .sum q.2)
theorem Cu:SE EK:=fun {fa n R} rc {g X} o {a ga} h=>by
 obtain ⟨⟨as,gs⟩,hq,h⟩:=ob h;cases h
 obtain ⟨_,_,_,_,_,rfl,hg,hm,lv,d,n1,n2⟩:=oB rc o hq
 exact vC .sum (IP (o.calm lv)) hg hm (by decide +kernel) d (by decide) (by decide) (bh n1) (cm n2)
noncomputable def wd:d9:=fun R g e=>(cB "tuple" R g e).bind fun q=>some (aV .tuple q.2)
theorem wc:SE wd:=fun {fa n R} rc {g X} o {a ga} h=>by
 obtain ⟨⟨as,gs⟩,hq,h⟩:=ob h;cases h
 obtain ⟨_,_,_,_,_,rfl,hg,hm,_,d,n1,n2⟩:=oB rc o hq
 exact yk .tuple D3 hg hm (by decide +kernel) d (by decide) (by decide) (bh n1) (cm n2)
noncomputable def Bg:d9:=fun R g e=>(cB "list" R g e).bind fun q=>some (aV (.list (g.cl e.pos)) q.2)
theorem yR:SE Bg:=fun {fa n R} rc {g X} o {a ga} h=>by
 obtain ⟨⟨as,gs⟩,hq,h⟩:=ob h;cases h
 obtain ⟨_,_,_,_,_,rfl,hg,hm,_,d,n1,n2⟩:=oB rc o hq
 exact yk (.list _) (GZ _) hg hm (by decide +kernel) d (by decide) (by decide) (bh n1) (cm n2)
noncomputable def cR (R:Rc)(g:G)(nm:Str)(e:Expr):Option (Expr×GE):=lu e fun x es _=>n1 es fun a=>if x=nm/\je g x=true/\(match g.T.lookup x with|some .bl=>true|_=>false)=true/\0<g.lv/\notStar a=true then (R.e g a).bind fun y=>some (a,y) else none
theorem vJ {fa:Fa}{n:Nat}{R:Rc}{nm:Str}(rc:jl fa n R){g:G}{X:Cx}(o:eT fa n g X){e a:Expr}{ga:GE}(h:cR R g nm e=some (a,ga)):∃p pos,e=.Call (.Name nm p) [a] [] pos/\Gl X nm/\X.mg nm=none/\0<g.lv/\DE fa X a ga/\starEach [a] X.env=[(false,eval a X.env)]:=by
 replace h:=fE h;obtain ⟨x,q,es,p,rfl,h⟩:=h;replace h:=dJ h;obtain ⟨a,rfl,h⟩:=h
 replace h:=oi h;obtain ⟨⟨rfl,c1,c2,c3,c4⟩,h⟩:=h
 obtain ⟨y,hy,h⟩:=ob h;cases h
 exact ⟨_,_,rfl,(cS o c1).1,o.T.bl (mz c2),c3,rc.e o hy,bh c4⟩
noncomputable def wg:d9:=fun R g e=>lu e fun x es p=>n1 es fun b=>if x="list"/\je g x=true/\(match g.T.lookup x with|some .bl=>true|_=>false)=true then (cR R g "range" b).bind fun q=>some (lB (g.cl p) q.2) else none
theorem we:SE wg:=fun {fa n R} rc {g X} o {a ga} h=>by
 replace h:=fE h;obtain ⟨x,q,es,p,rfl,h⟩:=h;replace h:=dJ h;obtain ⟨b,rfl,h⟩:=h
 replace h:=oi h;obtain ⟨⟨rfl,c1,c2⟩,h⟩:=h
 obtain ⟨⟨b,y⟩,hq,h⟩:=ob h;cases h
 obtain ⟨_,_,rfl,hg,hm,lv,d,hs⟩:=vJ rc o hq
 exact C9 _ (o.calm lv) d (cS o c1).1 (o.T.bl (mz c2)) hg hm hs rfl
noncomputable def yW (x:Str):Option Ty:=if x="int" then some .int else if x="bool" then some .bool else if x="str" then some .str else if x="tuple" then some .tuple else if x="list" then some .list else none
theorem CG {x:Str}{t:Ty}(h:yW x=some t):bootBuiltins x=some (.type (tyName t))/\(∀c,t≠.own c)/\x≠"__name__"/\(x==("__debug__":Str))=false:=by
 unfold yW at h
 split at h
 ·subst x;cases h;exact ⟨by decide +kernel,(fun _ z=>nomatch z),by decide,by decide⟩
 split at h
 ·subst x;cases h;exact ⟨by decide +kernel,(fun _ z=>nomatch z),by decide,by decide⟩
 split at h
 ·subst x;cases h;exact ⟨by decide +kernel,(fun _ z=>nomatch z),by decide,by decide⟩
 split at h
 ·subst x;cases h;exact ⟨by decide +kernel,(fun _ z=>nomatch z),by decide,by decide⟩
 split at h
 ·subst x;cases h;exact ⟨by decide +kernel,(fun _ z=>nomatch z),by decide,by decide⟩
 ·cases h
noncomputable def cI (R:Rc)(g:G)(e:Expr):Option (Str×GE):=lu e fun y es _=>n2 es fun a b=>nName b fun x _=>if y="isinstance"/\je g y=true/\(match g.T.lookup y with|some .bl=>true|_=>false)=true/\je g x=true/\notStar a=true then (R.e g a).bind fun z=>some (x,z) else none
theorem Jn {fa:Fa}{n:Nat}{R:Rc}(rc:jl fa n R){g:G}{X:Cx}(o:eT fa n g X){e:Expr}{x:Str}{ga:GE}(h:cI R g e=some (x,ga)):∃p q a pos,e=.Call (.Name "isinstance" p) [a,.Name x q] [] pos/\Gl X "isinstance"/\X.mg "isinstance"=none/\Gl X x/\(x==("__debug__":Str))=false/\DE fa X a ga/\starEach [a,.Name x q] X.env=(false,eval a X.env)::starEach [.Name x q] X.env:=by
 replace h:=fE h;obtain ⟨y,q,es,p,rfl,h⟩:=h;replace h:=iG h;obtain ⟨a,b,rfl,h⟩:=h;replace h:=dv h;obtain ⟨x,q2,rfl,h⟩:=h
 replace h:=oi h;obtain ⟨⟨rfl,c1,c2,c3,c4⟩,h⟩:=h
 obtain ⟨z,hz,h⟩:=ob h;cases h
 exact ⟨_,_,_,_,rfl,(cS o c1).1,o.T.bl (mz c2),(cS o c3).1,(cS o c3).2,rc.e o hz,bh c4⟩
noncomputable def Bh:d9:=fun R g e=>(cI R g e).bind fun q=>if (match g.T.lookup q.1 with|some .bl=>true|_=>false)=true then (yW q.1).bind fun t=>some (cE t q.2) else none
theorem yS:SE Bh:=fun {fa n R} rc {g X} o {a ga} h=>by
 obtain ⟨⟨x,z⟩,hq,h⟩:=ob h
 obtain ⟨c,h⟩:=oi h
 obtain ⟨t,ht,h⟩:=ob h;cases h
 obtain ⟨_,_,_,_,rfl,hg,hm,hx,hd,d,hs⟩:=Jn rc o hq
 obtain ⟨b1,b2,b3,b4⟩:=CG ht
 exact Hm t b2 d hg hm (by decide +kernel) hx (o.T.bl (mz c)) b1 b3 b4 hs
noncomputable def Bj:d9:=fun R g e=>lu e fun x es _=>nC es fun a es=>if 0<g.lv then (match vr g x with
 |some i=>(cA (R.e g) (a::es)).bind fun gs=>some (lC i g.c gs)
 | none => if je g x = true then (match g.T.lookup x with
   |some (.fn i _)=>(cA (R.e g) (a::es)).bind fun gs=>some (av i g.c gs)
   |_=>none) else none) else none
theorem yU:SE Bj:=fun {fa n R} rc {g X} o {a ga} h=>by
 replace h:=fE h;obtain ⟨x,q,es,p,rfl,h⟩:=h;replace h:=iF h;obtain ⟨a,es,rfl,h⟩:=h
 ·obtain ⟨lv,h⟩:=oi h
  split at h
  ·next e=>
   obtain ⟨gs,hgs,h⟩:=ob h;cases h
   obtain ⟨d,ns⟩:=hJ (rc.e o) hgs
   rw [MB,LN] at ns
   obtain ⟨a,b,c1,c2⟩:=Bb o e
   exact Em (o.C lv) ((o.hr lv).mono (NI _)) a b d c1 c2 (bh ns.1) (cm ns.2)
  ·obtain ⟨c,h⟩:=oi h
   split at h
   ·next e=>
    obtain ⟨gs,hgs,h⟩:=ob h;cases h
    obtain ⟨d,ns⟩:=hJ (rc.e o) hgs
    rw [MB,LN] at ns
    exact Ho (o.C lv _) ((o.hr lv).mono (NI _)) (cS o c).1 (o.T.fn e) d (cS o c).2 (bh ns.1) (cm ns.2)
   ·cases h
noncomputable def A5:d9:=fun R g e=>(lu e fun x es _=>nC es fun a es=>if 2<=g.lv/\je g x=true then (match g.T.lookup x with
 |some (.fn i true)=>(cA (R.e g) (a::es)).bind fun gs=>some (dz i g.c gs)
 |_=>none) else none).or (Ab e fun c a b _=>(R.x g a).bind fun x=>(R.x g b).bind fun y=>(R.t g c).bind fun t=>some (vp t x y))
theorem yE:SX A5:=fun {fa n R} rc {g X} o {a ga} h=>by
 replace h:=bR h;rcases h with h|h
 ·replace h:=fE h;obtain ⟨x,q,es,p,rfl,h⟩:=h;replace h:=iF h;obtain ⟨a,es,rfl,h⟩:=h
  replace h:=oi h;obtain ⟨⟨lv,c⟩,h⟩:=h
  split at h
  ·next e=>
   replace h:=ob h;obtain ⟨gs,hgs,h⟩:=h;cases h
   obtain ⟨d,ns⟩:=hJ (rc.e o) hgs
   rw [MB,LN] at ns
   exact x_call _ (o.C (by omega)) ((o.hr (by omega)).mono (NI _)) (o.top lv).1 (cS o c).1 (o.T.fn e) d (cS o c).2 ns.1 ns.2
  ·cases h
 ·replace h:=uh h;obtain ⟨c,a,b,p,rfl,h⟩:=h
  obtain ⟨x,hx,h⟩:=ob h;obtain ⟨y,hy,h⟩:=ob h;obtain ⟨t,ht,h⟩:=ob h;cases h
  exact HN (rc.t o ht) (rc.x o hx) (rc.x o hy)
theorem Fj {n:Nat}{A:MK}(h:bx (n+4) A):bx 2 A:=h.mono (by omega)
noncomputable def jU:Expr->Bool
 |.Call ..=>false
 |_=>true
theorem fv {a:Expr}{m:Str}{env:Mw}{w:Sem LI}(h:jU a=true):attributeBase a m env w=w:=by
 cases a<;>first|rfl|cases h
noncomputable def Jw:d9:=fun R g e=>Gh e fun l _=>nC l fun a l=>n2 l fun b c=>Aa a fun z=>JM b fun b=>Aa c fun y=>(R.e g b).bind fun x=>some (BX z y x)
theorem ET:SE Jw:=fun {fa n R} rc {g X} o {a ga} h=>by
 replace h:=DL h;obtain ⟨l,p,rfl,h⟩:=h;replace h:=iF h;obtain ⟨a,l,rfl,h⟩:=h;replace h:=iG h;obtain ⟨b,c,rfl,h⟩:=h
 replace h:=ug h;obtain ⟨z,_,_,rfl,h⟩:=h;replace h:=Gk h;obtain ⟨b,_,rfl,h⟩:=h;replace h:=ug h;obtain ⟨y,_,_,rfl,h⟩:=h
 obtain ⟨x,hx,h⟩:=ob h;cases h;exact Kj (rc.e o hx)
end LD
namespace LD
open PySem PySem.Spec PyProof.Rows L2
noncomputable def A9:td:=fun R g _ e=>(cR R g "range" e).bind fun q=>some (dF q.2)
theorem yL:SW A9:=fun {fa n R} rc {g X} o {t a ga} h=>by
 obtain ⟨⟨b,y⟩,hq,h⟩:=ob h;cases h
 obtain ⟨_,_,rfl,hg,hm,_,d,hs⟩:=vJ rc o hq
 exact Eg d hg hm hs
noncomputable def Ba:td:=fun R g t e=>oV t fun _ _ _=>(cR R g "enumerate" e).bind fun q=>some (mj q.2)
theorem yM:SW Ba:=fun {fa n R} rc {g X} o {t a ga} h=>by
 replace h:=gR h;obtain ⟨_,_,_,rfl,h⟩:=h
 obtain ⟨⟨b,y⟩,hq,h⟩:=ob h;cases h
 obtain ⟨_,_,rfl,hg,hm,_,d,hs⟩:=vJ rc o hq
 exact Eh d hg hm hs
noncomputable def cN (R:Rc)(g:G)(nm:Str)(e:Expr):Option (List Expr):=lu e fun x es _=>if x=nm/\je g x=true/\(match g.T.lookup x with|some .bl=>true|_=>false)=true/\0<g.lv/\es.all notStar=true then some es else none
theorem B3 {fa:Fa}{n:Nat}{R:Rc}{nm:Str}{g:G}{X:Cx}(o:eT fa n g X){e:Expr}{es:List Expr}(h:cN R g nm e=some es):∃p pos,e=.Call (.Name nm p) es [] pos/\Gl X nm/\X.mg nm=none/\es.all notStar=true:=by
 replace h:=fE h;obtain ⟨x,q,es,p,rfl,h⟩:=h
 replace h:=oi h;obtain ⟨⟨rfl,c1,c2,c3,c4⟩,h⟩:=h
 cases h
 exact ⟨_,_,rfl,(cS o c1).1,o.T.bl (mz c2),c4⟩
theorem kc {env:Mw}:∀{es:List Expr},es.all notStar=true->starEach es env=es.map fun a=>(false,eval a env)
 |[],_=>rfl
 | a :: es, h => by
   rw [MB,LN] at h
   rw [bh h.1,kc h.2];rfl
noncomputable def A8:td:=fun R g t e=>oV t fun _ _ _=>(cN R g "zip" e).bind fun es=>n2 es fun a b=>(R.e g a).bind fun x=>(R.e g b).bind fun y=>some (mf x y)
theorem yK:SW A8:=fun {fa n R} rc {g X} o {t a ga} h=>by
 replace h:=gR h;obtain ⟨_,_,_,rfl,h⟩:=h
 obtain ⟨es,hq,k⟩:=ob h;clear h
 obtain ⟨_,_,rfl,hg,hm,ns⟩:=B3 o hq
 replace k:=iG k;obtain ⟨a,b,rfl,k⟩:=k
 obtain ⟨x,hx,k⟩:=ob k;obtain ⟨y,hy,k⟩:=ob k;cases k
 exact Ee (rc.e o hx) (rc.e o hy) hg hm (kc ns) (kc (NL.mp (MB ▸ ns)).2)
noncomputable def A7:td:=fun R g t e=>oV t fun _ _ _=>(cN R g "zip" e).bind fun es=>nC es fun a es=>n2 es fun b c=>(R.e g a).bind fun x=>(R.e g b).bind fun y=>(R.e g c).bind fun z=>some (md x y z)
theorem yJ:SW A7:=fun {fa n R} rc {g X} o {t a ga} h=>by
 replace h:=gR h;obtain ⟨_,_,_,rfl,h⟩:=h
 obtain ⟨es,hq,k⟩:=ob h;clear h
 obtain ⟨_,_,rfl,hg,hm,ns⟩:=B3 o hq
 replace k:=iF k;obtain ⟨a,es,rfl,k⟩:=k
 replace k:=iG k;obtain ⟨b,c,rfl,k⟩:=k
 obtain ⟨x,hx,k⟩:=ob k;obtain ⟨y,hy,k⟩:=ob k;obtain ⟨z,hz,k⟩:=ob k;cases k
 have n2:=(NL.mp (MB ▸ ns)).2
 have n3:=(NL.mp (MB ▸ n2)).2
 exact Ed (rc.e o hx) (rc.e o hy) (rc.e o hz) hg hm (kc ns) (kc n2) (kc n3)
noncomputable def EH:td:=fun R g _ e=>(R.e g e).bind fun x=>some (if g.tx e.pos=true then BW x else eY x)
theorem Cq:SW EH:=fun {fa n R} rc {g X} o {t a ga} h=>by
 obtain ⟨x,hx,h⟩:=ob h;cases h
 split
 ·exact Ef (rc.e o hx)
 ·exact Hf (rc.e o hx)
noncomputable def lq:Expr->Bool
 |.Set ..=>false
 |_=>true
theorem yf {a:Expr}{env:Mw}(h:lq a=true)(x:LI):foldedSetIterable a env x=pure x:=by
 cases a<;>first|rfl|cases h
noncomputable def zU:Expr->List Str
 |.Name x _=>[x]
 |.Tuple es _ _=>es.filterMap fun|.Name x _=>some x|_=>none
 |_=>[]
noncomputable def sV (g:G)(own:List Str):List Str:=g.N.map fun x=>if own.contains x then x++("%":Str) else x
noncomputable def zI (scope sc:Scope):Scope:={scope with names:=scope.names.map fun (n,k)=>if (k==.free&&sc.kind==.function&&sc.names.lookup n==some .cell) then (n,.cell) else (n,k)}
noncomputable def G.inC (g:G)(own:List Str)(scope:Scope):G:={g with N:=own++sV g own,sc:=zI scope g.sc,lv:=1}
noncomputable def xx (g:G)(own:List Str)(scope:Scope):Prop:=0<g.lv/\scope.kind=.function/\pz (sV g own) g.N g.sc scope=true/\(own++sV g own).Nodup
noncomputable instance (g:G) (own:List Str) (scope:Scope):Decidable (xx g own scope):=by unfold xx;infer_instance
theorem B2 {fa:Fa}{n:Nat}{g:G}{X:Cx}(o:eT fa n g X){own:List Str}{scope:Scope}(c:xx g own scope):ik X own (sV g own) scope/\∀cl C fp s H,eT fa n (g.inC own scope) (gF X own (sV g own) scope cl C fp s H):=by
 obtain ⟨c1,c2,c3,c4⟩:=c
 refine ⟨yr c2 o.sc o.N c3,fun cl C fp s H=>⟨rfl,c4,?_,o.T,o.tw,o.xf,o.ms,(fun z=>absurd rfl z),fun _=>o.calm c1,fun _=>o.C c1,fun _=>o.hr c1,(fun z=>absurd (show 2<=1 from z) (by decide)),(fun z=>nomatch z)⟩⟩
 show relabel scope X.env=zI scope g.sc
 unfold relabel zI Env.kindOf
 rw [o.sc]
structure HI (fa:Fa) (X:Cx) (e:Expr) (k:Nat) (t:cy) (gw:GW) (gb:GB):Prop where
 ex:∃elt tg iter ifs rest scope pos own bn W body,e=.ListComp elt (⟨tg,iter,ifs,0⟩::rest) scope pos/\k=own.length/\ik X own bn scope/\DI fa X tg iter gw/\Block fa X own bn scope tg t W body gb/\oF X elt tg iter ifs rest scope pos body/\(∀i∈W,i∉slots t)/\(∀i∈slots t++W,i<own.length)/\∀x,foldedSetIterable iter X.env x=pure x
noncomputable def cC (R:Rc)(g:G)(e:Expr):Option (Nat×cy×GW×GB):=Gg e fun elt gens scope _=>(n1 gens fun c=>nG c fun tg iter ifs=>let own:=zU tg
 if xx g own scope/\lq iter=true then (R.w g tg iter).bind fun w=>(cG (g.inC own scope) tg).bind fun t=>(R.e (g.inC own scope) elt).bind fun x=>if (slots t).all (· < own.length)=true then (n0 ifs (some (own.length,t,w,bU x))).or (n1 ifs fun c=>(R.t (g.inC own scope) c).bind fun q=>some (own.length,t,w,uv q (bU x))) else none else none).or
 (n2 gens fun c d=>nG c fun tg iter ifs=>nG d fun t2 i2 ifs2=>let own:=zU tg++zU t2
  n0 ifs (n0 ifs2 (if xx g own scope/\lq iter=true/\lq i2=true then (R.w g tg iter).bind fun w=>(cG (g.inC own scope) tg).bind fun t=>(R.w (g.inC own scope) t2 i2).bind fun w2=>(cG (g.inC own scope) t2).bind fun u=>(R.e (g.inC own scope) elt).bind fun x=>if (slots t++slots u).all (· < own.length)=true/\(slots u).all (fun i=>!(slots t).contains i)=true then some (own.length,t,w,sF u w2 (bU x)) else none else none)))
theorem B4 {fa:Fa}{n:Nat}{R:Rc}(rc:jl fa n R){g:G}{X:Cx}(o:eT fa n g X){e:Expr}{k:Nat}{t:cy}{gw:GW}{gb:GB}(h:cC R g e=some (k,t,gw,gb)):HI fa X e k t gw gb:=by
 replace h:=xD h;obtain ⟨elt,gens,scope,p,rfl,h⟩:=h
 replace h:=bR h;rcases h with h|h
 ·replace h:=dJ h;obtain ⟨c,rfl,h⟩:=h;replace h:=u6 h;obtain ⟨tg,iter,ifs,rfl,h⟩:=h
  replace h:=oi h;obtain ⟨⟨c,cs⟩,h⟩:=h
  replace h:=ob h;obtain ⟨w,hw,h⟩:=h;replace h:=ob h;obtain ⟨t,ht,h⟩:=h;replace h:=ob h;obtain ⟨x,hx,h⟩:=h;replace h:=oi h;obtain ⟨c2,h⟩:=h
  obtain ⟨S,O⟩:=B2 o c
  replace h:=bR h;rcases h with h|h
  ·replace h:=gx h;obtain ⟨rfl,h⟩:=h;cases h
   exact ⟨_,_,_,_,_,_,_,_,_,[],_,rfl,rfl,S,rc.w o hw,⟨fun cl C fp s H=>kG (O cl C fp s H) ht,fun cl C fp s H a=>sN (rc.e (O cl C fp s H) hx)⟩,(fun it a env=>yZ _ _ _ [] _ _ (.ref it) (.ref a) env),(fun i h=>nomatch h),(by simpa using mW c2),yf cs⟩
  ·replace h:=dJ h;obtain ⟨d,rfl,h⟩:=h;replace h:=ob h;obtain ⟨q,hq,h⟩:=h;cases h
   exact ⟨_,_,_,_,_,_,_,_,_,[],_,rfl,rfl,S,rc.w o hw,⟨fun cl C fp s H=>kG (O cl C fp s H) ht,fun cl C fp s H a=>IX (rc.t (O cl C fp s H) hq) (sN (rc.e (O cl C fp s H) hx))⟩,(fun it a env=>turn_if _ _ _ _ _ _ (.ref it) (.ref a) env),(fun i h=>nomatch h),(by simpa using mW c2),yf cs⟩
 ·replace h:=iG h;obtain ⟨c,d,rfl,h⟩:=h;replace h:=u6 h;obtain ⟨tg,iter,ifs,rfl,h⟩:=h;replace h:=u6 h;obtain ⟨t2,i2,ifs2,rfl,h⟩:=h;replace h:=gx h;obtain ⟨rfl,h⟩:=h;replace h:=gx h;obtain ⟨rfl,h⟩:=h
  obtain ⟨⟨c,cs,cs2⟩,h⟩:=oi h
  obtain ⟨w,hw,h⟩:=ob h;obtain ⟨t,ht,h⟩:=ob h;obtain ⟨w2,hw2,h⟩:=ob h;obtain ⟨u,hu,h⟩:=ob h;obtain ⟨x,hx,h⟩:=ob h;obtain ⟨⟨c2,c3⟩,h⟩:=oi h;cases h
  obtain ⟨S,O⟩:=B2 o c
  exact ⟨_,_,_,_,_,_,_,_,_,slots u,_,rfl,rfl,S,rc.w o hw,⟨fun cl C fp s H=>kG (O cl C fp s H) ht,fun cl C fp s H a=>Hh (X:=gF X _ _ _ cl C fp s H) rfl (o.calm c.1) (rc.w (O cl C fp s H) hw2) (kG (O cl C fp s H) hu) (rc.e (O cl C fp s H) hx) (yf cs2)⟩,(fun it a env=>yX _ _ _ _ _ _ _ (.ref it) (.ref a) env),wV c3,mW c2,yf cs⟩
noncomputable def Bi:d9:=fun R g e=>if 0<g.lv then (cC R g e).bind fun q=>some (b7 (g.cl e.pos) q.1 q.2.1 q.2.2.1 q.2.2.2) else none
theorem yT:SE Bi:=fun {fa n R} rc {g X} o {a ga} h=>by
 obtain ⟨lv,h⟩:=oi h
 obtain ⟨⟨k,t,w,b⟩,hq,h⟩:=ob h;cases h
 obtain ⟨elt,tg,iter,ifs,rest,scope,pos,own,bn,W,body,rfl,rfl,S,hi,B,T,h1,h2,h3⟩:=(B4 rc o hq).ex
 exact Hn _ S (o.calm lv) hi B T h1 h2 h3
noncomputable def uE (f:Stmt->Option GS):List Stmt->Option GS
 |[]=>some ak
 |a::r=>(f a).bind fun x=>(uE f r).bind fun y=>some (ag x y)
theorem lL {fa:Fa}{X:Cx}{f:Stmt->Option GS}(hf:∀{a:Stmt}{ga:GS},f a=some ga->DS fa X a ga):∀{ss:List Stmt}{gs:GS},uE f ss=some gs->mS fa X ss gs
 |[],_,h=>by cases h;exact D8
 | a :: r, _, h => by
   obtain ⟨x,hx,h⟩:=ob h;obtain ⟨y,hy,h⟩:=ob h;cases h
   exact AJ (hf hx) (lL hf hy)
noncomputable def lY:Expr->Bool
 |.ListComp ..=>false
 |.SetComp ..=>false
 |.DictComp ..=>false
 |_=>true
theorem uf {a:Expr}{t:Option Expr}{l:Nat}{env:Mw}(h:lY a=true):swapsWith a t l env=pure false:=by
 cases a<;>first|rfl|cases h
noncomputable def Hw (g:G)(tg a:Expr):Bool:=match a with
 |.ListComp ..=>(match tg with|.Name y _=>g.sc.names.lookup y==some .cell|_=>false)
 |.Tuple ..=>(match tg with|.Name ..=>true|_=>false)
 |.SetComp ..=>false
 |.DictComp ..=>false
 |_=>true
theorem Hv {fa:Fa}{n:Nat}{g:G}{X:Cx}(o:eT fa n g X){tg a:Expr}{t:cy}{l:Nat}(c:Hw g tg a=true)(ht:cG g tg=some t):swapsWithSole [tg] a l X.env=pure false/\swappedStores [tg] a X.env=pure none/\(assignEach [tg] X.env).map (·.2)=[assign tg X.env]:=by
 refine ⟨?_,?_,?_⟩
 ·cases a<;>first|rfl|cases c|skip
  cases tg<;>first|cases c|skip
  next y p=>
  have e:=eq_of_beq c
  have hk:(X.env.kindOf y==some .local)=false:=by unfold Env.kindOf;rw [o.sc,e];rfl
  show (pure (X.env.blockKind==.function&&X.env.kindOf y==some .local&&_&&_):Sem Bool)=pure false
  rw [hk,Bool.and_false,Bool.false_and,Bool.false_and]
 ·replace ht:=bR ht;rcases ht with h|h
  ·replace h:=dv h;obtain ⟨_,_,rfl,_⟩:=h;cases a<;>first|rfl|cases c
  ·replace h:=gR h;obtain ⟨_,_,_,rfl,_⟩:=h;cases a<;>first|rfl|cases c
 ·replace ht:=bR ht;rcases ht with h|h
  ·replace h:=dv h;obtain ⟨_,_,rfl,_⟩:=h;rfl
  ·replace h:=gR h;obtain ⟨_,_,_,rfl,_⟩:=h;rfl
noncomputable def EC:oH:=fun R g st=>rN st fun ts a _=>n1 ts fun tg=>if Hw g tg a=true then (cG g tg).bind fun t=>((R.x g a).bind fun x=>some (g9 t x)).or ((R.e g a).bind fun x=>some (aJ t x)) else none
theorem Cn:SS EC:=fun {fa n R} rc {g X} o {a ga} h=>by
 replace h:=lV h;obtain ⟨ts,a,p,rfl,h⟩:=h;replace h:=dJ h;obtain ⟨tg,rfl,h⟩:=h
 obtain ⟨c,h⟩:=oi h;obtain ⟨t,ht,h⟩:=ob h
 obtain ⟨a1,a2,a3⟩:=Hv (l:=p.line) o c ht
 replace h:=bR h;rcases h with h|h
 ·obtain ⟨x,e,h⟩:=ob h;cases h;exact Fb (rc.x o e) (kG o ht) a1 a2 a3
 ·obtain ⟨x,hx,h⟩:=ob h;cases h;exact Hd (rc.e o hx) (kG o ht) a1 a2 a3
noncomputable def A4:oH:=fun R g st=>rN st fun ts d _=>n1 ts fun t=>nName t fun y py=>Gg d fun elt gens scope p=>if 2<=g.lv/\g.sc.names.lookup y=some .local/\(py.line==p.line)=true/\(scope.names.any fun (n,k)=>n==y&&(k==.local||k==.cell))=false then (cC R g (.ListComp elt gens scope p)).bind fun q=>(g.N.findIdx? (·==y)).bind fun i=>some (aJ (.one i) (b7 (g.cl p) q.1 q.2.1 q.2.2.1 q.2.2.2)) else none
theorem yD:SS A4:=fun {fa n R} rc {g X} o {a ga} h=>by
 replace h:=lV h;obtain ⟨ts,d,_,rfl,h⟩:=h;replace h:=dJ h;obtain ⟨t,rfl,h⟩:=h;replace h:=dv h;obtain ⟨y,py,rfl,h⟩:=h;replace h:=xD h;obtain ⟨_,_,sc0,p,rfl,h⟩:=h
 ·next=>
  obtain ⟨⟨lv,c1,c2,c3⟩,h⟩:=oi h
  obtain ⟨⟨k,t,w,b⟩,hq,h⟩:=ob h;obtain ⟨i,hi,h⟩:=ob h;cases h
  obtain ⟨elt,tg,iter,ifs,rest,scope,pos,own,bn,W,body,e0,rfl,S,hi',B,T,h1,h2,h3⟩:=(B4 rc o hq).ex
  cases e0
  have hl:X.env.scope.names.lookup y=some .local:=by rw [o.sc];exact c1
  refine vA _ S (o.calm (by omega)) hi' B T h1 h2 h3 (o.N ▸ o.nd) (vj o hi) hl ?_
  have hk:=(o.top lv).2.2.2
  have hb:(X.env.blockKind==.function)=true:=by unfold Env.blockKind;rw [hk];rfl
  have hkd:(X.env.kindOf y==some .local)=true:=by unfold Env.kindOf;rw [hl];rfl
  show (pure (X.env.blockKind==.function&&X.env.kindOf y==some .local&&(py.line==p.line)&&!(sc0.names.any fun (n,k)=>n==y&&(k==.local||k==.cell))):Sem Bool)=pure true
  rw [hb,hkd,c2,c3];rfl
noncomputable def EA:oH:=fun R g st=>rN st fun ts d _=>n1 ts fun t=>u5 t fun a b _=>if n6 b=true then (R.e g a).bind fun x=>(R.e g b).bind fun y=>(R.e g d).bind fun z=>some (ef x y z) else none
theorem Ck:SS EA:=fun {fa n R} rc {g X} o {a ga} h=>by
 replace h:=lV h;obtain ⟨ts,d,_,rfl,h⟩:=h;replace h:=dJ h;obtain ⟨t,rfl,h⟩:=h;replace h:=oW h;obtain ⟨a,b,p2,rfl,h⟩:=h
 ·next=>
  obtain ⟨c,h⟩:=oi h
  obtain ⟨x,hx,h⟩:=ob h;obtain ⟨y,hy,h⟩:=ob h;obtain ⟨z,hz,h⟩:=ob h;cases h
  refine Ha (rc.e o hx) (rc.e o hy) (rc.e o hz) (fun v=>?_) ?_ ?_ rfl
  ·cases b<;>first|rfl|cases c
  ·cases d<;>rfl
  ·cases d<;>rfl
noncomputable def ED:oH:=fun R g st=>zD st fun e _=>JN e fun a m d q=>if m="append"/\jU a=true/\q=true/\notStar d=true then (R.e g a).bind fun x=>(R.e g d).bind fun y=>some (fB x y) else none
theorem Co:SS ED:=fun {fa n R} rc {g X} o {a ga} h=>by
 replace h:=tY h;obtain ⟨e,_,rfl,h⟩:=h;replace h:=Gm h;obtain ⟨a,m,q,d,p,rfl,h⟩:=h
 replace h:=oi h;obtain ⟨⟨rfl,c1,c2,c3⟩,h⟩:=h
 obtain ⟨x,hx,h⟩:=ob h;obtain ⟨y,hy,h⟩:=ob h;cases h
 exact He (rc.e o hx) (rc.e o hy) (fv c1) c2 (bh c3) rfl
noncomputable def Ez:oH:=fun R g st=>(zD st fun a _=>if lY a=true then ((R.x g a).bind fun x=>some (jG x)).or ((R.e g a).bind fun x=>some (w5 x)) else none).or
 ((JD st fun q _ => match q with
   |none=>some Bq
   |some a=>((R.x g a).bind fun x=>some (uT x)).or ((R.e g a).bind fun x=>some (aP x))).or
 ((JE st fun _=>some Br).or
 ((JF st fun c st sf _=>(R.t g c).bind fun t=>(uE (R.s g) st).bind fun x=>(uE (R.s g) sf).bind fun y=>some (aT t x y)).or
 (JG st fun tg a body el _=>n0 el (if g.lv=2/\lq a=true then (R.w g tg a).bind fun w=>(cG g tg).bind fun t=>(uE (R.s g) body).bind fun x=>some (fA t w x) else none)))))
theorem Cj:SS Ez:=fun {fa n R} rc {g X} o {a ga} h=>by
 replace h:=bR h;rcases h with h|h
 ·replace h:=tY h;obtain ⟨a,p,rfl,h⟩:=h
  obtain ⟨c,h⟩:=oi h
  rcases bR h with h|h
  ·obtain ⟨x,e,h⟩:=ob h;cases h;exact Ia (rc.x o e) (uf c)
  ·obtain ⟨x,hx,h⟩:=ob h;cases h;exact IW (rc.e o hx) (uf c)
 replace h:=bR h;rcases h with h|h
 ·replace h:=Fd h;obtain ⟨q,p,rfl,h⟩:=h
  cases q with
  |none=>cases h;exact D9
  | some a =>
    rcases bR h with h|h
    ·obtain ⟨x,e,h⟩:=ob h;cases h;exact E8 (rc.x o e)
    ·obtain ⟨x,hx,h⟩:=ob h;cases h;exact G9 (rc.e o hx)
 replace h:=bR h;rcases h with h|h
 ·replace h:=Ff h;obtain ⟨p,rfl,h⟩:=h;cases h;exact Ea
 replace h:=bR h;rcases h with h|h
 ·replace h:=Fh h;obtain ⟨c,st,sf,p,rfl,h⟩:=h
  obtain ⟨t,ht,h⟩:=ob h;obtain ⟨x,hx,h⟩:=ob h;obtain ⟨y,hy,h⟩:=ob h;cases h
  exact Hb (rc.t o ht) (lL (rc.s o) hx) (lL (rc.s o) hy)
 ·replace h:=Fi h;obtain ⟨tg,a,body,el,p,rfl,h⟩:=h;replace h:=gx h;obtain ⟨rfl,h⟩:=h
  obtain ⟨⟨lv,c⟩,h⟩:=oi h
  obtain ⟨w,hw,h⟩:=ob h;obtain ⟨t,ht,h⟩:=ob h;obtain ⟨x,hx,h⟩:=ob h;cases h
  exact Hc (o.po lv) (o.calm (by omega)) (rc.w o hw) (kG o ht) (lL (rc.s o) hx) (yf c)
noncomputable def vY:oH:=fun R g st=>Fe st fun e c _=>if c.isNone=true then e.bind fun e=>lu e fun x es _=>nC es fun a es=>if 2<=g.lv/\je g x=true then (match g.T.lookup x with
 |some (.xc k)=>(cA (R.e g) (a::es)).bind fun gs=>some (eF k gs)
 |some (.xi k)=>if notStar a=true/\es.isEmpty=true then (R.e g a).bind fun y=>some (jN k y) else none
 |_=>none) else none else none
theorem vX:SS vY:=fun {fa n R} rc {g X} o {a ga} h=>by
 replace h:=C7 h;obtain ⟨e,c,_,rfl,h⟩:=h;replace h:=oi h;obtain ⟨c,h⟩:=h;rw [NQ.mp c];replace h:=ob h;obtain ⟨e,rfl,h⟩:=h;replace h:=fE h;obtain ⟨x,q,es,p,rfl,h⟩:=h;replace h:=iF h;obtain ⟨a,es,rfl,h⟩:=h
 ·obtain ⟨⟨lv,c⟩,k⟩:=oi h;clear h
  split at k
  ·next e=>
   obtain ⟨gs,hgs,k⟩:=ob k;cases k
   obtain ⟨d,ns⟩:=hJ (rc.e o) hgs
   rw [MB,LN] at ns
   obtain ⟨C,h1,h2,h3,_⟩:=o.T.xc e
   exact C6 _ ⟨C,h1,h2,h3⟩ (o.top lv).1 (cS o c).1 (o.calm (by omega)) d (cS o c).2 ns.1 ns.2
  ·next e=>
   obtain ⟨⟨c1,c2⟩,k⟩:=oi k
   obtain ⟨y,hy,k⟩:=ob k;cases k
   rw [List.isEmpty_iff.mp c2]
   exact zC _ (o.T.xi e).1 (Fj (o.hr (by omega))) (o.top lv).1 (cS o c).1 (o.calm (by omega)) (rc.e o hy) (cS o c).2 c1
  ·cases k
end LD
namespace LD
open PySem PySem.Spec PyProof.Rows L2
theorem GY {env:Mw}{pos:Pos}{es:List Expr}(h:es.all notStar=true)(hl:es.length<30):methodCallForm es.length (backTo pos (starEach es env)) (backToKw pos (keywordEach [] env))=true:=by
 rw [kc h]
 have:backToKw pos (keywordEach [] env)=[]:=rfl
 rw [this]
 unfold methodCallForm backTo
 simp [hl]
noncomputable def ES:d9:=fun R g e=>l7 e fun a f _=>if jU a=true then (R.e g a).bind fun x=>some (cb f x) else none
theorem CC:SE ES:=fun {fa n R} rc {g X} o {a ga} h=>by
 obtain ⟨a,f,p,rfl,h⟩:=ja h
 obtain ⟨c1,h⟩:=oi h;obtain ⟨x,hx,h⟩:=ob h;cases h
 exact Jh f o.T.ob o.T.of (rc.e o hx) (fv c1)
noncomputable def Be:d9:=fun R g e=>n9 e fun h es ks p=>l7 h fun a m ap=>n0 ks (if jU a=true/\(ap.endLine==p.line)=true/\0<g.lv/\es.length<30 then (g.ms.find? (·.1==m)).bind fun q=>(cA (R.e g) es).bind fun gs=>(R.e g a).bind fun x=>some (cq q.2.1 q.2.2 g.c x gs) else none)
theorem yP:SE Be:=fun {fa n R} rc {g X} o {a ga} h=>by
 replace h:=kn h;obtain ⟨hd,es,ks,p,rfl,h⟩:=h
 replace h:=ja h;obtain ⟨a,m,ap,rfl,h⟩:=h
 replace h:=gx h;obtain ⟨rfl,h⟩:=h
 replace h:=oi h;obtain ⟨⟨c1,c2,c3,c4⟩,h⟩:=h
 replace h:=ob h;obtain ⟨q,hq,h⟩:=h
 obtain ⟨gs,hgs,h⟩:=ob h;obtain ⟨x,hx,h⟩:=ob h;cases h
 obtain ⟨C,hC,cl,mt,nm⟩:=o.ms q (List.mem_of_find?_eq_some hq)
 have e:=List.find?_some hq
 have e:q.1=m:=eq_of_beq e
 rw [e] at mt nm
 have hr:=(o.hr c3).mono (NI _)
 cases es with
 |nil=>cases hgs;exact El (o.C c3 _) hr o.T.of hC cl mt nm (rc.e o hx) (fv c1) c2
 | cons b es =>
   obtain ⟨d,ns⟩:=hJ (rc.e o) hgs
   have fw:=GY (env:=X.env) (pos:=p) ns c4
   rw [MB,LN] at ns
   exact Hk (o.C c3 _) hr o.T.of hC cl mt nm (rc.e o hx) d (fv c1) fw c2 (bh ns.1) (cm ns.2)
noncomputable def Bf:d9:=fun R g e=>lu e fun x es _=>nC es fun a es=>if 0<g.lv/\je g x=true then (g.T.lookup x).bind fun
 |.cls c f=>(cA (R.e g) (a::es)).bind fun gs=>some (mi c f g.c gs)
 |_=>none else none
theorem yQ:SE Bf:=fun {fa n R} rc {g X} o {a ga} h=>by
 replace h:=fE h;obtain ⟨x,q,es,p,rfl,h⟩:=h
 replace h:=iF h;obtain ⟨a,es,rfl,h⟩:=h
 obtain ⟨⟨lv,c⟩,h⟩:=oi h;obtain ⟨t,e,h⟩:=ob h
 cases t with
 | cls k f =>
   obtain ⟨gs,hgs,h⟩:=ob h;cases h
   obtain ⟨d,ns⟩:=hJ (rc.e o) hgs
   rw [MB,LN] at ns
   obtain ⟨C,h1,h2,h3⟩:=o.T.cls e
   exact Hl (o.C lv _) (o.hr lv) o.T.of h2 h3 (cS o c).1 h1 d (cS o c).2 (bh ns.1) (cm ns.2)
 |_=>cases h
noncomputable def EB:oH:=fun R g st=>rN st fun ts v _=>n1 ts fun t=>l7 t fun a f _=>if lY v=true then (R.e g a).bind fun x=>(R.e g v).bind fun y=>some (g8 f x y) else none
theorem wF {v a:Expr}{f:Str}{p:Pos}{l:Nat}{env:Mw}(h:lY v=true):swapsWith v (some (.Attribute a f p)) l env=pure false:=by
 cases v<;>first|rfl|cases h
theorem Cm:SS EB:=fun {fa n R} rc {g X} o {a ga} h=>by
 replace h:=lV h;obtain ⟨ts,v,p,rfl,h⟩:=h
 replace h:=dJ h;obtain ⟨t,rfl,h⟩:=h
 replace h:=ja h;obtain ⟨a,f,p2,rfl,h⟩:=h
 obtain ⟨c,h⟩:=oi h;obtain ⟨x,hx,h⟩:=ob h;obtain ⟨y,hy,h⟩:=ob h;cases h
 exact H9 f o.T.ob o.T.of (rc.e o hx) (rc.e o hy) (wF c)
noncomputable def EM:d9:=fun R g e=>n9 e fun h es ks p=>l7 h fun a m ap=>n0 ks (n0 es (if jU a=true/\(ap.endLine==p.line)=true then
 if m="pop" then (R.e g a).bind fun x=>some (ph x) else if m="reverse" then (R.e g a).bind fun x=>some (mh x) else none else none))
theorem Cy:SE EM:=fun {fa n R} rc {g X} o {a ga} h=>by
 replace h:=kn h;obtain ⟨hd,es,ks,p,rfl,h⟩:=h
 replace h:=ja h;obtain ⟨a,m,ap,rfl,h⟩:=h
 replace h:=gx h;obtain ⟨rfl,h⟩:=h
 replace h:=gx h;obtain ⟨rfl,h⟩:=h
 replace h:=oi h;obtain ⟨⟨c1,c2⟩,h⟩:=h
 split at h
 ·next e=>subst e;obtain ⟨x,hx,h⟩:=ob h;cases h;exact I9 (rc.e o hx) (fv c1) c2
 ·split at h
  ·next e=>subst e;obtain ⟨x,hx,h⟩:=ob h;cases h;exact Hj (rc.e o hx) (fv c1) c2
  ·cases h
noncomputable def wq:d9:=fun R g e=>lu e fun x es _=>n0 es (if 0<g.lv/\je g x=true then (g.T.lookup x).bind fun
 |.fn i _=>some (av i g.c ai)
 |_=>none else none)
theorem wo:SE wq:=fun {fa n R} rc {g X} o {a ga} h=>by
 replace h:=fE h;obtain ⟨x,q,es,p,rfl,h⟩:=h
 replace h:=gx h;obtain ⟨rfl,h⟩:=h
 obtain ⟨⟨lv,c⟩,h⟩:=oi h;obtain ⟨t,e,h⟩:=ob h
 cases t with
 |fn k f=>cases h;exact Eo (o.C lv _) ((o.hr lv).mono (NI _)) (cS o c).1 (o.T.fn e) (cS o c).2
 |_=>cases h
end LD
namespace LD
open PySem PySem.Spec PyProof.Rows L2
structure Ent where
 i:Nat
 x:Str
 st:Stmt
 ps:Nat
 N:List Str
 f:Addr
 pm:Str×Tok
 b:Call->GS
 r:Bool:=false
 q:Option Str:=none
noncomputable def Ent.qn (e:Ent):Str:=e.q.getD e.x
structure kM where
 T:List (Str×En)
 tw:List (Str×Str×Nat×Nat)
 xf:List Str
 dl:List (Str×List (Str×Nat))
 il:List (Str×Nat)
 cel:List (Nat×Nat×Nat)
 txt:List (Nat×Nat×Nat)
 ms:List (Str×Nat×Nat)
 rs:Rs
 tb:List Ent
noncomputable def kM.g (t:kM)(e:Ent)(c:Call):G:=⟨t.T,t.tw,t.xf,t.cel,t.txt,t.ms,c,e.N,aM e.st,2⟩
noncomputable def kM.Pg (t:kM)(i:Nat):Option Df:=(t.tb.find? (·.i==i)).map fun e=>⟨e.ps,e.N.length,e.b⟩
noncomputable def kM.rd (t:kM)(c:Call)(e:Ent):Option GS:=uE ((It t.rs 60).s (t.g e c)) (cz e.st)
noncomputable def AG (e:Ent):Bool:=decide ((aM e.st).kind=.function)&&!(aM e.st).isCoroutine&&!(aM e.st).isGenerator&&decide e.N.Nodup&&((e.N.take e.ps).length==e.ps)&&((e.N.take e.ps).all fun x=>(aM e.st).names.lookup x==some .local||(aM e.st).names.lookup x==some .cell)&&((aM e.st).names.all (·.2 != .free))
theorem ot {e:Ent}(h:AG e=true):gj e.N (e.N.take e.ps) (aM e.st)/\(e.N.take e.ps).length=e.ps:=by
 unfold AG at h
 simp only [LN,decide_eq_true_eq,NH,L9,NX,beq_iff_eq,bne_iff_ne] at h
 obtain ⟨⟨⟨⟨⟨⟨h1,h2⟩,h3⟩,h4⟩,h5⟩,h6⟩,h7⟩:=h
 exact ⟨⟨h1,h2,h3,h4,by rw [h5],h6,h7⟩,h5⟩
noncomputable def K1 (e:Ent):Option Obj:=some ⟨.type "function",none,.func (PySem.W.fnOf e.x e.qn (ft e.st) (cz e.st) (aM e.st) .none .none .none (.str e.pm.1 e.pm.2) none (.ref (e.f-1)) .none),#[]⟩
theorem oa {α β:Type}{f g:α->β}{l:List α}(h:l.map f=l.map g){a:α}(m:a∈l):f a=g a:=List.map_inj_left.mp h a m
noncomputable def AH (e:Ent)(us:List LI)(kV doc pm:LI)(an:Option Addr)(cdv ct:LI):Sem (List (Str×LI)):=bindArgs (PySem.W.fnOf e.x e.qn (ft e.st) (cz e.st) (aM e.st) .none kV doc pm an cdv ct) ⟨us,[]⟩
noncomputable def pG (tb:List Ent)(k:Nat)(us:List LI):Prop:=∀(kV doc pm:LI) (an:Option Addr) (cdv ct:LI),(tb.filter (·.ps==k)).map (fun e=>AH e us kV doc pm an cdv ct)=(tb.filter (·.ps==k)).map fun e=>pure ((e.N.take e.ps).zip us)
structure vQ (t:kM):Prop where
 rs:A0 t.rs
 rd:∀c,t.tb.map (t.rd c)=t.tb.map fun e=>some (e.b c)
 sc:t.tb.all AG=true
 ar:t.tb.all (fun e=>e.ps==0||e.ps==1||e.ps==2||e.ps==3||e.ps==4)=true
 a0:pG t.tb 0 []
 a1:∀a,pG t.tb 1 [a]
 a2:∀a b,pG t.tb 2 [a,b]
 a3:∀a b c,pG t.tb 3 [a,b,c]
 a4:∀a b c d,pG t.tb 4 [a,b,c,d]
structure B8 (K:LH) (tb:List Ent):Prop where
 ns:(tb.filter (·.q.isNone)).map (fun e=>PySem.W.nsIn K mainGlobals e.x)=(tb.filter (·.q.isNone)).map fun e=>some (some (.ref e.f))
 lk:tb.map (fun e=>K.lookup e.f)=tb.map K1
 ck:tb.all (fun e=>PySem.W.codeIn K (.ref (e.f-1)) e.qn&&PySem.W.keepIn K (.ref e.f))=true
theorem wA {K:LH}{tb:List Ent}(k:B8 K tb){e:Ent}(m:e∈tb):∃fd,oK K e.x e.qn e.st e.f fd:=by
 have c:=L9.mp k.ck e m
 rw [LN] at c
 exact ⟨_,yd (oa k.lk m) c.1 c.2⟩
theorem CK {K:LH}{h:Heap}{mg:Str->Option LI}{tb:List Ent}(k:B8 K tb)(X:K.In h)(G:h.Ns mainGlobals mg){e:Ent}(m:e∈tb)(hq:e.q.isNone=true):mg e.x=some (.ref e.f)/\∃fd,oK K e.x e.qn e.st e.f fd:=
 ⟨Nd X G (oa k.ns (List.mem_filter.mpr ⟨m,hq⟩)),wA k m⟩
theorem ze {t:kM}(T:vQ t){e:Ent}(m:e∈t.tb)(kV doc pm:LI)(an:Option Addr)(cdv ct:LI):∀us:List LI,us.length=(e.N.take e.ps).length->AH e us kV doc pm an cdv ct=pure ((e.N.take e.ps).zip us):=by
 have hl:=(ot (L9.mp T.sc e m)).2
 have a:=L9.mp T.ar e m
 have f:∀{k:Nat}{us:List LI},e.ps=k->pG t.tb k us->AH e us kV doc pm an cdv ct=pure ((e.N.take e.ps).zip us):=fun {k us} hk ao=>oa (ao kV doc pm an cdv ct) (List.mem_filter.mpr ⟨m,by rw [hk];exact beq_self_eq_true k⟩)
 rw [hl]
 simp only [NX,beq_iff_eq] at a
 rcases a with (((a|a)|a)|a)|a
 ·rw [a];exact fun us h=>by rw [NZ.mp h];exact a ▸ f a T.a0
 ·rw [a];exact us1 (p:=fun us=>_=_) fun x=>a ▸ f a (T.a1 x)
 ·rw [a];exact Jv (p:=fun us=>_=_) fun x y=>a ▸ f a (T.a2 x y)
 ·rw [a];exact us3 (p:=fun us=>_=_) fun x y z=>a ▸ f a (T.a3 x y z)
 ·rw [a];exact us4 (p:=fun us=>_=_) fun x y z u=>a ▸ f a (T.a4 x y z u)
section
variable {fa:Fa}{P:Mc}{w:Me}{K:LH}{mg:Str->Option LI}{base:Heap}{t:kM}
theorem rq (T:vQ t)(TO:Ca fa P w K mg base t.T)(tw:∀q∈t.tw,B9 fa K mg q.1 q.2.1 q.2.2.1 q.2.2.2)(xf:∀f∈t.xf,B7 fa K f)(ms:∀q∈t.ms,oJ fa K q.1 q.2.1 q.2.2){e:Ent}(m:e∈t.tb){ad:Addr}(call:Call)(n:Nat)(cdv:LI)(A:MK)(outer:List Mw)(s:LM)(H:Hp)(E:XK)
 (C:∀f,eK fa P w K mg base n f (call f)) (hr:bx (2*n+5) (A.deeper (envOfC e.qn (aM e.st) s.heap.objs.size ad cdv))):mS fa (eB (fH P w) P w K mg base e.N e.qn (aM e.st) ad cdv A outer s H E) (cz e.st) (e.b call):=by
 have S:=(ot (L9.mp T.sc e m)).1
 exact lL ((Cg (n:=n) (fa:=fa) T.rs 60).s (g:=t.g e call) (X:=eB (fH P w) P w K mg base e.N e.qn (aM e.st) ad cdv A outer s H E) ⟨rfl,S.nd,rfl,TO,tw,xf,ms,fun _ _=>rfl,fun _=>rfl,fun _=>C,fun _=>hr,fun _=>⟨rfl,rfl,rfl,S.kind⟩,fun _=>PassesOwn.leaving⟩) (oa (T.rd call) m)
theorem zd (T:vQ t)(k:B8 K t.tb){h:Heap}(X:K.In h)(G:h.Ns mainGlobals mg)(TO:Ca fa P w K mg base t.T)(tw:∀q∈t.tw,B9 fa K mg q.1 q.2.1 q.2.2.1 q.2.2.2)(xf:∀f∈t.xf,B7 fa K f)(ms:∀q∈t.ms,oJ fa K q.1 q.2.1 q.2.2)(hf:t.tb.all (fun e=>fa e.i==some e.f)=true) :
 ∀f d,t.Pg f=some d->vW fa P w K mg base f d:=by
 intro f d e
 unfold kM.Pg at e
 obtain ⟨en,he,rfl⟩:=Mq.mp e
 have m:=List.mem_of_find?_eq_some he
 have ei:en.i=f:=by have:=List.find?_some he;simpa using this
 obtain ⟨fd,F⟩:=wA k m
 obtain ⟨S,hl⟩:=ot (L9.mp T.sc en m)
 have fe:fa f=some en.f:=by rw [<- ei];exact eq_of_beq (L9.mp hf en m)
 exact ⟨en.f,fd,en.N.take en.ps,en.N,en.st,en.x,en.qn,fe,F,F.binds (fun a b c d e f=>ze T m a b c d e f),S,hl.symm,rfl,fun call n cdv A outer s H E C hr=>rq T TO tw xf ms m call n cdv A outer s H E C hr⟩
noncomputable def G1 (K:LH)(fa:Fa)(t:kM)(p:Str×En):Bool:=match p.2 with
 |.fn i _=>(match PySem.W.nsIn K mainGlobals p.1 with|some (some (.ref a))=>fa i==some a|_=>false)
 |.int i=>(match PySem.W.nsIn K mainGlobals p.1 with|some (some (.int j _))=>i==j|_=>false)
 |.str i=>(match PySem.W.nsIn K mainGlobals p.1 with|some (some (.str j _))=>i==j|_=>false)
 |.xc k=>(match PySem.W.nsIn K mainGlobals p.1 with|some (some (.ref a))=>fa (eP k)==some a&&PySem.W.excIn K a lM "ValueError.__new__"&&PySem.W.keepIn K (.ref a)|_=>false)
 |.xi k=>(match PySem.W.nsIn K mainGlobals p.1 with|some (some (.ref a))=>fa (eP k)==some a&&t.il.contains (p.1,k)|_=>false)
 |.xk k=>(match PySem.W.nsIn K mainGlobals p.1 with|some (some (.ref a))=>fa (eP k)==some a|_=>false)
 |.de=>(match PySem.W.nsIn K mainGlobals p.1 with|some (some (.ref a))=>fa 999==some a|_=>false)
 |.bl=>(match PySem.W.nsIn K mainGlobals p.1 with|some none=>true|_=>false)
 |.dct fs=>t.dl.contains (p.1,fs)
 |.cls c f=>(match PySem.W.nsIn K mainGlobals p.1 with|some (some (.ref a))=>fa (i9 c)==some a&&PySem.W.makesIn K a&&PySem.W.keepIn K (.ref a)&&(match fa f with|some ad=>PySem.W.findIn K (.ref a) "__init__"==some (some (.ref ad))&&PySem.W.isFn K (.ref ad)|none=>true)|_=>false)
theorem CJ {h:Heap}(X:K.In h)(G:h.Ns mainGlobals mg)(hT:t.T.all (G1 K fa t)=true)(hx:Hy fa K)(hob:yC fa K)(hof:∀o,5000<=o->fa o=none)(hd:AllP (fun q=>∃ad kvs,mg q.1=some (.ref ad)/\fy K w.params ad kvs/\dS fa kvs q.2) t.dl)(hi:AllP (fun q=>j4 fa P w K mg base q.2 q.1) t.il):Ca fa P w K mg base t.T:=by
 have key:∀{x:Str}{e:En},t.T.lookup x=some e->G1 K fa t (x,e)=true:=fun {x e} l=>L9.mp hT _ (mem_of_lookup l)
 refine ⟨fun {x i r} l ad ha=>?_,fun {x i} l=>?_,fun {x i} l=>?_,fun {x fs} l=>?_,fun {x k} l=>?_,fun {x k} l=>?_,fun {x k} l=>?_,fun {x} l=>?_,fun {x} l=>?_,hx,hob,hof,fun {x c f} l=>?_⟩
 all_goals have b:=key l;unfold G1 at b;dsimp only at b
 ·split at b
  ·next e=>have b:=eq_of_beq b;rw [ha] at b;cases b;exact Nd X G e
  ·cases b
 ·split at b
  ·next e=>have b:=eq_of_beq b;subst b;exact ⟨_,Nd X G e⟩
  ·cases b
 ·split at b
  ·next e=>have b:=eq_of_beq b;subst b;exact ⟨_,Nd X G e⟩
  ·cases b
 ·exact hd.mem (x,fs) (List.contains_iff_mem.mp b)
 ·split at b
  ·next e=>simp only [LN] at b;exact ⟨_,Nd X G e,eq_of_beq b.1.1,b.1.2,b.2⟩
  ·cases b
 ·split at b
  ·next e=>rw [LN] at b;exact ⟨hi.mem (x,k) (List.contains_iff_mem.mp b.2),_,Nd X G e,eq_of_beq b.1⟩
  ·cases b
 ·split at b
  ·next e=>exact ⟨_,Nd X G e,eq_of_beq b⟩
  ·cases b
 ·split at b
  ·next e=>exact ⟨_,Nd X G e,eq_of_beq b⟩
  ·cases b
 ·split at b
  ·next e=>exact PySem.W.mg_none_of X G e
  ·cases b
 ·split at b
  ·next a e=>
   simp only [LN] at b
   refine ⟨a,Nd X G e,eq_of_beq b.1.1.1,fun ad had=>?_⟩
   have b2:=b.2
   rw [had] at b2
   simp only [LN] at b2
   exact ⟨b.1.1.2,eq_of_beq b2.1,b2.2,b.1.2⟩
  ·cases b
end
noncomputable def vH (K:LH)(C:Addr):Bool:=PySem.W.plainGet K C Str.empty&&PySem.W.hasDictIn K C&&PySem.W.plainOver K C&&PySem.W.findIn K (.ref C) "__setattr__"==some (some (.builtin "object.__setattr__"))
theorem yt {K:LH}{C:Addr}(h:vH K C=true):iD K C:=by
 unfold vH at h
 simp only [LN] at h
 exact ⟨h.1.1.1,h.1.1.2,h.1.2,eq_of_beq h.2⟩
noncomputable def Gb (K:LH)(fa:Fa):Bool:=match fa (i9 40) with
 |some C=>vH K C&&(cw 40).all fun f=>PySem.W.findIn K (.ref C) f==some none
 |none=>true
theorem Ga {K:LH}{fa:Fa}(h:Gb K fa=true):yC fa K:=fun c C e ne=>by
 have hc:c=40:=by
  unfold cw at ne
  split at ne
  ·rfl
  ·exact absurd rfl ne
 subst hc
 unfold Gb at h
 rw [e] at h
 simp only [LN,L9] at h
 exact ⟨yt h.1,fun f m=>eq_of_beq (h.2 f m)⟩
noncomputable def Gu (K:LH)(fa:Fa)(q:Str×Nat×Nat):Bool:=match fa (i9 q.2.1) with
 | some C => vH K C && (match fa q.2.2 with
   |some ad=>PySem.W.findIn K (.ref C) q.1==some (some (.ref ad))&&PySem.W.isFn K (.ref ad)&&PySem.W.keepIn K (.ref ad)
   |none=>true)&&!(cw q.2.1).contains q.1
 |none=>false
theorem Gs {K:LH}{fa:Fa}{l:List (Str×Nat×Nat)}(h:l.all (Gu K fa)=true):∀q∈l,oJ fa K q.1 q.2.1 q.2.2:=fun q m=>by
 have h:=L9.mp h q m
 unfold Gu at h
 cases e:fa (i9 q.2.1) with
 |none=>rw [e] at h;cases h
 | some C =>
   rw [e] at h
   simp only [LN,NH] at h
   refine ⟨C,e,yt h.1.1,fun ad ea=>?_,fun z=>?_⟩
   ·have b:=h.1.2
    rw [ea] at b
    simp only [LN] at b
    exact ⟨eq_of_beq b.1.1,b.1.2,b.2⟩
   ·have:=List.contains_iff_mem.mpr z
    rw [h.2] at this;cases this
theorem AB {l cl:List (Nat×Addr)}{D:Addr}(h:cl.all (fun q=>decide (q.1<4000))=true):∀o,5000<=o->ux l cl D o=none:=fun o ho=>by
 unfold ux
 rw [if_neg (by omega),if_neg (by omega)]
 cases e:cl.lookup (o-1000) with
 |none=>rfl
 | some C =>
   have:=of_decide_eq_true (L9.mp h _ (lookup_mem e))
   have:o-1000<4000:=this
   omega
end LD
namespace LD
open PySem
abbrev gI (n:Int):GE:=gC (.int n)
abbrev gS (x:Str):GE:=gC (.str x)
abbrev gN:GE:=gC .non
abbrev JV:GE:=gC (.bl true)
abbrev GX:GE:=gC (.bl false)
abbrev rF:GS:=ag (aP GX) ak
end LD
namespace LD
open PySem
noncomputable def cu:List (Str×Nat):=[("turn",7),("join",8),("move",9),("put",10)]
noncomputable def cv:List (Str×Nat):=[("turn",20),("join",21),("move",22),("put",23)]
noncomputable def fb (c:Call):GS:=ag (aT (ib (aE (cE .bool (aa 0))) (bN (aE (cE .int (aa 0))))) rF ak) (ag (aP (sG .le .le (aa 1) (aa 0) (aa 2))) ak)
noncomputable def jA (c:Call):GS:=ag (aP (av 0 c (ae (aa 1) (ae (gI 0) (ae (az false .sub (aa 0) (gI 1)) ai))))) ak
noncomputable def iP (c:Call):GS:=ag (aP (av 0 c (ae (aa 1) (ae (gI 0) (ae (az false .sub (aa 0) (gI 1)) ai))))) ak
noncomputable def jB (c:Call):GS:=ag (aP (av 0 c (ae (aa 0) (ae (gI 1) (ae (gI 3) ai))))) ak
noncomputable def fK (c:Call):GS:=ag (aP (dY (cE .tuple (aa 1)) (aR .eq (aV .len (ae (aa 1) ai)) (aa 0)))) ak
noncomputable def iO (c:Call):GS:=ag (aP (dY (av 4 c (ae (aa 0) (ae (aa 1) ai))) (aV .all (ae (b7 false 1 (.one 0) (eY (aa 1)) (bU (av 1 c (ae (aa 1) (ae (aa 0) ai))))) ai)))) ak
noncomputable def dR (c:Call):GS:=ag (aP (dY (av 4 c (ae (aa 0) (ae (aa 1) ai))) (aV .all (ae (b7 false 1 (.one 0) (eY (aa 1)) (bU (av 5 c (ae (aa 1) (ae (aa 0) ai))))) ai)))) ak
noncomputable def fZ (c:Call):GS:=ag (aT (aE (aR .ne (aV .len (ae (aa 2) ai)) (gI 3))) rF ak) (ag (aJ (.tup [3,4,5]) (aa 2)) (ag (aP (dY (av 2 c (ae (aa 1) (ae (aa 3) ai))) (dY (av 5 c (ae (aa 0) (ae (aa 4) ai))) (av 3 c (ae (aa 5) ai))))) ak))
noncomputable def f7 (c:Call):GS:=ag (aT (aE (aR .ne (aV .len (ae (aa 2) ai)) (gI 4))) rF ak) (ag (aJ (.tup [3,4,5,6]) (aa 2)) (ag (aT (ib (bN (aE (av 2 c (ae (aa 1) (ae (aa 3) ai))))) (bN (aE (av 2 c (ae (aa 1) (ae (aa 4) ai)))))) rF ak) (ag (aP (dY (av 6 c (ae (aa 0) (ae (aa 5) ai))) (av 3 c (ae (aa 6) ai)))) ak)))
noncomputable def f6 (c:Call):GS:=ag (aT (aE (aR .ne (aV .len (ae (aa 2) ai)) (gI 3))) rF ak) (ag (aJ (.tup [3,4,5]) (aa 2)) (ag (aP (dY (av 2 c (ae (aa 1) (ae (aa 3) ai))) (dY (av 2 c (ae (aa 1) (ae (aa 4) ai))) (av 3 c (ae (aa 5) ai))))) ak))
noncomputable def gY (c:Call):GS:=ag (aT (aE (aR .ne (aV .len (ae (aa 2) ai)) (gI 3))) rF ak) (ag (aJ (.tup [3,4,5]) (aa 2)) (ag (aP (dY (av 2 c (ae (aa 1) (ae (aa 3) ai))) (dY (av 1 c (ae (aa 0) (ae (aa 4) ai))) (av 3 c (ae (aa 5) ai))))) ak))
noncomputable def f9 (c:Call):GS:=ag (aT (ib (bN (aE (cE .tuple (aa 2)))) (bN (aE (aa 2)))) rF ak) (ag (aJ (.one 3) (aH (aa 2) (gI 0))) (ag (aT (ib (bN (aE (cE .str (aa 3)))) (aE (iK cu (aa 3)))) rF ak) (ag (aJ (.one 4) (kA cu (aa 3))) (ag (aP (lC 4 c (ae (aa 0) (ae (aa 1) (ae (dw false true false (aa 2) (gI 1) gN) ai))))) ak))))
noncomputable def e9 (c:Call):GS:=ag (aT (bN (aE (av 4 c (ae (gI 3) (ae (aa 0) ai))))) rF ak) (ag (aJ (.tup [1,2,3]) (aa 0)) (ag (aT (ib (bN (aE (av 0 c (ae (aa 1) (ae (gI 2) (ae (gI 4) ai)))))) (bN (aE (av 0 c (ae (aa 2) (ae (gI 1) (ae (gI 2) ai))))))) rF ak) (ag (aT (ib (bN (aE (cE .tuple (aa 3)))) (bN (aE (sG .le .le (gI 1) (aV .len (ae (aa 3) ai)) (gI 6))))) rF ak) (ag (aP (aV .all (ae (b7 false 1 (.one 0) (eY (aa 3)) (bU (av 11 c (ae (aa 2) (ae (aa 3) (ae (aa 0) ai)))))) ai))) ak))))
noncomputable def gX (c:Call):GS:=ag (aT (bN (aE (av 12 c (ae (aa 0) ai)))) (ag (eF 3 (ae (gS "this is no machine") ai)) ak) ak) ak
noncomputable def dA (c:Call):GS:=ag (jG (dz 13 c (ae (aa 0) ai))) (ag (aJ (.tup [1,2,3]) (aa 0)) (ag (aJ (.one 4) (bQ false (ae (cp ai) ai))) (ag (fA (.one 5) (dF (aa 2)) (ag (aJ (.one 4) (b7 false 2 (.one 0) (eY (aa 4)) (sF (.one 1) (dF (aa 3)) (bU (az false .add (aa 0) (cp (ae (aa 1) ai))))))) ak)) (ag (aP (aa 4)) ak))))
noncomputable def fS (c:Call):GS:=ag (aP (av 0 c (ae (aa 1) (ae (gI 0) (ae (az false .sub (aV .len (ae (aH (aa 0) (gI 2)) ai)) (gI 1)) ai))))) ak
noncomputable def gW (c:Call):GS:=ag (aT (bN (aE (cE .list (aa 1)))) (ag (jN 0 (gI 0)) ak) ak) (ag (fA (.tup [2,3]) (mj (aa 1)) (ag (aT (bN (aE (av 16 c (ae (aa 0) (ae (aa 3) ai))))) (ag (jN 0 (aa 2)) ak) ak) ak)) ak)
noncomputable def kI (c:Call):GS:=ag (jG (dz 13 c (ae (aa 0) ai))) (ag (jG (dz 17 c (ae (aa 0) (ae (aa 1) ai)))) (ag (aT (aE (aR .gt (aV .len (ae (aa 1) ai)) (gI 40))) (ag (eF 4 (ae (BX "a row has at most " " deeds" (gI 40)) ai)) ak) ak) ak))
noncomputable def nz (c:Call):GS:=ag (aJ (.tup [2,3,4,5]) (aa 0)) (ag (aP (aH (aa 4) (aH (aa 1) (aa 3)))) ak)
noncomputable def nE (c:Call):GS:=ag (aJ (.tup [2,3,4,5,6]) (aa 0)) (ag (aP (aH (aH (aa 5) (aH (aa 1) (aa 3))) (aH (aa 1) (aa 4)))) ak)
noncomputable def pC (c:Call):GS:=ag (aJ (.tup [2,3,4,5]) (aa 0)) (ag (aP (aH (aa 1) (aa 4))) ak)
noncomputable def nA (c:Call):GS:=ag (aJ (.tup [2,3,4,5]) (aa 0)) (ag (aP (aa 4)) ak)
noncomputable def sY (c:Call):GS:=ag (aJ (.one 2) (kA cv (aH (aa 0) (gI 0)))) (ag (aJ (.one 3) (aH (aa 0) (gI 1))) (ag (aP (az false .add (az false .add (dw false false true (aa 1) gN (aa 3)) (cp (ae (lC 2 c (ae (aa 0) (ae (aa 1) ai))) ai))) (dw false true false (aa 1) (az false .add (aa 3) (gI 1)) gN))) ak))
noncomputable def gZ (c:Call):GS:=ag (aJ (.one 3) (bQ true (ae (aa 2) ai))) (ag (fA (.one 4) (eY (aa 1)) (ag (fB (aa 3) (av 24 c (ae (aH (aH (aa 0) (gI 2)) (aa 4)) (ae (aH (aa 3) (dX (gI 1))) ai)))) ak)) (ag (aP (aa 3)) ak))
noncomputable def hU (c:Call):GS:=ag (jG (dz 18 c (ae (aa 0) (ae (aa 1) ai)))) (ag (aP (av 46 c (ae (aa 0) (ae (aa 1) ai)))) ak)
noncomputable def fL (c:Call):GS:=ag (aT (aE (aR .ge (aa 0) (az false .pow (gI 10) (gI 18)))) (ag (aP (aa 0)) ak) ak) (ag (aJ (.one 2) (bQ false (ae (gI 2147483629) (ae (gI 2147483587) (ae (gI 2147483579) (ae (gI 2147483563) (ae (gI 2147483549) (ae (gI 2147483543) (ae (gI 2147483497) (ae (gI 2147483489) ai)))))))))) (ag (aJ (.one 2) (az false .add (aa 2) (bQ false (ae (gI 2147483477) (ae (gI 2147483423) (ae (gI 2147483399) (ae (gI 2147483353) (ae (gI 2147483323) ai)))))))) (ag (aJ (.one 3) (az false .mod (az false .pow (az false .add (az false .add (az false .mul (az false .mod (aa 0) (gI 1000000007)) (az false .add (az false .mul (gI 2) (aa 1)) (gI 69069))) (az false .mul (aa 1) (gI 40503))) (gI 977)) (gI 3)) (aH (aa 2) (az false .mod (aa 1) (gI 13))))) (ag (aJ (.one 4) (az false .mod (az false .pow (az false .add (az false .add (az false .mul (aa 3) (az false .add (aa 1) (gI 3))) (az false .mod (aa 0) (gI 65537))) (gI 5)) (gI 5)) (aH (aa 2) (az false .mod (az false .add (aa 1) (gI 5)) (gI 13))))) (ag (aJ (.one 5) (az false .mod (az false .pow (az false .add (az false .add (aa 4) (az false .mod (aa 3) (gI 1009))) (aa 1)) (gI 3)) (aH (aa 2) (az false .mod (az false .add (aa 1) (gI 7)) (gI 13))))) (ag (aP (az false .add (az false .mul (az false .add (az false .mul (aa 3) (gI 2147483647)) (aa 4)) (gI 2147483647)) (aa 5))) ak))))))
noncomputable def jI (c:Call):GS:=ag (aJ (.one 1) (aV (.list true) (ae (dw false false true (aa 0) gN (gI 12)) ai))) (ag (fA (.tup [2,3]) (mj (dw false true true (aa 0) (gI 12) (gI 63))) (ag (ef (aa 1) (az false .mod (aa 2) (gI 12)) (az false .add (aH (aa 1) (az false .mod (aa 2) (gI 12))) (aa 3))) ak)) (ag (aP (bQ true (ae (aa 1) (ae (gI 0) (ae (gI 0) ai))))) ak))
noncomputable def jJ (c:Call):GS:=ag (ef (aa 0) (gI 2) (gI 0)) (ag (aP (aa 0)) ak)
noncomputable def mQ (c:Call):GS:=ag (aT (aE (aR .lt (aH (aa 0) (gI 2)) (aa 1))) (ag (aJ (.one 2) (aH (aa 0) (gI 1))) (ag (aJ (.one 3) (gI 0)) (ag (aT (aE (aR .lt (aa 2) (aV .len (ae (aH (aa 0) (gI 0)) ai)))) (ag (aJ (.one 3) (aH (aH (aa 0) (gI 0)) (aa 2))) ak) (ag (aT (aE (aR .gt (aV .len (ae (aH (aa 0) (gI 0)) ai)) (gI 0))) (ag (aJ (.one 3) (az false .mod (aH (aH (aa 0) (gI 0)) (az false .mod (az false .add (az false .mul (aa 2) (gI 5)) (gI 3)) (aV .len (ae (aH (aa 0) (gI 0)) ai)))) (az false .add (az false .pow (gI 10) (gI 17)) (aa 2)))) ak) ak) ak)) (ag (ef (aa 0) (gI 1) (az false .add (aa 2) (gI 1))) (ag (ef (aa 0) (gI 2) (av 28 c (ae (aa 3) (ae (aa 2) ai)))) ak))))) ak) (ag (aJ (.one 4) (az false .mod (aH (aa 0) (gI 2)) (aa 1))) (ag (ef (aa 0) (gI 2) (az false .fdiv (aH (aa 0) (gI 2)) (aa 1))) (ag (aP (aa 4)) ak)))
noncomputable def iQ (c:Call):GS:=ag (aJ (.one 2) (av 31 c (ae (aa 0) (ae (gI 6) ai)))) (ag (aJ (.one 3) (av 31 c (ae (aa 0) (ae (aa 1) ai)))) (ag (aJ (.one 4) (av 31 c (ae (aa 0) (ae (aa 1) ai)))) (ag (aT (aE (aR .lt (aa 2) (gI 2))) (ag (aP (aV .tuple (ae (b7 false 1 (.one 0) (dF (aa 1)) (bU (av 31 c (ae (aa 1) (ae (aa 2) ai))))) ai))) ak) ak) (ag (aT (aE (aR .eq (aa 2) (gI 2))) (ag (aP (aV .tuple (ae (b7 false 1 (.one 0) (dF (aa 1)) (bU (az false .mod (az false .add (az false .add (aa 0) (gI 1)) (aa 4)) (aa 2)))) ai))) ak) ak) (ag (aT (aE (aR .eq (aa 2) (gI 3))) (ag (aP (aV .tuple (ae (b7 false 1 (.one 0) (dF (aa 1)) (bU (jf (aE (aR .eq (aa 0) (aa 4))) (aa 5) (aa 0)))) ai))) ak) ak) (ag (aT (aE (aR .eq (aa 2) (gI 4))) (ag (aP (az false .mul (cp (ae (aa 3) ai)) (aa 1))) ak) ak) (ag (aJ (.one 5) (lB true (aa 1))) (ag (ef (aa 5) (aa 3) (aa 4)) (ag (ef (aa 5) (aa 4) (aa 3)) (ag (aP (aV .tuple (ae (aa 5) ai))) ak))))))))))
noncomputable def hV (c:Call):GS:=ag (aJ (.one 3) (av 31 c (ae (aa 0) (ae (gI 8) ai)))) (ag (aJ (.one 4) (az false .add (gI 1) (av 31 c (ae (aa 0) (ae (gI 3) ai))))) (ag (aJ (.one 5) (av 31 c (ae (aa 0) (ae (aa 2) ai)))) (ag (aJ (.one 6) (av 31 c (ae (aa 0) (ae (aa 2) ai)))) (ag (aT (aE (aR .lt (aa 3) (gI 3))) (ag (aP (cp (ae (gS "turn") (ae (aa 5) (ae (av 32 c (ae (aa 0) (ae (aa 1) ai))) (ae (aa 4) ai)))))) ak) ak) (ag (aT (aE (aR .lt (aa 3) (gI 5))) (ag (aP (cp (ae (gS "move") (ae (aa 5) (ae (jf (aE (aR .eq (aa 3) (gI 3))) (az false .mod (az false .add (aa 5) (gI 1)) (aa 2)) (aa 6)) (ae (aa 4) ai)))))) ak) ak) (ag (aT (aE (aR .eq (aa 3) (gI 5))) (ag (aP (cp (ae (gS "put") (ae (aa 5) (ae (av 31 c (ae (aa 0) (ae (aa 1) ai))) (ae (aa 4) ai)))))) ak) ak) (ag (aP (cp (ae (gS "join") (ae (aa 5) (ae (aa 6) (ae (aV .tuple (ae (b7 false 1 (.one 0) (dF (aa 1)) (bU (av 32 c (ae (aa 1) (ae (aa 2) ai))))) ai)) (ae (aa 4) ai))))))) ak)))))))
noncomputable def fx (c:Call):GS:=ag (aJ (.one 1) (az false .add (gI 2) (av 31 c (ae (aa 0) (ae (az false .sub (aa 1) (gI 1)) ai))))) (ag (aJ (.one 2) (az false .add (gI 1) (av 31 c (ae (aa 0) (ae (aa 2) ai))))) (ag (aJ (.one 4) (bQ true ai)) (ag (fA (.one 5) (dF (az false .add (gI 1) (av 31 c (ae (aa 0) (ae (aa 3) ai))))) (ag (aJ (.one 6) (av 31 c (ae (aa 0) (ae (gI 5) ai)))) (ag (aJ (.one 7) (av 33 c (ae (aa 0) (ae (aa 1) (ae (aa 2) ai))))) (ag (aT (eU (aE (aR .eq (aa 6) (gI 0))) (aE (aR .ne (aa 4) (bQ false ai)))) (ag (aJ (.one 7) (az false .add (dw false false true (aH (aa 4) (av 31 c (ae (aa 0) (ae (aV .len (ae (aa 4) ai)) ai)))) gN (dX (gI 1))) (cp (ae (aH (aa 7) (dX (gI 1))) ai)))) ak) ak) (ag (fB (aa 4) (aa 7)) ak))))) (ag (aP (cp (ae (aa 1) (ae (aa 2) (ae (aV .tuple (ae (aa 4) ai)) ai))))) ak))))
noncomputable def gH (c:Call):GS:=ag (aJ (.one 3) (av 31 c (ae (aa 0) (ae (gI 4) ai)))) (ag (aJ (.one 4) (jf (aE (aR .eq (aa 3) (gI 0))) (aa 2) (av 31 c (ae (aa 0) (ae (az false .add (aa 2) (gI 1)) ai))))) (ag (aJ (.one 5) (b7 false 1 (.one 0) (dF (aa 4)) (bU (av 31 c (ae (aa 1) (ae (aV .len (ae (aH (aa 2) (gI 2)) ai)) ai)))))) (ag (aT (aE (aR .eq (aa 3) (gI 1))) (ag (aJ (.one 5) (dw false false true (az false .mul (dw false false true (aa 5) gN (gI 2)) (aa 4)) gN (aa 4))) ak) ak) (ag (aP (aa 5)) ak))))
noncomputable def dm (c:Call):GS:=ag (aT (aE (aR .isN (aa 1) gN)) (ag (aP (aR .isN (aa 0) gN)) ak) ak) (ag (aT (ib (aE (cE .bool (aa 1))) (aE (cE .bool (aa 0)))) (ag (aP (dY (cE .bool (aa 1)) (dY (cE .bool (aa 0)) (aR .eq (aa 0) (aa 1))))) ak) ak) (ag (aT (aE (cE .int (aa 1))) (ag (aP (dY (cE .int (aa 0)) (aR .eq (aa 0) (aa 1)))) ak) ak) (ag (aT (aE (cE .str (aa 1))) (ag (aP (dY (cE .str (aa 0)) (aR .eq (aa 0) (aa 1)))) ak) ak) (ag (aT (ib (aE (aR .ne (cE .tuple (aa 1)) (cE .tuple (aa 0)))) (aE (aR .ne (cE .list (aa 1)) (cE .list (aa 0))))) rF ak) (ag (aT (aE (aR .ne (aV .len (ae (aa 0) ai)) (aV .len (ae (aa 1) ai)))) rF ak) (ag (aP (aR .notin GX (b7 false 2 (.tup [0,1]) (mf (aa 0) (aa 1)) (bU (av 40 c (ae (aa 0) (ae (aa 1) ai))))))) ak))))))
noncomputable def ji (c:Call):GS:=ag (aJ (.one 2) (aV (.list true) (ae (aa 1) ai))) (ag (aJ (.one 3) (aH (aa 1) (aH (aa 0) (gI 1)))) (ag (aT (aE (aR .eq (aH (aa 0) (gI 0)) (gS "turn"))) (ag (ef (aa 2) (aH (aa 0) (gI 1)) (aH (aH (aa 0) (gI 2)) (aa 3))) ak) ak) (ag (aT (aE (aR .eq (aH (aa 0) (gI 0)) (gS "join"))) (ag (ef (aa 2) (aH (aa 0) (gI 1)) (aH (aH (aH (aa 0) (gI 3)) (aa 3)) (aH (aa 1) (aH (aa 0) (gI 2))))) ak) ak) (ag (aT (aE (aR .eq (aH (aa 0) (gI 0)) (gS "move"))) (ag (ef (aa 2) (aH (aa 0) (gI 1)) (aH (aa 1) (aH (aa 0) (gI 2)))) ak) ak) (ag (aT (aE (aR .eq (aH (aa 0) (gI 0)) (gS "put"))) (ag (ef (aa 2) (aH (aa 0) (gI 1)) (aH (aa 0) (gI 2))) ak) ak) (ag (aP (aV .tuple (ae (aa 2) ai))) ak))))))
noncomputable def iA (c:Call):GS:=ag (aT (aE (aR .eq (aH (aa 0) (gI 1)) (gI 1))) (ag (aP (b7 false 1 (.one 0) (dF (aH (aa 0) (gI 0))) (bU (cp (ae (aa 0) ai))))) ak) ak) (ag (aP (b7 false 1 (.one 0) (dF (az false .mul (aH (aa 0) (gI 0)) (aH (aa 0) (gI 0)))) (bU (cp (ae (az false .fdiv (aa 0) (aH (aa 1) (gI 0))) (ae (az false .mod (aa 0) (aH (aa 1) (gI 0))) ai)))))) ak)
noncomputable def dH (c:Call):GS:=ag (aJ (.one 2) (bQ true ai)) (ag (fA (.one 3) (eY (av 42 c (ae (aa 0) ai))) (ag (fA (.one 4) (eY (aa 1)) (ag (aJ (.one 3) (av 41 c (ae (aH (aH (aa 0) (gI 2)) (aa 4)) (ae (aa 3) ai)))) ak)) (ag (fB (aa 2) (aa 3)) ak))) (ag (aP (aV .tuple (ae (aa 2) ai))) ak))
noncomputable def gi (c:Call):GS:=ag (aP (aV .tuple (ae (b7 false 1 (.one 0) (eY (av 15 c (ae (aa 0) ai))) (bU (aH (av 25 c (ae (aa 1) (ae (aa 2) (ae (aa 0) ai)))) (dX (gI 1))))) ai))) ak
noncomputable def eJ (c:Call):GS:=ag (aP (aV .sum (ae (b7 false 1 (.one 0) (eY (aa 1)) (bU (aH (aH (aH (aa 1) (gI 2)) (aa 0)) (dX (gI 1))))) ai))) ak
noncomputable def nB (c:Call):GS:=ag (g9 (.one 3) (dz 27 c (ae (aa 0) (ae (aa 1) ai)))) (ag (g9 (.one 4) (dz 27 c (ae (aa 0) (ae (aa 2) ai)))) (ag (fA (.tup [5,6,7]) (md (av 15 c (ae (aa 0) ai)) (aa 3) (aa 4)) (ag (aT (aE (aR .ne (aa 6) (aa 7))) (ag (aP (aa 5)) ak) ak) ak)) (ag (aP gN) ak)))
noncomputable def lO (c:Call):GS:=ag (aP (aV .sum (ae (b7 false 1 (.one 0) (eY (aa 1)) (bU (aH (aH (aH (aa 1) (gI 2)) (aa 0)) (dX (gI 1))))) ai))) ak
noncomputable def eR (c:Call):GS:=ag (jG (dz 18 c (ae (aa 1) (ae (aa 2) ai)))) (ag (g8 "machine" (aa 0) (aa 1)) (ag (g8 "standing" (aa 0) (aV (.list false) (ae (aa 2) ai))) (ag (g8 "earlier" (aa 0) (bQ true ai)) ak)))
noncomputable def iR (c:Call):GS:=ag (aP (aV (.list true) (ae (cb "standing" (aa 0)) ai))) ak
noncomputable def hZ (c:Call):GS:=ag (aP (av 47 c (ae (cb "machine" (aa 0)) (ae (cb "standing" (aa 0)) ai)))) ak
noncomputable def eD (c:Call):GS:=ag (aP (av 46 c (ae (cb "machine" (aa 0)) (ae (cb "standing" (aa 0)) ai)))) ak
noncomputable def iS (c:Call):GS:=ag (aT (bN (aE (av 0 c (ae (aa 1) (ae (gI 0) (ae (aV .len (ae (cb "standing" (aa 0)) ai)) ai)))))) (ag (eF 9 (ae (gS "no deed can be put in there") ai)) ak) ak) (ag (aT (bN (aE (av 16 c (ae (cb "machine" (aa 0)) (ae (aa 2) ai))))) (ag (eF 10 (ae (gS "the machine has no such deed") ai)) ak) ak) (ag (aT (aE (aR .ge (aV .len (ae (cb "standing" (aa 0)) ai)) (gI 40))) (ag (eF 4 (ae (BX "a row has at most " " deeds" (gI 40)) ai)) ak) ak) (ag (aP (cq 40 136 c (aa 0) (ae (az false .add (az false .add (dw false false true (cb "standing" (aa 0)) gN (aa 1)) (bQ false (ae (aa 2) ai))) (dw false true false (cb "standing" (aa 0)) (aa 1) gN)) ai))) ak)))
noncomputable def iT (c:Call):GS:=ag (aT (bN (aE (av 0 c (ae (aa 1) (ae (gI 0) (ae (az false .sub (aV .len (ae (cb "standing" (aa 0)) ai)) (gI 1)) ai)))))) (ag (eF 9 (ae (gS "no deed stands there") ai)) ak) ak) (ag (aP (cq 40 136 c (aa 0) (ae (az false .add (dw false false true (cb "standing" (aa 0)) gN (aa 1)) (dw false true false (cb "standing" (aa 0)) (az false .add (aa 1) (gI 1)) gN)) ai))) ak)
noncomputable def h9 (c:Call):GS:=ag (aT (bN (aE (cb "earlier" (aa 0)))) (ag (eF 11 (ae (gS "no change stands") ai)) ak) ak) (ag (aP (cq 40 137 c (aa 0) (ae (ph (cb "earlier" (aa 0))) ai))) ak)
noncomputable def fN (c:Call):GS:=ag (fB (cb "earlier" (aa 0)) (cb "standing" (aa 0))) (ag (aP (cq 40 137 c (aa 0) (ae (aa 1) ai))) ak)
noncomputable def hX (c:Call):GS:=ag (g9 (.one 2) (dz 48 c (ae (cb "machine" (aa 0)) (ae (cb "standing" (aa 0)) (ae (aa 1) ai))))) (ag (g8 "standing" (aa 0) (aa 1)) (ag (aP (aa 2)) ak))
noncomputable def fM (c:Call):GS:=ag (aJ (.one 3) (av 31 c (ae (aa 0) (ae (gI 4) ai)))) (ag (aJ (.one 4) (aH (aa 2) (dX (gI 1)))) (ag (aJ (.one 5) (av 31 c (ae (aa 0) (ae (az false .add (aV .len (ae (aa 4) ai)) (gI 1)) ai)))) (ag (aJ (.one 6) (av 31 c (ae (aa 0) (ae (aV .len (ae (aH (aa 1) (gI 2)) ai)) ai)))) (ag (aT (eU (aE (aR .eq (aa 3) (gI 0))) (aE (aR .gt (aV .len (ae (aa 2) ai)) (gI 1)))) (ag (aP (cp (ae (dw false false true (aa 2) gN (dX (gI 1))) (ae (cp ai) ai)))) ak) ak) (ag (aT (eU (ib (aE (aR .eq (aa 3) (gI 1))) (aE (aR .eq (aV .len (ae (aa 4) ai)) (gI 40)))) (aE (aR .ne (aa 4) (bQ false ai)))) (ag (aJ (.one 5) (az false .mod (aa 5) (aV .len (ae (aa 4) ai)))) (ag (aP (cp (ae (az false .add (aa 2) (bQ false (ae (az false .add (dw false false true (aa 4) gN (aa 5)) (dw false true false (aa 4) (az false .add (aa 5) (gI 1)) gN)) ai))) (ae (cp (ae (aa 5) ai)) ai)))) ak)) ak) (ag (aP (cp (ae (az false .add (aa 2) (bQ false (ae (az false .add (az false .add (dw false false true (aa 4) gN (aa 5)) (bQ false (ae (aa 6) ai))) (dw false true false (aa 4) (aa 5) gN)) ai))) (ae (cp (ae (aa 5) (ae (aa 6) ai))) ai)))) ak))))))
noncomputable def d8 (c:Call):GS:=ag (aT (aE (aR .eq (aV .len (ae (aa 1) ai)) (gI 2))) (ag (aP (cq 40 133 c (aa 0) (ae (aH (aa 1) (gI 0)) (ae (aH (aa 1) (gI 1)) ai)))) ak) ak) (ag (aP (jf (aE (aR .eq (aa 1) (cp ai))) (cq 40 135 c (aa 0) ai) (cq 40 134 c (aa 0) (ae (aH (aa 1) (gI 0)) ai)))) ak)
noncomputable def iw (c:Call):GS:=ag (fA (.tup [3,4,5]) (md (av 42 c (ae (aa 0) ai)) (av 44 c (ae (aa 0) (ae (aa 1) ai))) (av 44 c (ae (aa 0) (ae (aa 2) ai)))) (ag (aT (aE (aR .ne (aa 4) (aa 5))) (ag (aP (aa 3)) ak) ak) ak)) (ag (aP gN) ak)
noncomputable def iz (c:Call):GS:=ag (aP (bQ false (ae (bQ false (ae (gI 0) (ae (gI 1) (ae (gI 2) ai)))) (ae (bQ false (ae (gI 0) (ae (gI 2) (ae (gI 1) ai)))) (ae (bQ false (ae (gI 1) (ae (gI 0) (ae (gI 2) ai)))) (ae (bQ false (ae (gI 1) (ae (gI 2) (ae (gI 0) ai)))) (ae (bQ false (ae (gI 2) (ae (gI 0) (ae (gI 1) ai)))) (ae (bQ false (ae (gI 2) (ae (gI 1) (ae (gI 0) ai)))) ai)))))))) ak
noncomputable def eQ (c:Call):GS:=ag (fA (.one 4) (eY (az false .add (aH (av 141 c ai) (aa 3)) (bQ false (ae (gI 0) (ae (gI 1) (ae (gI 2) ai)))))) (ag (aT (aE (aR .eq (aa 4) (gI 0))) (ag (aJ (.one 5) (cq 40 130 c (aa 0) ai)) (ag (aT (bN (aE (av 40 c (ae (aa 5) (ae (aa 2) ai))))) rF ak) (ag (fB (aa 5) (gI 0)) ak))) ak) (ag (aT (eU (aE (aR .eq (aa 4) (gI 1))) (bN (aE (av 40 c (ae (cq 40 131 c (aa 0) ai) (ae (av 89 c (ae (aa 1) (ae (aa 2) ai))) ai)))))) rF ak) (ag (aT (eU (aE (aR .eq (aa 4) (gI 2))) (bN (aE (av 40 c (ae (cq 40 132 c (aa 0) ai) (ae (av 44 c (ae (aa 1) (ae (aa 2) ai))) ai)))))) rF ak) ak)))) (ag (aP JV) ak)
noncomputable def mC (c:Call):GS:=ag (aJ (.one 1) (av 29 c (ae (aa 0) ai))) (ag (fA (.one 2) (dF (gI 2)) (ag (aJ (.one 3) (av 34 c (ae (av 30 c (ae (aa 1) ai)) (ae (gI 4) (ae (gI 2) (ae (gI 6) ai)))))) (ag (aJ (.one 4) (av 35 c (ae (aa 1) (ae (aa 3) (ae (gI 8) ai))))) (ag (aJ (.one 5) (aV (.list true) (ae (aa 4) ai))) (ag (aJ (.one 6) (mi 40 129 c (ae (aa 3) (ae (aa 5) ai)))) (ag (aT (aE (aR .ne (aa 5) (aa 4))) rF ak) (ag (fB (aa 5) (gI 0)) (ag (aJ (.one 7) (bQ false (ae (aa 4) ai))) (ag (aJ (.one 8) (bQ true ai)) (ag (aT (bN (aE (av 142 c (ae (aa 6) (ae (aa 3) (ae (aa 4) (ae (av 31 c (ae (aa 1) (ae (gI 6) ai))) ai))))))) rF ak) (ag (fA (.one 9) (dF (az false .add (gI 6) (av 31 c (ae (aa 1) (ae (gI 9) ai))))) (ag (aJ (.tup [10,11]) (av 138 c (ae (aa 1) (ae (aa 3) (ae (aa 7) ai))))) (ag (aJ (.one 12) (av 139 c (ae (aa 6) (ae (aa 11) ai)))) (ag (aT (bN (aE (av 40 c (ae (aa 12) (ae (av 140 c (ae (aa 3) (ae (aH (aa 7) (dX (gI 1))) (ae (aH (aa 10) (dX (gI 1))) ai)))) ai))))) rF ak) (ag (w5 (mh (aa 5))) (ag (aJ (.one 7) (aa 10)) (ag (aT (bN (aE (av 142 c (ae (aa 6) (ae (aa 3) (ae (aH (aa 7) (dX (gI 1))) (ae (av 31 c (ae (aa 1) (ae (gI 6) ai))) ai))))))) rF ak) (ag (aJ (.one 13) (cq 40 130 c (aa 6) ai)) (ag (fB (aa 8) (cp (ae (aa 13) (ae (aV (.list false) (ae (aa 13) ai)) ai)))) ak))))))))) (ag (aT (aE (aR .ne (b7 false 2 (.tup [0,1]) (eY (aa 8)) (uv (aE (aR .ne (aa 0) (aa 1))) (bU (gI 1)))) (bQ false ai))) rF ak) ak)))))))))))) (ag (aP JV) ak))
end LD
namespace LD
open PySem
@[simp] theorem bj {α β:Type}{r:Res α}{f:α->Mem->Res β}{k:β->Mem->Prop}:ah (r.bind f) k↔ah r fun a M=>ah (f a M) k:=by cases r<;>rfl
@[simp] theorem fJ {α:Type}{a:α}{M:Mem}{k:α->Mem->Prop}:ah (.ok a M) k↔k a M:=MS
@[simp] theorem LZ {α:Type}{k:α->Mem->Prop}:ah (.bad:Res α) k↔False:=MS
@[simp] theorem i8 {α:Type}{M:Mem}{o:Option α}{k:α->Mem->Prop}:ah (bV M o) k↔∃a,o=some a/\k a M:=by cases o<;>simp [bV]
theorem iE {α:Type}{r:Res α}{k:α->Mem->Prop}:ah r k↔∃a M,r=.ok a M/\k a M:=by
 cases r with
 |ok a M=>exact ⟨fun h=>⟨a,M,rfl,h⟩,fun ⟨_,_,e,h⟩=>by cases e;exact h⟩
 |err=>simp [ah]
 |bad=>simp [ah]
theorem pB {x y:D}{M:Mem}{v:Bool}(px:aC 64 (view M x)=true)(py:aC 64 (view M y)=true)(h:gG (view M x) (view M y)=v):bu .eq x y M=some v:=by
 have e:oq (view M x) (view M y)=some v:=by unfold oq;rw [px,py,h];simp
 show kL M x y=_
 unfold kL;rw [e]
theorem jY {x y:D}{M:Mem}{v:Bool}(px:aC 64 (view M x)=true)(py:aC 64 (view M y)=true)(h:gG (view M x) (view M y)=v):bu .ne x y M=some (!v):=by
 show (bu .eq x y M).map (!·)=_
 rw [pB px py h];rfl
section
variable {Z:Env}{M:Mem}{a b d lo hi:GE}{s:GA}{t u:GT}{k:D->Mem->Prop}{c:Call}
@[simp] theorem b8 {i:Nat}:ah (aa i Z M) k↔∃d,Z[i]?.getD none=some d/\k d M:=by simp [aa]
@[simp] theorem fY {d:D}:ah (gC d Z M) k↔k d M:=MS
@[simp] theorem jy {m:Bool}{o:kO}:ah (az m o a b Z M) k↔ah (a Z M) fun x M=>ah (b Z M) fun y M=>ah (fR m o x y M) k:=by simp [az]
@[simp] theorem ow {o:iC}:ah (aR o a b Z M) k↔ah (a Z M) fun x M=>ah (b Z M) fun y M=>∃v,bu o x y M=some v/\k (.bl v) M:=by simp [aR]
@[simp] theorem IU {o o':iC}:ah (sG o o' a b d Z M) k↔ah (a Z M) fun x M=>ah (b Z M) fun y M=>∃v,bu o x y M=some v/\if v=true then ah (d Z M) fun z M=>∃v,bu o' y z M=some v/\k (.bl v) M else k (.bl false) M:=by
 simp only [sG,bj,i8]
 refine iff_of_eq ?_
 congr 1;funext x M;congr 1;funext y M;refine propext (exists_congr fun v=>and_congr_right fun _=>?_)
 cases v<;>simp
@[simp] theorem IT:ah (dX a Z M) k↔ah (a Z M) fun x M=>∃i,x=.int i/\k (.int (-i)) M:=by
 simp only [dX,bj];refine iff_of_eq ?_;congr 1;funext x M;cases x<;>simp
@[simp] theorem B0:ah (dY a b Z M) k↔ah (a Z M) fun x M=>∃v,x=.bl v/\if v=true then ah (b Z M) k else k (.bl false) M:=by
 simp only [dY,bj];refine iff_of_eq ?_;congr 1;funext x M;cases x<;>simp
 rename_i v;cases v<;>simp
@[simp] theorem vv:ah (jf t a b Z M) k↔ah (t Z M) fun v M=>if v=true then ah (a Z M) k else ah (b Z M) k:=by
 simp only [jf,bj];refine iff_of_eq ?_;congr 1;funext v M;cases v<;>simp
@[simp] theorem kC:ah (aH a b Z M) k↔ah (a Z M) fun x M=>ah (b Z M) fun y M=>∃d,bO x y M=some d/\k d M:=by simp [aH]
@[simp] theorem mr {m hl hh:Bool}:ah (dw m hl hh a lo hi Z M) k↔ah (a Z M) fun x M=>ah (lo Z M) fun l M=>ah (hi Z M) fun h M=>du hl l=true/\du hh h=true/\ah (fQ m x l h M) k:=by
 simp only [dw,bj]
 refine iff_of_eq ?_
 congr 1;funext x M;congr 1;funext l M;congr 1;funext h M
 cases du hl l<;>cases du hh h<;>simp
@[simp] theorem cU {k:List D->Mem->Prop}:ah (ai Z M) k↔k [] M:=MS
@[simp] theorem bp {k:List D->Mem->Prop}:ah (ae a s Z M) k↔ah (a Z M) fun x M=>ah (s Z M) fun xs M=>k (x::xs) M:=by simp [ae]
@[simp] theorem jx:ah (cp s Z M) k↔ah (s Z M) fun xs M=>xs.length<=sz/\k (.tup xs) M:=by
 simp only [cp,bj];refine iff_of_eq ?_;congr 1;funext xs M;unfold ko;split<;>simp [*]
theorem sd {m:Bool}{xs:List D}:ah (ba m xs M) k↔xs.length<=sz/\if m=true then k (.cell M.length) (M++[xs]) else k (.lst xs) M:=by
 unfold ba;cases m<;>split<;>simp [*]
@[simp] theorem cL {xs:List D}:ah (ba false xs M) k↔xs.length<=sz/\k (.lst xs) M:=by simp [sd]
@[simp] theorem iW {xs:List D}:ah (ba true xs M) k↔xs.length<=sz/\k (.cell M.length) (M++[xs]):=by simp [sd]
@[simp] theorem BZ {m:Bool}:ah (bQ m s Z M) k↔ah (s Z M) fun xs M=>ah (ba m xs M) k:=by simp [bQ]
@[simp] theorem gE {f:Nat}:ah (av f c s Z M) k↔ah (s Z M) fun ds M=>ah (c f ds M) k:=by simp [av]
@[simp] theorem D6 {i:Nat}:ah (lC i c s Z M) k↔∃f,Z[i]?.getD none=some (.fn f)/\ah (s Z M) fun ds M=>ah (c f ds M) k:=by
 unfold lC
 cases e:Z[i]?.getD none with
 |none=>simp
 |some d=>cases d<;>simp
@[simp] theorem fq {f:tm}:ah (aV f s Z M) k↔ah (s Z M) fun ds M=>ah (dj f ds M) k:=by simp [aV]
@[simp] theorem G2 {t:Ty}:ah (cE t a Z M) k↔ah (a Z M) fun x M=>∃v,dN t x=some v/\k (.bl v) M:=by simp [cE]
@[simp] theorem G3 {fs:List (Str×Nat)}:ah (kA fs a Z M) k↔ah (a Z M) fun x M=>∃y f,x=.str y/\fs.lookup y=some f/\k (.fn f) M:=by
 simp only [kA,bj];refine iff_of_eq ?_;congr 1;funext x M;cases x<;>simp
 exact ⟨fun ⟨_,⟨f,h,e⟩,q⟩=>⟨f,h,e ▸ q⟩,fun ⟨f,h,q⟩=>⟨_,⟨f,h,rfl⟩,q⟩⟩
@[simp] theorem Mi {fs:List (Str×Nat)}:ah (iK fs a Z M) k↔ah (a Z M) fun x M=>∃y,x=.str y/\k (.bl (!(fs.lookup y).isSome)) M:=by
 simp only [iK,bj];refine iff_of_eq ?_;congr 1;funext x M;cases x<;>simp
@[simp] theorem D5 {m:Bool}:ah (lB m a Z M) k↔ah (a Z M) fun x M=>∃n,x=.int n/\(-(2^62)<=n/\n<2^20)/\ah (ba m ((List.range n.toNat).map fun (k:Nat)=>D.int (k:Int)) M) k:=by
 simp only [lB,bj];refine iff_of_eq ?_;congr 1;funext x M
 cases x<;>simp
 rename_i n
 split<;>simp [*]
variable {kb:Bool->Mem->Prop}
@[simp] theorem ka:ah (aE a Z M) kb↔ah (a Z M) fun x M=>∃v,jF M x=some v/\kb v M:=by simp [aE]
@[simp] theorem HR:ah (eU t u Z M) kb↔ah (t Z M) fun v M=>if v=true then ah (u Z M) kb else kb false M:=by
 simp only [eU,bj];refine iff_of_eq ?_;congr 1;funext v M;cases v<;>simp
@[simp] theorem J4:ah (ib t u Z M) kb↔ah (t Z M) fun v M=>if v=true then kb true M else ah (u Z M) kb:=by
 simp only [ib,bj];refine iff_of_eq ?_;congr 1;funext v M;cases v<;>simp
@[simp] theorem nM:ah (bN t Z M) kb↔ah (t Z M) fun v M=>kb (!v) M:=by simp [bN]
variable {kf:Fl->Mem->Prop}{sa sb:GS}
noncomputable def g7 (b:GS)(k:Fl->Mem->Prop):Fl->Mem->Prop
 |.next Z,M=>ah (b Z M) k
 |.ret d,M=>k (.ret d) M
 |.exc x Z,M=>k (.exc x Z) M
@[simp] theorem J3 {b:GS}{x:D}:g7 b kf (.exc x Z) M↔kf (.exc x Z) M:=MS
@[simp] theorem d7 {b:GS}:g7 b kf (.next Z) M↔ah (b Z M) kf:=MS
@[simp] theorem zb {b:GS}{d:D}:g7 b kf (.ret d) M↔kf (.ret d) M:=MS
@[simp] theorem aW:ah (ag sa sb Z M) kf↔ah (sa Z M) (g7 sb kf):=by
 simp only [ag,bj];refine iff_of_eq ?_;congr 1;funext fl M;cases fl<;>rfl
@[simp] theorem wZ:ah (ak Z M) kf↔kf (.next Z) M:=MS
@[simp] theorem kW {i:Nat}:ah (aJ (.one i) a Z M) kf↔ah (a Z M) fun x M=>kf (.next (Z.set i (some x))) M:=by simp [aJ,bW]
@[simp] theorem E9 {l:List Nat}:ah (aJ (.tup l) a Z M) kf↔ah (a Z M) fun x M=>∃ds ρ1,x=.tup ds/\eV l ds Z=some ρ1/\kf (.next ρ1) M:=by
 simp only [aJ,bj,i8,fJ];refine iff_of_eq ?_;congr 1;funext x M;cases x<;>simp [bW]
@[simp] theorem kU:ah (ef a b d Z M) kf↔ah (d Z M) fun z M=>ah (a Z M) fun x M=>ah (b Z M) fun y M=>∃j n ds i,x=.cell j/\y=.int n/\M[j]?=some ds/\bL ds.length n=some i/\kf (.next Z) (M.set j (ds.set i z)):=by
 simp only [ef,bj]
 refine iff_of_eq ?_
 congr 1;funext z M;congr 1;funext x M;congr 1;funext y M
 cases x with
 | cell j =>
   cases y with
   | int n =>
     cases e:M[j]? with
     |none=>simp [e]
     | some ds =>
       cases e2:bL ds.length n with
       |none=>simp [e,e2]
       |some i=>simp [e,e2]
   |_=>simp
 |_=>simp
@[simp] theorem Fc:ah (fB a d Z M) kf↔ah (a Z M) fun x M=>ah (d Z M) fun z M=>∃j ds,x=.cell j/\M[j]?=some ds/\ds.length<sz/\kf (.next Z) (M.set j (ds++[z])):=by
 simp only [fB,bj]
 refine iff_of_eq ?_
 congr 1;funext x M;congr 1;funext z M
 cases x<;>simp
 rename_i j
 cases e:M[j]? with
 |none=>simp
 |some ds=>by_cases h:ds.length<sz<;>simp [h]
@[simp] theorem eE:ah (aP a Z M) kf↔ah (a Z M) fun x M=>kf (.ret x) M:=by simp [aP]
@[simp] theorem Lm:ah (Bq Z M) kf↔kf (.ret .non) M:=MS
@[simp] theorem Ln:ah (Br Z M) kf↔kf (.next Z) M:=MS
@[simp] theorem LW:ah (Ki Z M) kf↔False:=MS
@[simp] theorem jM:ah (aT t sa sb Z M) kf↔ah (t Z M) fun v M=>if v=true then ah (sa Z M) kf else ah (sb Z M) kf:=by
 simp only [aT,bj];refine iff_of_eq ?_;congr 1;funext v M;cases v<;>simp
variable {kw:Walk->Mem->Prop}
@[simp] theorem ia:ah (dF a Z M) kw↔ah (a Z M) fun x M=>∃n,x=.int n/\(-(2^62)<=n/\n<2^62)/\kw (fun _=>some ((List.range n.toNat).map fun (k:Nat)=>D.int (k:Int))) M:=by
 simp only [dF,bj];refine iff_of_eq ?_;congr 1;funext x M;cases x<;>simp
 rename_i n
 split<;>simp [*]
@[simp] theorem A6:ah (eY a Z M) kw↔ah (a Z M) fun x M=>cY x=true/\kw (fun M=>bH M x) M:=by
 simp only [eY,bj];refine iff_of_eq ?_;congr 1;funext x M;cases x<;>simp [cY]<;>rfl
@[simp] theorem LA:ah (mj a Z M) kw↔ah (a Z M) fun x M=>(cY x&&dM x)=true/\kw (fun M=>(bH M x).map (dO 0)) M:=by
 simp only [mj,bj];refine iff_of_eq ?_;congr 1;funext x M;cases x<;>simp [cY,dM]<;>rfl
@[simp] theorem Lz:ah (mf a b Z M) kw↔ah (a Z M) fun x M=>ah (b Z M) fun y M=>(cY x&&cY y)=true/\kw (nK x y) M:=by
 simp only [mf,bj];refine iff_of_eq ?_;congr 1;funext x M;congr 1;funext y M;split<;>simp [*]
noncomputable def lD (k:D->Mem->Prop):Fl->Mem->Prop
 |.ret d,M=>k d M
 |.next _,M=>k .non M
 |.exc _ _,_=>False
@[simp] theorem Lw {d:D}:lD k (.ret d) M↔k d M:=MS
@[simp] theorem KY:lD k (.next Z) M↔k .non M:=MS
theorem aA {P:Nat->Option Df}{n f:Nat}{d:Df}{ds:List D}(e:P f=some d)(hl:ds.length=d.params)(h:ah (d.body (aq P n) (ds.map some++List.replicate (d.slots-ds.length) none) M) (lD k)):ah (aq P (n+1) f ds M) k:=by
 show ah (match P f with|none=>Res.bad|some d=>gp (aq P n) d ds M) k
 rw [e]
 show ah (gp (aq P n) d ds M) k
 unfold gp
 rw [if_pos hl]
 revert h
 cases d.body (aq P n) (ds.map some++List.replicate (d.slots-ds.length) none) M with
 |ok fl M=>cases fl<;>exact id
 |err=>exact id
 |bad=>exact id
@[simp] theorem L3 {α:Type}{a:α}{k:α->Mem->Prop}{kx:D->Mem->Prop}:kK (.ok a M) k kx↔k a M:=MS
@[simp] theorem Lr {α:Type}{x:D}{k:α->Mem->Prop}{kx:D->Mem->Prop}:kK (.err x M:Res α) k kx↔kx x M:=MS
noncomputable def AA (k kx:D->Mem->Prop):Fl->Mem->Prop
 |.ret d,M=>k d M
 |.next _,M=>k .non M
 |.exc x _,M=>kx x M
@[simp] theorem Mg {d:D}{kx:D->Mem->Prop}:AA k kx (.ret d) M↔k d M:=MS
@[simp] theorem Lv {kx:D->Mem->Prop}:AA k kx (.next Z) M↔k .non M:=MS
@[simp] theorem Mh {x:D}{kx:D->Mem->Prop}:AA k kx (.exc x Z) M↔kx x M:=MS
@[simp] theorem Li {f:Nat}{kx:D->Mem->Prop}:kK (dz f c s Z M) k kx↔ah (s Z M) fun ds M=>kK (c f ds M) k kx:=by
 unfold dz
 cases s Z M<;>rfl
@[simp] theorem LV:ah (jG a Z M) kf↔kK (a Z M) (fun _ M=>kf (.next Z) M) (fun x M=>kf (.exc x Z) M):=by
 unfold jG
 cases a Z M<;>rfl
@[simp] theorem Lo {i:Nat}:ah (g9 (.one i) a Z M) kf↔kK (a Z M) (fun x M=>kf (.next (Z.set i (some x))) M) (fun x M=>kf (.exc x Z) M):=by
 unfold g9
 cases a Z M<;>rfl
@[simp] theorem Kg {i:Nat}:ah (eF i s Z M) kf↔ah (s Z M) fun ds M=>ds.length<=sz/\kf (.exc (.exc i none) Z) M:=by
 unfold eF
 cases s Z M with
 |ok ds M1=>by_cases h:ds.length<=sz<;>simp [h]
 |err=>exact MS
 |bad=>exact MS
theorem vg {α:Type}(f:α->D->Mem->Res α)(ds:List D):∀(m i:Nat) (a:α) (M:Mem),ds.length-i<m->i<=ds.length->eA f (fun _=>some ds) m i a M=BY f (ds.drop i) a M
 |0,i,a,M,h,_=>absurd h (Nat.not_lt_zero _)
 | m + 1, i, a, M, h, hi => by
   show (match ds[i]? with|none=>Res.ok a M|some d=>(f a d M).bind (eA f (fun _=>some ds) m (i+1)))=_
   by_cases hlt:i<ds.length
   ·rw [List.drop_eq_getElem_cons hlt,Mb hlt]
    show (f a ds[i] M).bind _=(f a ds[i] M).bind _
    congr 1
    funext a M
    exact vg f ds m (i+1) a M (by omega) hlt
   ·have e:i=ds.length:=by omega
    subst e
    rw [Nq (LP _),List.drop_length]
    rfl
theorem gM {α:Type}{f:α->D->Mem->Res α}{w:Walk}{ds:List D}{a:α}{k:α->Mem->Prop}(I:Nat->α->Mem->Prop)(hw:∀i a M,I i a M->w M=some ds)(h0:I 0 a M)
 (hs:∀i d a M,ds[i]?=some d->I i a M->ah (f a d M) (I (i+1))) (hk:∀a M,I ds.length a M->k a M):ah (dg f w a M) k:=by
 have key:∀(m i:Nat) (a:α) (M:Mem),ds.length-i<m->i<=ds.length->I i a M->ah (eA f w m i a M) k:=by
  intro m
  induction m with
  |zero=>intro i a M h;exact absurd h (Nat.not_lt_zero _)
  | succ m ih =>
    intro i a M h hi hI
    show ah (match w M with|none=>Res.bad|some ds=>match ds[i]? with|none=>Res.ok a M|some d=>(f a d M).bind (eA f w m (i+1))) k
    rw [hw i a M hI]
    dsimp only
    by_cases hlt:i<ds.length
    ·rw [Mb hlt]
     simp only [bj]
     exact aQ (hs i ds[i] a M (Mb hlt) hI) fun a' M' h'=>ih (i+1) a' M' (by omega) hlt h'
    ·have e:i=ds.length:=by omega
     subst e
     rw [Nq (LP _)]
     exact hk a M hI
 unfold dg
 rw [hw 0 a M h0]
 exact key _ 0 a M (by simp) (NY _) h0
theorem eO {t:cy}{w:Walk}{gb:GS}{ds:List D}(I:Nat->Env->Mem->Prop)(hw:∀i Z M,I i Z M->w M=some ds)(h0:I 0 Z M)
 (hs:∀i d Z M,ds[i]?=some d->I i Z M->∃ρ1,bW t d Z=some ρ1/\ah (gb ρ1 M) fun fl M=>∃ρ',fl=.next ρ'/\I (i+1) ρ' M) (hk:∀Z M,I ds.length Z M->kf (.next Z) M):ah (dg (gn t gb) w (.next Z) M) kf:=by
 refine gM (fun i fl M=>∃Z,fl=.next Z/\I i Z M) (fun i fl M ⟨Z,_,h⟩=>hw i Z M h) ⟨Z,rfl,h0⟩ ?_ ?_
 ·rintro i d fl M hd ⟨Z,rfl,hI⟩
  obtain ⟨ρ1,e,h⟩:=hs i d Z M hd hI
  simp only [gn,bj,i8,e]
  exact ⟨ρ1,rfl,h⟩
 ·rintro fl M ⟨Z,rfl,hI⟩
  exact hk Z M hI
@[simp] theorem nQ {tg:cy}{w:GW}{gb:GS}:ah (fA tg w gb Z M) kf↔ah (w Z M) fun w M=>ah (dg (gn tg gb) w (.next Z) M) kf:=by simp [fA]
@[simp] theorem jg {m:Bool}{n:Nat}{tg:cy}{w:GW}{g:GB}:ah (b7 m n tg w g Z M) k↔ah (w Z M) fun w M=>ah (dg (di tg g (List.replicate n none++Z)) w [] M) fun acc M=>ah (ba m acc M) k:=by simp [b7]
variable {kl:List D->Mem->Prop}
@[simp] theorem B6 {ge:GE}{acc:List D}:ah (bU ge Z acc M) kl↔ah (ge Z M) fun x M=>acc.length<sz/\kl (acc++[x]) M:=by
 simp only [bU,bj];refine iff_of_eq ?_;congr 1;funext x M;split<;>simp [*]
theorem comp_map {tg:cy}{w:Walk}{ge:GE}{ds:List D}{ρ0:Env}(I:Nat->List D->Mem->Prop)(hz:ds.length<=sz)(hw:∀i acc M,I i acc M->w M=some ds)(h0:I 0 [] M)
 (hs:∀i d acc M,ds[i]?=some d->acc.length=i->I i acc M->∃ρ1,bW tg d ρ0=some ρ1/\ah (ge ρ1 M) fun x M=>I (i+1) (acc++[x]) M) (hk:∀acc M,acc.length=ds.length->I ds.length acc M->kl acc M) :
 ah (dg (di tg (bU ge) ρ0) w [] M) kl:=by
 refine gM (fun i acc M=>acc.length=i/\I i acc M) (fun i acc M h=>hw i acc M h.2) ⟨rfl,h0⟩ ?_ (fun acc M h=>hk acc M h.1 h.2)
 rintro i d acc M hd ⟨hl,hI⟩
 obtain ⟨ρ1,e,h⟩:=hs i d acc M hd hl hI
 have hi:i<ds.length:=(LJ.mp hd).1
 simp only [di,bj,i8,e,B6]
 exact ⟨ρ1,rfl,aQ h fun x M h=>⟨by omega,by simp [hl],h⟩⟩
end
theorem br {t:GT}{A rest:GS}{Z:Env}{M:Mem}{k:Fl->Mem->Prop}(ht:t Z M=.ok false M)(h:ah (rest Z M) k):ah (ag (aT t A ak) rest Z M) k:=by
 simp only [aW,jM]
 rw [ht]
 exact h
theorem jW {t:GT}{e:GE}{rest:GS}{Z:Env}{M:Mem}{v:D}{k:Fl->Mem->Prop}(ht:t Z M=.ok true M)(he:e Z M=.ok v M)(h:k (.ret v) M):ah (ag (aT t (ag (aP e) ak) ak) rest Z M) k:=by
 simp only [aW,jM,eE]
 rw [ht]
 show ah (e Z M) _
 rw [he]
 exact h
theorem dq {e:GE}{Z:Env}{M:Mem}{v:D}{k:Fl->Mem->Prop}(he:e Z M=.ok v M)(h:k (.ret v) M):ah (ag (aP e) ak Z M) k:=by
 simp only [aW,eE]
 rw [he]
 exact h
theorem cV {r:Res Fl}{v:D}{M:Mem}(e:r=.ok (.ret v) M):ah r (lD fun x M'=>x=v/\M'=M):=by rw [e];exact ⟨rfl,rfl⟩
end LD
namespace LD
open PySem
structure HasM0 (P:Nat->Option Df):Prop where
 is_between:P 0=some ⟨3,3,fb⟩
 is_word:P 1=some ⟨2,2,jA⟩
 is_place:P 2=some ⟨2,2,iP⟩
 is_cost:P 3=some ⟨1,1,jB⟩
 is_tuple_of:P 4=some ⟨2,2,fK⟩
 is_table:P 5=some ⟨2,2,iO⟩
 is_double_table:P 6=some ⟨2,2,dR⟩
 is_turn:P 7=some ⟨3,6,fZ⟩
 is_join:P 8=some ⟨3,7,f7⟩
 is_move:P 9=some ⟨3,6,f6⟩
 is_put:P 10=some ⟨3,6,gY⟩
 is_deed:P 11=some ⟨3,5,f9⟩
 is_machine:P 12=some ⟨1,4,e9⟩
 need_machine:P 13=some ⟨1,1,gX⟩
 is_deed_number:P 16=some ⟨2,2,fS⟩
 need_numbers:P 17=some ⟨2,4,gW⟩
 need_row:P 18=some ⟨2,2,kI⟩
structure HasM (P:Nat->Option Df):Prop extends HasM0 P where
 turned:P 20=some ⟨2,6,nz⟩
 joined:P 21=some ⟨2,7,nE⟩
 moved:P 22=some ⟨2,6,pC⟩
 put_in:P 23=some ⟨2,6,nA⟩
 done:P 24=some ⟨2,4,sY⟩
 all_standing:P 25=some ⟨3,5,gZ⟩
structure HasP0 (P:Nat->Option Df):Prop where
 law_spread:P 28=some ⟨2,6,fL⟩
 law_open:P 29=some ⟨1,4,jI⟩
 law_anew:P 30=some ⟨1,1,jJ⟩
 law_take:P 31=some ⟨2,5,mQ⟩
structure HasP (P:Nat->Option Df):Prop extends HasP0 P where
 law_tab:P 32=some ⟨2,6,iQ⟩
 law_deed:P 33=some ⟨3,7,hV⟩
 law_machine:P 34=some ⟨4,8,fx⟩
noncomputable instance coeHasM {P:Nat->Option Df}:Coe (HasM P) (HasM0 P):=⟨HasM.toHasM0⟩
noncomputable instance coeHasP {P:Nat->Option Df}:Coe (HasP P) (HasP0 P):=⟨HasP.toHasP0⟩
@[simp] theorem Mn {d:Option D}{r:Env}:(d::r)[0]?.getD none=d:=rfl
section
variable {M:Mem}{k:D->Mem->Prop}
theorem jS {α:Type}{c:Prop}[Decidable c]{r:Res α}{k:α->Mem->Prop}:ah (if c then r else .bad) k↔c/\ah r k:=by split<;>simp [*]
@[simp] theorem oE {m:Bool}{i j:Int}:ah (fR m .add (.int i) (.int j) M) k↔k (.int (i+j)) M:=MS
@[simp] theorem LU {m:Bool}{i j:Int}:ah (fR m .sub (.int i) (.int j) M) k↔k (.int (i-j)) M:=MS
@[simp] theorem L7 {m:Bool}{i j:Int}:ah (fR m .mul (.int i) (.int j) M) k↔((-(2^64)<i/\i<2^64)\/(-(2^64)<j/\j<2^64))/\k (.int (i*j)) M:=jS
@[simp] theorem L8 {m:Bool}{i j:Int}:ah (fR m .mod (.int i) (.int j) M) k↔0<j/\k (.int (i % j)) M:=jS
@[simp] theorem Lx {m:Bool}{i j:Int}:ah (fR m .fdiv (.int i) (.int j) M) k↔(0<j/\j<1073741824)/\k (.int (i / j)) M:=jS
@[simp] theorem yB {m:Bool}{x y:List D}:ah (fR m .add (.tup x) (.tup y) M) k↔(x++y).length<=sz/\k (.tup (x++y)) M:=by
 show ah (ko _ _) k↔_
 unfold ko;exact jS
@[simp] theorem Mj {m:Bool}{x y:List D}:ah (fR m .add (.lst x) (.lst y) M) k↔ah (ba m (x++y) M) k:=MS
@[simp] theorem LB {i j:Int}:bu .lt (.int i) (.int j) M=some (decide (i<j)):=rfl
@[simp] theorem LC {i j:Int}:bu .le (.int i) (.int j) M=some (decide (i<=j)):=rfl
@[simp] theorem LF {i j:Int}:bu .gt (.int i) (.int j) M=some (decide (j<i)):=rfl
@[simp] theorem LG {i j:Int}:bu .ge (.int i) (.int j) M=some (decide (j<=i)):=rfl
@[simp] theorem Mp {i j:Int}:bu .eq (.int i) (.int j) M=some (i==j):=rfl
@[simp] theorem Mo {i j:Int}:bu .ne (.int i) (.int j) M=some (!(i==j)):=rfl
@[simp] theorem LL {b:Bool}:jF M (.bl b)=some b:=rfl
@[simp] theorem Lj {ds:List D}:jF M (.tup ds)=some (!ds.isEmpty):=rfl
@[simp] theorem Lk {ds:List D}:jF M (.lst ds)=some (!ds.isEmpty):=rfl
@[simp] theorem DU {ds:List D}:ah (dj .len [.tup ds] M) k↔k (.int ds.length) M:=MS
@[simp] theorem Ls {ds:List D}:ah (dj .len [.lst ds] M) k↔k (.int ds.length) M:=MS
@[simp] theorem Ey {ds:List D}:ah (dj .all [.lst ds] M) k↔∃bs,boolsOf ds=some bs/\k (.bl (bs.all id)) M:=by
 show ah (match boolsOf ds with|some bs=>_|none=>_) k↔_
 cases boolsOf ds<;>simp
@[simp] theorem Ll {ds:List D}:ah (dj .sum [.lst ds] M) k↔∃bs,intsOf ds=some bs/\k (.int bs.sum) M:=by
 show ah (match intsOf ds with|some bs=>_|none=>_) k↔_
 cases intsOf ds<;>simp
@[simp] theorem Jy {ds:List D}:ah (dj .tuple [.lst ds] M) k↔k (.tup ds) M:=MS
@[simp] theorem uK {j:Nat}:ah (dj .tuple [.cell j] M) k↔∃ds,M[j]?=some ds/\k (.tup ds) M:=by
 show ah (match M[j]? with|some xs=>_|none=>_) k↔_
 cases M[j]?<;>simp
@[simp] theorem Ai {m:Bool}{ds:List D}:ah (dj (.list m) [.lst ds] M) k↔ah (ba m ds M) k:=MS
@[simp] theorem gV {ds:List D}{i:Int}:bO (.tup ds) (.int i) M=(bL ds.length i).bind fun j=>ds[j]?:=rfl
@[simp] theorem Lu {ds:List D}{i:Int}:bO (.lst ds) (.int i) M=(bL ds.length i).bind fun j=>ds[j]?:=rfl
@[simp] theorem KR {j:Nat}{i:Int}:bO (.cell j) (.int i) M=(M[j]?).bind fun ds=>(bL ds.length i).bind fun j=>ds[j]?:=rfl
theorem eX {n i:Nat}(h:i<n):bL n (i:Int)=some i:=by
 unfold bL;rw [if_pos (Int.natCast_nonneg i),if_pos (by exact_mod_cast h)];rfl
theorem DY {n:Nat}(h:0<n):bL n (-1)=some (n-1):=by
 unfold bL
 rw [if_neg (by omega),if_pos (by omega)]
 congr 1;omega
end
theorem lG {α:Type}{r:Res α}{d:α}{M:Mem}(h:ah r fun x M'=>x=d/\M'=M):r=.ok d M:=by
 obtain ⟨a,M',e,rfl,rfl⟩:=iE.mp h
 exact e
theorem aw {r:Res D}{d:D}{M:Mem}(h:ah r fun x M'=>x=d/\M'=M):r=.ok d M:=by
 obtain ⟨a,M',e,rfl,rfl⟩:=iE.mp h
 exact e
section
variable {P:Nat->Option Df}(h:HasM0 P){M:Mem}
include h
theorem ki (n:Nat)(t lo hi:Int):aq P (n+1) 0 [.int t,.int lo,.int hi] M=.ok (.bl (decide (lo<=t)&&decide (t<=hi))) M:=by
 refine aw (aA h.is_between rfl ?_)
 simp [fb,dN]
 by_cases h1:lo<=t<;>simp [h1]<;>omega
end
theorem ij {tg:cy}{w:Walk}{ge:GE}{ds:List D}{ρ0:Env}{M:Mem}{kl:List D->Mem->Prop}(f:D->D)(hz:ds.length<=sz)(hw:w M=some ds)(hs:∀d∈ds,∃ρ1,bW tg d ρ0=some ρ1/\ge ρ1 M=.ok (f d) M)(hk:kl (ds.map f) M) :
 ah (dg (di tg (bU ge) ρ0) w [] M) kl:=by
 refine comp_map (fun i acc M'=>M'=M/\acc=(ds.take i).map f) hz (fun i acc M' h=>by rw [h.1];exact hw) ⟨rfl,rfl⟩ ?_ ?_
 ·rintro i d acc M' hd _ ⟨rfl,rfl⟩
  obtain ⟨ρ1,e1,e2⟩:=hs d (MJ hd)
  refine ⟨ρ1,e1,?_⟩
  rw [e2]
  refine ⟨rfl,?_⟩
  have hi:i<ds.length:=(LJ.mp hd).1
  rw [MY,hd]
  simp
 ·rintro acc M' _ ⟨rfl,rfl⟩
  simpa using hk
abbrev nD (n:Nat):D:=.int (n:Int)
noncomputable def aF (l:List Nat):D:=.tup (l.map nD)
inductive aY where
 |turn (at_:Nat) (tab:List Nat) (cost:Nat)
 |join (at_ other:Nat) (tab:List (List Nat)) (cost:Nat)
 |move (at_ other cost:Nat)
 |put (at_ word cost:Nat)
noncomputable def aY.d:aY->D
 |.turn a t c=>.tup [.str "turn",nD a,aF t,nD c]
 |.join a o t c=>.tup [.str "join",nD a,nD o,.tup (t.map aF),nD c]
 |.move a o c=>.tup [.str "move",nD a,nD o,nD c]
 |.put a w c=>.tup [.str "put",nD a,nD w,nD c]
noncomputable def aY.cost:aY->Nat
 |.turn _ _ c=>c
 |.join _ _ _ c=>c
 |.move _ _ c=>c
 |.put _ _ c=>c
structure aX where
 words:Nat
 places:Nat
 deeds:List aY
noncomputable def aX.d (m:aX):D:=.tup [nD m.words,nD m.places,.tup (m.deeds.map aY.d)]
noncomputable def iV (w:Nat)(t:List Nat):Prop:=t.length=w/\∀x∈t,x<w
noncomputable def fg (c:Nat):Prop:=1<=c/\c<=3
noncomputable def bX (w p:Nat):aY->Prop
 |.turn a t c=>a<p/\iV w t/\fg c
 |.join a o t c=>a<p/\o<p/\(t.length=w/\∀x∈t,iV w x)/\fg c
 |.move a o c=>a<p/\o<p/\fg c
 |.put a x c=>a<p/\x<w/\fg c
structure a9 (m:aX):Prop where
 w2:2<=m.words
 w4:m.words<=4
 p1:1<=m.places
 p2:m.places<=2
 d1:1<=m.deeds.length
 d6:m.deeds.length<=6
 ok:∀d∈m.deeds,bX m.words m.places d
theorem aL {n:Nat}(h:n<=100000):n<=sz:=LR h (by decide)
theorem Ks:cu.lookup (Str.ofString "turn")=some 7:=by decide +kernel
theorem Kr:cu.lookup (Str.ofString "join")=some 8:=by decide +kernel
theorem Kq:cu.lookup (Str.ofString "move")=some 9:=by decide +kernel
theorem Kp:cu.lookup (Str.ofString "put")=some 10:=by decide +kernel
end LD
namespace LD
open PySem
section
variable {Z:Env}{M:Mem}{a b:GE}{s:GA}{k:D->Mem->Prop}{kf:Fl->Mem->Prop}{t u:GT}{A rest:GS}
theorem cn {t rest:GS}{ρ':Env}(e:t Z M=.ok (.next ρ') M)(h:ah (rest ρ' M) kf):ah (ag t rest Z M) kf:=by
 simp only [aW]
 rw [e]
 exact h
theorem au {x:D}{xs:List D}(ea:a Z M=.ok x M)(es:s Z M=.ok xs M):ae a s Z M=.ok (x::xs) M:=by
 unfold ae
 rw [ea]
 show (s Z M).bind _=_
 rw [es]
 rfl
theorem ig {xs:List D}(es:s Z M=.ok xs M)(hl:xs.length<=100):bQ false s Z M=.ok (.lst xs) M:=by
 unfold bQ
 rw [es]
 show (if xs.length<=sz then (if false=true then _ else Res.ok (D.lst xs) M) else .bad)=_
 rw [if_pos (aL (by omega))]
 rfl
theorem gJ {xs ys:List D}(ea:a Z M=.ok (.lst xs) M)(eb:b Z M=.ok (.lst ys) M)(hl:(xs++ys).length<=100):az false .add a b Z M=.ok (.lst (xs++ys)) M:=by
 unfold az
 rw [ea]
 show (b Z M).bind _=_
 rw [eb]
 show (if (xs++ys).length<=sz then (if false=true then _ else Res.ok (D.lst (xs++ys)) M) else .bad)=_
 rw [if_pos (aL (by omega))]
 rfl
theorem dG {i:Nat}{x:D}(e:a Z M=.ok x M):aJ (.one i) a Z M=.ok (.next (Z.set i (some x))) M:=by
 unfold aJ
 rw [e]
 rfl
theorem aj {j:Nat}{x:D}(h:Z[j]?.getD none=some x):aa j Z M=.ok x M:=by
 unfold aa
 rw [h]
 rfl
theorem bD {f:Nat}{c:Call}{xs:List D}(e:s Z M=.ok xs M):av f c s Z M=c f xs M:=by
 unfold av;rw [e];rfl
theorem qV {f i:Nat}{c:Call}{x:D}{r:Res D}(h:Z[i]?.getD none=some x)(e:c f [x] M=r):av f c (ae (aa i) ai) Z M=r:=(bD (au (aj h) rfl)).trans e
theorem iN {f i j:Nat}{c:Call}{x y:D}{r:Res D}(h:Z[i]?.getD none=some x)(h2:Z[j]?.getD none=some y)(e:c f [x,y] M=r):av f c (ae (aa i) (ae (aa j) ai)) Z M=r:=(bD (au (aj h) (au (aj h2) rfl))).trans e
theorem bY {i:Nat}(h:ah (a Z M) k)(hk:∀x M',k x M'->ah (rest (Z.set i (some x)) M') kf):ah (ag (aJ (.one i) a) rest Z M) kf:=by
 obtain ⟨x,M',e,q⟩:=iE.mp h
 simp only [aW]
 unfold aJ
 rw [e]
 exact hk x M' q
theorem xT (ht:t Z M=.ok true M)(h:ah (A Z M) (g7 rest kf)):ah (ag (aT t A ak) rest Z M) kf:=by
 simp only [aW,jM]
 rw [ht]
 exact h
theorem bZ {b:Bool}(ht:t Z M=.ok b M)(h1:b=true->ah (A Z M) (g7 rest kf))(h2:b=false->ah (rest Z M) kf):ah (ag (aT t A ak) rest Z M) kf:=by
 cases b with
 |true=>exact xT ht (h1 rfl)
 |false=>exact br ht (h2 rfl)
theorem ie {b:Bool}(h:t Z M=.ok b M):bN t Z M=.ok (!b) M:=by
 unfold bN
 rw [h]
 rfl
theorem bK {b:Bool}(h:a Z M=.ok (.bl b) M):aE a Z M=.ok b M:=by
 unfold aE
 rw [h]
 rfl
theorem Bw {x y:Bool}(h1:t Z M=.ok x M)(h2:u Z M=.ok y M):ib t u Z M=.ok (x||y) M:=by
 unfold ib
 rw [h1]
 cases x with
 |true=>rfl
 |false=>exact h2
theorem Hx {b:Bool}(h1:t Z M=.ok b M)(h2:b=true->u Z M=.ok false M):eU t u Z M=.ok false M:=by
 unfold eU
 rw [h1]
 cases b with
 |true=>exact h2 rfl
 |false=>rfl
theorem pE {x y:Bool}(h1:t Z M=.ok x M)(h2:u Z M=.ok y M):eU t u Z M=.ok (x&&y) M:=by
 unfold eU
 rw [h1]
 cases x with
 |true=>exact h2
 |false=>rfl
theorem jj {x y:Bool}(h1:a Z M=.ok (.bl x) M)(h2:x=true->b Z M=.ok (.bl y) M):dY a b Z M=.ok (.bl (x&&y)) M:=by
 unfold dY
 rw [h1]
 cases x with
 |true=>exact h2 rfl
 |false=>rfl
theorem l9 {k:Bool}{x:D}(ht:t Z M=.ok k M)(h1:k=true->a Z M=.ok x M)(h2:k=false->b Z M=.ok x M):jf t a b Z M=.ok x M:=by
 unfold jf
 rw [ht]
 cases k with
 |true=>exact h1 rfl
 |false=>exact h2 rfl
theorem iJ {j:Nat}{ds:List D}(e:Z[j]?.getD none=some (.tup ds)):aV .len (ae (aa j) ai) Z M=.ok (nD ds.length) M:=by
 unfold aV
 rw [au (aj e) rfl]
 rfl
theorem IC {i j:Int}(h1:a Z M=.ok (.int i) M)(h2:b Z M=.ok (.int j) M):aE (aR .ne a b) Z M=.ok (!(i==j)) M:=by
 refine bK ?_
 unfold aR
 rw [h1]
 show (b Z M).bind _=_
 rw [h2]
 rfl
end
theorem l8 {t:GT}{A rest:GS}{Z:Env}{M:Mem}{k:Fl->Mem->Prop}{R:Mem->Prop}(ht:ah (t Z M) fun b M'=>b=false/\R M')(h:∀M',R M'->ah (rest Z M') k):ah (ag (aT t A ak) rest Z M) k:=by
 simp only [aW,jM]
 obtain ⟨b,M',e,rfl,r⟩:=iE.mp ht
 rw [e]
 exact h M' r
end LD
namespace LD
open PySem
noncomputable def Th:Nat->Nat->D->Prop
 |_,_,.non=>True
 |_,_,.bl _=>True
 |_,_,.int _=>True
 |_,L,.str x=>x.cps.size<=L/\x.cps.all (· < 0x110000)=true
 |n+1,L,.tup ds=>ds.length<=L/\∀d∈ds,Th n L d
 |n+1,L,.lst ds=>ds.length<=L/\∀d∈ds,Th n L d
 |_,_,_=>False
theorem Th.mono:∀{n n' L L':Nat}{d:D},Th n L d->n<=n'->L<=L'->Th n' L' d
 |n,n',L,L',.non,_,_,_=>by cases n'<;>trivial
 |n,n',L,L',.bl _,_,_,_=>by cases n'<;>trivial
 |n,n',L,L',.int _,_,_,_=>by cases n'<;>trivial
 | n, n', L, L', .str x, h, _, l => by
   have h:x.cps.size<=L/\x.cps.all (· < 0x110000)=true:=by cases n<;>exact h
   have:x.cps.size<=L'/\x.cps.all (· < 0x110000)=true:=⟨LR h.1 l,h.2⟩
   cases n'<;>exact this
 |n+1,n'+1,L,L',.tup ds,h,a,l=>⟨LR h.1 l,fun d hd=>Th.mono (h.2 d hd) (Nat.le_of_succ_le_succ a) l⟩
 |n+1,n'+1,L,L',.lst ds,h,a,l=>⟨LR h.1 l,fun d hd=>Th.mono (h.2 d hd) (Nat.le_of_succ_le_succ a) l⟩
 |n+1,0,L,L',.tup ds,h,a,l=>by omega
 |n+1,0,L,L',.lst ds,h,a,l=>by omega
 |0,n',L,L',.tup ds,h,a,l=>h.elim
 |0,n',L,L',.lst ds,h,a,l=>h.elim
 |n,n',L,L',.frz _,h,_,_=>by cases n<;>exact h.elim
 |n,n',L,L',.cell _,h,_,_=>by cases n<;>exact h.elim
 |n,n',L,L',.fn _,h,_,_=>by cases n<;>exact h.elim
 |n,n',L,L',.exc _ _,h,_,_=>by cases n<;>exact h.elim
theorem Th.tup {n L:Nat}{ds:List D}(h:Th n L (.tup ds)):ds.length<=L/\∀d∈ds,Th n L d:=by
 cases n with
 |zero=>exact h.elim
 |succ n=>exact ⟨h.1,fun d hd=>(h.2 d hd).mono (NI n) (LP L)⟩
noncomputable def bC (lo hi:Int):D->Bool
 |.int i=>decide (lo<=i)&&decide (i<=hi)
 |_=>false
noncomputable def fP (w:Nat):D->Bool
 |.tup ds=>ds.length==w
 |_=>false
noncomputable def j9 (w:Nat):D->Bool
 |.tup ds=>ds.length==w&&ds.all (bC 0 ((w:Int)-1))
 |_=>false
noncomputable def oy (w:Nat):D->Bool
 |.tup ds=>ds.length==w&&ds.all (j9 w)
 |_=>false
noncomputable def qL (w p:Nat):List D->Bool
 |[a,t,c]=>bC 0 ((p:Int)-1) a&&(j9 w t&&bC 1 3 c)
 |_=>false
noncomputable def qS (w p:Nat):List D->Bool
 |[a,o,t,c]=>bC 0 ((p:Int)-1) a&&(bC 0 ((p:Int)-1) o&&(oy w t&&bC 1 3 c))
 |_=>false
noncomputable def qO (w p:Nat):List D->Bool
 |[a,o,c]=>bC 0 ((p:Int)-1) a&&(bC 0 ((p:Int)-1) o&&bC 1 3 c)
 |_=>false
noncomputable def uV (w p:Nat):List D->Bool
 |[a,x,c]=>bC 0 ((p:Int)-1) a&&(bC 0 ((w:Int)-1) x&&bC 1 3 c)
 |_=>false
noncomputable def c6 (w p:Nat)(s:Str)(ds:List D):Bool:=
 if s="turn" then qL w p ds else if s="join" then qS w p ds else if s="move" then qO w p ds else if s="put" then uV w p ds else false
noncomputable def iM (w p:Nat):D->Bool
 |.tup (.str s::ds)=>c6 w p s ds
 |_=>false
noncomputable def iq:D->Bool
 |.tup ds=>decide (1<=ds.length)&&decide (ds.length<=6)
 |_=>false
noncomputable def GO:D->List D
 |.tup ds=>ds
 |_=>[]
noncomputable def gU:D->Nat
 |.int i=>i.toNat
 |_=>0
theorem uF {lo hi:Int}{d:D}(h:bC lo hi d=true)(h0:0<=lo):d=nD (gU d)/\lo<=(gU d:Int)/\(gU d:Int)<=hi:=by
 cases d with
 | int i =>
   simp [bC] at h
   refine ⟨?_,?_⟩
   ·show D.int i=D.int ((i.toNat:Nat):Int)
    rw [Int.toNat_of_nonneg (by omega)]
   ·show lo<=((i.toNat:Nat):Int)/\((i.toNat:Nat):Int)<=hi
    rw [Int.toNat_of_nonneg (by omega)]
    exact h
 |_=>cases h
noncomputable def iI:D->Bool
 |.tup [a,b,c]=>bC 2 4 a&&(bC 1 2 b&&(iq c&&(GO c).all (iM (gU a) (gU b))))
 |_=>false
theorem Ae {d:D}(h:fP 3 d=false):iI d=false:=by
 match d,h with
 |.tup [a,b,c],h=>cases h
 |.tup [],_=>rfl
 |.tup [_],_=>rfl
 |.tup [_,_],_=>rfl
 |.tup (_::_::_::_::r),_=>rfl
 |.non,_=>rfl
 |.bl _,_=>rfl
 |.int _,_=>rfl
 |.str _,_=>rfl
 |.lst _,_=>rfl
 |.frz _,_=>rfl
 |.cell _,_=>rfl
 |.fn _,_=>rfl
 |.exc _ _,_=>rfl
structure HH (P:Nat->Option Df):Prop where
 is_between:P 0=some ⟨3,3,fb⟩
 is_word:P 1=some ⟨2,2,jA⟩
 is_place:P 2=some ⟨2,2,iP⟩
 is_cost:P 3=some ⟨1,1,jB⟩
 is_tuple_of:P 4=some ⟨2,2,fK⟩
 is_table:P 5=some ⟨2,2,iO⟩
 is_double_table:P 6=some ⟨2,2,dR⟩
 is_turn:P 7=some ⟨3,6,fZ⟩
 is_join:P 8=some ⟨3,7,f7⟩
 is_move:P 9=some ⟨3,6,f6⟩
 is_put:P 10=some ⟨3,6,gY⟩
 is_deed:P 11=some ⟨3,5,f9⟩
 is_machine:P 12=some ⟨1,4,e9⟩
theorem mP (f:D->Bool):∀ds:List D,boolsOf (ds.map fun d=>.bl (f d))=some (ds.map f)
 |[]=>rfl
 |d::r=>by simp [boolsOf,mP f r]
theorem all_eq {w:GW}{ge:GE}{Z:Env}{M:Mem}{ds:List D}(f:D->Bool)(hw:ah (w Z M) fun wk M'=>M'=M/\wk M=some ds)(hz:ds.length<=sz)(he:∀d∈ds,ge (some d::Z) M=.ok (.bl (f d)) M) :
 aV .all (ae (b7 false 1 (.one 0) w (bU ge)) ai) Z M=.ok (.bl (ds.all f)) M:=by
 refine aw ?_
 simp only [fq,bp,jg,cU]
 refine aQ hw fun wk M' ⟨e1,e2⟩=>?_
 subst e1
 refine ij (fun d=>.bl (f d)) hz e2 (fun d hd=>⟨some d::Z,rfl,he d hd⟩) ?_
 simp only [cL,LX,Ey]
 refine ⟨hz,_,mP f ds,?_,trivial⟩
 congr 1
 rw [List.all_map];rfl
theorem Au {k L:Nat}{x:D}(hx:Th k L x){t:Ty}(h:((¬ ∃s,x=.str s)/\t=.str\/(¬ ∃s,x=.tup s)/\t=.tuple)):dN t x=some false:=by
 rcases h with ⟨h,rfl⟩|⟨h,rfl⟩<;>cases x<;>first|rfl|exact absurd ⟨_,rfl⟩ h|(cases k<;>exact hx.elim)
section
variable {P:Nat->Option Df}(h:HH P){M:Mem}{k L:Nat}{d:D}
include h
theorem jL (n:Nat)(hd:Th k L d)(lo hi:Int):aq P (n+1) 0 [d,.int lo,.int hi] M=.ok (.bl (bC lo hi d)) M:=by
 cases d with
 | int t =>
   refine aw (aA h.is_between rfl ?_)
   simp [fb,dN,bC]
   by_cases h1:lo<=t<;>simp [h1]<;>omega
 |fn j=>cases k<;>exact hd.elim
 |exc y p=>cases k<;>exact hd.elim
 |_=>exact aw (aA h.is_between rfl (cV rfl))
theorem rD (n:Nat){w:Nat}(hd:Th k L d):aq P (n+2) 1 [nD w,d] M=.ok (.bl (bC 0 ((w:Int)-1) d)) M:=by
 refine aw (aA h.is_word rfl ?_)
 simp [jA,jL h _ hd]
theorem fV (n:Nat){w:Nat}(hd:Th k L d):aq P (n+2) 2 [nD w,d] M=.ok (.bl (bC 0 ((w:Int)-1) d)) M:=by
 refine aw (aA h.is_place rfl ?_)
 simp [iP,jL h _ hd]
theorem kg (n:Nat)(hd:Th k L d):aq P (n+2) 3 [d] M=.ok (.bl (bC 1 3 d)) M:=by
 refine aw (aA h.is_cost rfl ?_)
 simp [jB,jL h _ hd]
theorem lS (n:Nat){w:Nat}(hd:Th k L d):aq P (n+1) 4 [nD w,d] M=.ok (.bl (fP w d)) M:=by
 refine aw (aA h.is_tuple_of rfl ?_)
 cases d with
 |fn j=>cases k<;>exact hd.elim
 |exc y p=>cases k<;>exact hd.elim
 | tup ds =>
   simp [fK,dN,fP]
   by_cases e:ds.length=w
   ·simp [e]
   ·have:¬ ((ds.length:Int)=(w:Int)):=by omega
    simp [e,this]
 |_=>exact cV rfl
theorem tR (n:Nat){w:Nat}(hd:Th k L d)(hL:L<=100):aq P (n+3) 5 [nD w,d] M=.ok (.bl (j9 w d)) M:=by
 refine aw (aA h.is_table rfl ?_)
 have e:=lS h (n+1) (w:=w) (M:=M) hd
 simp only [iO,aW,eE,B0,gE,bp,cU,b8,MO,List.map_nil,List.cons_append,NB,Nx,Ny,NO,Option.some.injEq,exists_eq_left']
 rw [e]
 refine ⟨_,rfl,?_⟩
 cases d with
 | tup ds =>
   have ht:=hd.tup
   by_cases el:ds.length=w
   ·have:fP w (.tup ds)=true:=by simp [fP,el]
    rw [this,if_pos rfl,all_eq (ds:=ds) (bC 0 ((w:Int)-1)) (by simp;exact ⟨rfl,rfl⟩) (aL (by omega)) (fun d hd=>aw (by simp [rD h n (ht.2 d hd)]))]
    exact ⟨by simp [j9,el],rfl⟩
   ·have:fP w (.tup ds)=false:=by simp [fP,el]
    rw [this,if_neg (by simp)]
    exact ⟨by simp [j9,el],rfl⟩
 |_=>exact ⟨rfl,rfl⟩
theorem zu (n:Nat){w:Nat}(hd:Th k L d)(hL:L<=100):aq P (n+4) 6 [nD w,d] M=.ok (.bl (oy w d)) M:=by
 refine aw (aA h.is_double_table rfl ?_)
 have e:=lS h (n+2) (w:=w) (M:=M) hd
 simp only [dR,aW,eE,B0,gE,bp,cU,b8,MO,List.map_nil,List.cons_append,NB,Nx,Ny,NO,Option.some.injEq,exists_eq_left']
 rw [e]
 refine ⟨_,rfl,?_⟩
 cases d with
 | tup ds =>
   have ht:=hd.tup
   by_cases el:ds.length=w
   ·have:fP w (.tup ds)=true:=by simp [fP,el]
    rw [this,if_pos rfl,all_eq (ds:=ds) (j9 w) (by simp;exact ⟨rfl,rfl⟩) (aL (by omega)) (fun d hd=>aw (by simp [tR h n (ht.2 d hd) hL]))]
    exact ⟨by simp [oy,el],rfl⟩
   ·have:fP w (.tup ds)=false:=by simp [fP,el]
    rw [this,if_neg (by simp)]
    exact ⟨by simp [oy,el],rfl⟩
 |_=>exact ⟨rfl,rfl⟩
omit h in
theorem oo {j c:Nat}{ds:List D}{Z:Env}(e:Z[j]?.getD none=some (.tup ds))(hc:ds.length≠c):(aE (aR .ne (aV .len (ae (aa j) ai)) (gC (.int (c:Int)))):GT) Z M=.ok true M:=by
 rw [IC (iJ e) rfl,Mx.mpr (by omega)]
 rfl
theorem zk (n:Nat){w p:Nat}{ds:List D}(hd:∀d∈ds,Th k L d)(hL:L<=100)(hl:ds.length<=100):aq P (n+4) 7 [nD w,nD p,.tup ds] M=.ok (.bl (qL w p ds)) M:=by
 refine aw (aA h.is_turn rfl ?_)
 match ds,hd,hl with
 | [a, t, c], hd, _ =>
   show ah (fZ (aq P (n+3)) [some (nD w),some (nD p),some (.tup [a,t,c]),none,none,none] M) _
   unfold fZ
   refine br rfl (cn rfl ?_)
   show ah _ _
   exact dq (jj (iN rfl rfl (fV h (n+1) (hd a (.head _)))) fun _=>jj (iN rfl rfl (tR h n (hd t (.tail _ (.head _))) hL)) fun _=>qV rfl (kg h (n+1) (hd c (.tail _ (.tail _ (.head _)))))) ⟨rfl,rfl⟩
 |[],_,_=>exact cV rfl
 |[_],_,_=>exact cV rfl
 |[_,_],_,_=>exact cV rfl
 | a :: b :: c :: d :: r, _, _ =>
   show ah (fZ (aq P (n+3)) [some (nD w),some (nD p),some (.tup (a::b::c::d::r)),none,none,none] M) _
   exact jW (oo (c:=3) (ds:=a::b::c::d::r) rfl (fun z=>by simp at z)) rfl ⟨rfl,rfl⟩
theorem zt (n:Nat){w p:Nat}{ds:List D}(hd:∀d∈ds,Th k L d)(hL:L<=100)(hl:ds.length<=100):aq P (n+5) 8 [nD w,nD p,.tup ds] M=.ok (.bl (qS w p ds)) M:=by
 refine aw (aA h.is_join rfl ?_)
 match ds,hd,hl with
 | [a, o, t, c], hd, _ =>
   show ah (f7 (aq P (n+4)) [some (nD w),some (nD p),some (.tup [a,o,t,c]),none,none,none,none] M) _
   unfold f7
   refine br rfl (cn rfl ?_)
   refine bZ (Bw (ie (bK (iN rfl rfl (fV h (n+2) (hd a (.head _)))))) (ie (bK (iN rfl rfl (fV h (n+2) (hd o (.tail _ (.head _)))))))) (fun e=>?_) fun e=>?_
   ·refine dq (v:=.bl false) rfl ⟨?_,rfl⟩
    show D.bl false=.bl (_&&(_&&_))
    cases q:bC 0 ((p:Int)-1) a with
    |false=>rfl
    | true =>
      rw [q] at e
      cases q2:bC 0 ((p:Int)-1) o with
      |false=>rfl
      |true=>rw [q2] at e;cases e
   ·refine dq (jj (iN rfl rfl (zu h n (hd t (.tail _ (.tail _ (.head _)))) hL)) fun _=>qV rfl (kg h (n+2) (hd c (.tail _ (.tail _ (.tail _ (.head _))))))) ⟨?_,rfl⟩
    show _=D.bl (bC 0 ((p:Int)-1) a&&(bC 0 ((p:Int)-1) o&&_))
    cases q:bC 0 ((p:Int)-1) a with
    |false=>rw [q] at e;cases e
    | true =>
      rw [q] at e
      cases q2:bC 0 ((p:Int)-1) o with
      |false=>rw [q2] at e;cases e
      |true=>rfl
 |[],_,_=>exact cV rfl
 |[_],_,_=>exact cV rfl
 |[_,_],_,_=>exact cV rfl
 |[_,_,_],_,_=>exact cV rfl
 | a :: b :: c :: d :: e :: r, _, _ =>
   show ah (f7 (aq P (n+4)) [some (nD w),some (nD p),some (.tup (a::b::c::d::e::r)),none,none,none,none] M) _
   exact jW (oo (c:=4) (ds:=a::b::c::d::e::r) rfl (fun z=>by simp at z)) rfl ⟨rfl,rfl⟩
theorem zq (n:Nat){w p:Nat}{ds:List D}(hd:∀d∈ds,Th k L d)(hL:L<=100)(hl:ds.length<=100):aq P (n+3) 9 [nD w,nD p,.tup ds] M=.ok (.bl (qO w p ds)) M:=by
 refine aw (aA h.is_move rfl ?_)
 match ds,hd,hl with
 | [a, t, c], hd, _ =>
   show ah (f6 (aq P (n+2)) [some (nD w),some (nD p),some (.tup [a,t,c]),none,none,none] M) _
   unfold f6
   refine br rfl (cn rfl ?_)
   show ah _ _
   exact dq (jj (iN rfl rfl (fV h n (hd a (.head _)))) fun _=>jj (iN rfl rfl (fV h n (hd t (.tail _ (.head _))))) fun _=>qV rfl (kg h n (hd c (.tail _ (.tail _ (.head _)))))) ⟨rfl,rfl⟩
 |[],_,_=>exact cV rfl
 |[_],_,_=>exact cV rfl
 |[_,_],_,_=>exact cV rfl
 | a :: b :: c :: d :: r, _, _ =>
   show ah (f6 (aq P (n+2)) [some (nD w),some (nD p),some (.tup (a::b::c::d::r)),none,none,none] M) _
   exact jW (oo (c:=3) (ds:=a::b::c::d::r) rfl (fun z=>by simp at z)) rfl ⟨rfl,rfl⟩
theorem CU (n:Nat){w p:Nat}{ds:List D}(hd:∀d∈ds,Th k L d)(hL:L<=100)(hl:ds.length<=100):aq P (n+3) 10 [nD w,nD p,.tup ds] M=.ok (.bl (uV w p ds)) M:=by
 refine aw (aA h.is_put rfl ?_)
 match ds,hd,hl with
 | [a, t, c], hd, _ =>
   show ah (gY (aq P (n+2)) [some (nD w),some (nD p),some (.tup [a,t,c]),none,none,none] M) _
   unfold gY
   refine br rfl (cn rfl ?_)
   show ah _ _
   exact dq (jj (iN rfl rfl (fV h n (hd a (.head _)))) fun _=>jj (iN rfl rfl (rD h n (hd t (.tail _ (.head _))))) fun _=>qV rfl (kg h n (hd c (.tail _ (.tail _ (.head _)))))) ⟨rfl,rfl⟩
 |[],_,_=>exact cV rfl
 |[_],_,_=>exact cV rfl
 |[_,_],_,_=>exact cV rfl
 | a :: b :: c :: d :: r, _, _ =>
   show ah (gY (aq P (n+2)) [some (nD w),some (nD p),some (.tup (a::b::c::d::r)),none,none,none] M) _
   exact jW (oo (c:=3) (ds:=a::b::c::d::r) rfl (fun z=>by simp at z)) rfl ⟨rfl,rfl⟩
omit h in
theorem xr {w p:Nat}{ds:List D}:c6 w p "turn" ds=qL w p ds:=by unfold c6;rw [if_pos rfl]
omit h in
theorem xq {w p:Nat}{ds:List D}:c6 w p "join" ds=qS w p ds:=by unfold c6;rw [if_neg (by decide +kernel),if_pos rfl]
omit h in
theorem xp {w p:Nat}{ds:List D}:c6 w p "move" ds=qO w p ds:=by unfold c6;rw [if_neg (by decide +kernel),if_neg (by decide +kernel),if_pos rfl]
omit h in
theorem xo {w p:Nat}{ds:List D}:c6 w p "put" ds=uV w p ds:=by unfold c6;rw [if_neg (by decide +kernel),if_neg (by decide +kernel),if_neg (by decide +kernel),if_pos rfl]
omit h in
theorem FY {w p:Nat}{ds:List D}{s:Str}(e1:¬ s="turn")(e2:¬ s="join")(e3:¬ s="move")(e4:¬ s="put"):c6 w p s ds=false:=by unfold c6;rw [if_neg e1,if_neg e2,if_neg e3,if_neg e4]
omit h in
theorem uR {s:Str}(e1:¬ s="turn")(e2:¬ s="join")(e3:¬ s="move")(e4:¬ s="put"):cu.lookup s=none:=by
 unfold cu
 simp only [List.lookup,Mx.mpr e1,Mx.mpr e2,Mx.mpr e3,Mx.mpr e4]
theorem mv (n:Nat){w p f:Nat}{s:Str}{ds:List D}{v:Bool}(lk:cu.lookup s=some f)(q:aq P (n+5) f [nD w,nD p,.tup ds] M=.ok (.bl v) M):aq P (n+6) 11 [nD w,nD p,.tup (.str s::ds)] M=.ok (.bl v) M:=by
 refine aw (aA h.is_deed rfl ?_)
 simp [-List.lookup_isSome_iff,f9,dN,bL,lk,fQ,aI,du,cut,q]
theorem AM (n:Nat){w p:Nat}{s:Str}{ds:List D}(lk:cu.lookup s=none):aq P (n+6) 11 [nD w,nD p,.tup (.str s::ds)] M=.ok (.bl false) M:=by
 refine aw (aA h.is_deed rfl ?_)
 have e:(cu.lookup s).isSome=false:=by rw [lk];rfl
 simp [-List.lookup_isSome_iff,-List.lookup_eq_none_iff,-Option.isSome_eq_false_iff,f9,dN,bL,e]
 exact lk
theorem zw (n:Nat){w p:Nat}(hd:Th k L d)(hL:L<=100):aq P (n+6) 11 [nD w,nD p,d] M=.ok (.bl (iM w p d)) M:=by
 cases d with
 |fn j=>cases k<;>exact hd.elim
 |exc y p=>cases k<;>exact hd.elim
 | tup xs =>
   have ht:=hd.tup
   cases xs with
   |nil=>exact aw (aA h.is_deed rfl (cV rfl))
   | cons x ds =>
     have hx:=ht.2 x Ml
     have hds:∀d∈ds,Th k L d:=fun d hd=>ht.2 d (LY _ hd)
     have hl:ds.length<=100:=by have:=ht.1;simp at this;omega
     by_cases hs:∃s,x=.str s
     ·obtain ⟨s,rfl⟩:=hs
      show _=Res.ok (D.bl (c6 w p s ds)) M
      by_cases e1:s="turn"
      ·subst e1
       rw [xr];exact mv h n Ks (zk h (n+1) hds hL hl)
      by_cases e2:s="join"
      ·subst e2
       rw [xq];exact mv h n Kr (zt h n hds hL hl)
      by_cases e3:s="move"
      ·subst e3
       rw [xp];exact mv h n Kq (zq h (n+2) hds hL hl)
      by_cases e4:s="put"
      ·subst e4
       rw [xo];exact mv h n Kp (CU h (n+2) hds hL hl)
      rw [FY e1 e2 e3 e4]
      exact AM h n (uR e1 e2 e3 e4)
     ·have e1:iM w p (.tup (x::ds))=false:=by cases x<;>first|rfl|exact absurd ⟨_,rfl⟩ hs
      have e2:=Au hx (t:=.str) (.inl ⟨hs,rfl⟩)
      rw [e1]
      refine aw (aA h.is_deed rfl ?_)
      have e3:dN .tuple (.tup (x::ds))=some true:=rfl
      simp [f9,bL,e2,e3]
 |_=>exact aw (aA h.is_deed rfl (cV rfl))
theorem Af (n:Nat)(hd:Th k L d)(hn:fP 3 d=false):aq P (n+7) 12 [d] M=.ok (.bl false) M:=by
 refine aw (aA h.is_machine rfl ?_)
 have e:aq P (n+6) 4 [.int 3,d] M=.ok (.bl (fP 3 d)) M:=lS h (n+5) (w:=3) (M:=M) hd
 rw [hn] at e
 simp [e9,e]
theorem ID (n:Nat){a b c:D}(hd:Th k L (.tup [a,b,c]))(hL:L<=100):aq P (n+7) 12 [.tup [a,b,c]] M=.ok (.bl (iI (.tup [a,b,c]))) M:=by
 refine aw (aA h.is_machine rfl ?_)
 have ht:=hd.tup.2
 simp only [My,NP,or_false,forall_eq_or_imp,forall_eq] at ht
 have e:aq P (n+6) 4 [.int 3,.tup [a,b,c]] M=.ok (.bl true) M:=lS h (n+5) (w:=3) (M:=M) hd
 have b1:=jL h (n+5) (M:=M) ht.1 2 4
 have b2:=jL h (n+5) (M:=M) ht.2.1 1 2
 simp only [e9,aW,wZ,eE,d7,zb,jM,nM,ka,J4,E9,fY,gE,bp,cU,b8,G2,MO,List.map_nil,List.cons_append,NB,Nx,Ny,NO,Option.some.injEq,exists_eq_left']
 rw [e]
 refine ⟨_,rfl,?_⟩
 rw [if_neg (by simp)]
 refine ⟨_,_,rfl,rfl,_,rfl,?_⟩
 rw [b1]
 refine ⟨_,rfl,?_⟩
 by_cases c1:bC 2 4 a=false
 ·rw [c1,if_pos (by decide),if_pos trivial]
  exact ⟨by simp [iI,c1],rfl⟩
 have c1:bC 2 4 a=true:=by simpa using c1
 rw [c1,if_neg (by simp)]
 refine ⟨_,rfl,?_⟩
 rw [b2]
 refine ⟨_,rfl,?_⟩
 by_cases c2:bC 1 2 b=false
 ·rw [c2,if_pos (by decide)]
  exact ⟨by simp [iI,c2],rfl⟩
 have c2:bC 1 2 b=true:=by simpa using c2
 rw [c2,if_neg (by simp)]
 refine ⟨_,rfl,?_⟩
 obtain ⟨ea,_,_⟩:=uF c1 (by decide)
 obtain ⟨eb,_,_⟩:=uF c2 (by decide)
 cases c with
 |fn j=>exact absurd ht.2.2 (by cases k<;>exact id)
 |exc y p=>exact absurd ht.2.2 (by cases k<;>exact id)
 | tup ds =>
   have hc:=ht.2.2.tup
   refine ⟨true,rfl,true,rfl,?_⟩
   rw [if_neg (by simp)]
   simp only [IU,fY]
   refine fq.mpr (bp.mpr (b8.mpr ⟨_,rfl,cU.mpr (DU.mpr ⟨_,rfl,?_⟩)⟩))
   by_cases l1:(1:Int)<=(ds.length:Int)
   ·rw [decide_eq_true l1,if_pos (by decide)]
    refine ⟨_,rfl,_,rfl,?_⟩
    by_cases l6:(ds.length:Int)<=6
    ·rw [decide_eq_true l6,if_neg (by simp)]
     have lb:iq (.tup ds)=true:=by simp [iq];omega
     rw [all_eq (ds:=ds) (iM (gU a) (gU b)) (by simp;exact ⟨rfl,rfl⟩) (aL (by omega)) (fun d hd=>aw (by
      have q:=zw h n (w:=gU a) (p:=gU b) (M:=M) (hc.2 d hd) hL
      rw [<- ea,<- eb] at q
      simp [q]))]
     refine ⟨?_,rfl⟩
     show D.bl (ds.all (iM (gU a) (gU b)))=D.bl (bC 2 4 a&&(bC 1 2 b&&(iq (.tup ds)&&ds.all (iM (gU a) (gU b)))))
     rw [c1,c2,lb];simp
    ·rw [decide_eq_false l6,if_pos (by decide)]
     refine ⟨?_,rfl⟩
     have lb:iq (.tup ds)=false:=by simp [iq];omega
     simp [iI,lb]
   ·rw [decide_eq_false l1,if_neg (by simp)]
    refine ⟨_,rfl,?_⟩
    rw [if_pos (by decide)]
    refine ⟨?_,rfl⟩
    have lb:iq (.tup ds)=false:=by simp [iq];omega
    simp [iI,lb]
 | _ =>
   refine ⟨false,rfl,false,rfl,?_⟩
   rw [if_pos (by decide)]
   exact ⟨by simp [iI,iq],rfl⟩
theorem zr (n:Nat)(hd:Th k L d)(hL:L<=100):aq P (n+7) 12 [d] M=.ok (.bl (iI d)) M:=by
 by_cases hn:fP 3 d=false
 ·rw [Af h n hd hn,Ae hn]
 ·match d,hd,hn with
  |.tup [a,b,c],hd,_=>exact ID h n hd hL
  |.tup [],_,hn=>exact absurd rfl hn
  |.tup [_],_,hn=>exact absurd rfl hn
  |.tup [_,_],_,hn=>exact absurd rfl hn
  |.tup (_::_::_::_::r),_,hn=>exact absurd (by simp [fP]) hn
  |.non,_,hn=>exact absurd rfl hn
  |.bl _,_,hn=>exact absurd rfl hn
  |.int _,_,hn=>exact absurd rfl hn
  |.str _,_,hn=>exact absurd rfl hn
  |.lst _,_,hn=>exact absurd rfl hn
  |.frz _,_,hn=>exact absurd rfl hn
  |.cell _,_,hn=>exact absurd rfl hn
  |.fn _,_,hn=>exact absurd rfl hn
  |.exc _ _,_,hn=>exact absurd rfl hn
omit h in
theorem cZ {lo hi:Int}{n:Nat}(h1:lo<=(n:Int))(h2:(n:Int)<=hi):bC lo hi (nD n)=true:=by simp [bC];omega
omit h in
theorem rn {w:Nat}{t:List Nat}(ht:iV w t):j9 w (aF t)=true:=by
 have e:(t.map nD).all (bC 0 ((w:Int)-1))=true:=by
  rw [L9]
  intro x hx
  obtain ⟨i,hi,rfl⟩:=Mz.mp hx
  have:=ht.2 i hi
  exact cZ (by omega) (by omega)
 show ((t.map nD).length==w&&(t.map nD).all (bC 0 ((w:Int)-1)))=true
 rw [e,LX,ht.1];simp
omit h in
theorem yi {w p:Nat}{d:aY}(hd:bX w p d):iM w p d.d=true:=by
 cases d with
 | turn a t c =>
   obtain ⟨h1,h2,h3⟩:=hd
   unfold fg at h3
   show c6 w p "turn" _=true
   rw [xr]
   simp only [qL]
   rw [cZ (by omega) (by omega),rn h2,cZ (by omega) (by omega)];rfl
 | join a o t c =>
   obtain ⟨h1,h2,h3,h4⟩:=hd
   unfold fg at h4
   show c6 w p "join" _=true
   rw [xq]
   simp only [qS]
   have e:oy w (.tup (t.map aF))=true:=by
    have e:(t.map aF).all (j9 w)=true:=by
     rw [L9]
     intro x hx
     obtain ⟨i,hi,rfl⟩:=Mz.mp hx
     exact rn (h3.2 i hi)
    show ((t.map aF).length==w&&(t.map aF).all (j9 w))=true
    rw [e,LX,h3.1];simp
   rw [cZ (by omega) (by omega),cZ (by omega) (by omega),e,cZ (by omega) (by omega)];rfl
 | move a o c =>
   obtain ⟨h1,h2,h3⟩:=hd
   unfold fg at h3
   show c6 w p "move" _=true
   rw [xp]
   simp only [qO]
   rw [cZ (by omega) (by omega),cZ (by omega) (by omega),cZ (by omega) (by omega)];rfl
 | put a o c =>
   obtain ⟨h1,h2,h3⟩:=hd
   unfold fg at h3
   show c6 w p "put" _=true
   rw [xo]
   simp only [uV]
   rw [cZ (by omega) (by omega),cZ (by omega) (by omega),cZ (by omega) (by omega)];rfl
omit h in
theorem xH {m:aX}(hm:a9 m):iI m.d=true:=by
 have w2:=hm.w2
 have w4:=hm.w4
 have p1:=hm.p1
 have p2:=hm.p2
 have l1:=hm.d1
 have l6:=hm.d6
 have e:(m.deeds.map aY.d).all (iM m.words m.places)=true:=by
  rw [L9]
  intro x hx
  obtain ⟨i,hi,rfl⟩:=Mz.mp hx
  exact yi (hm.ok i hi)
 have e2:iq (.tup (m.deeds.map aY.d))=true:=by simp [iq];omega
 show (bC 2 4 (nD m.words)&&(bC 1 2 (nD m.places)&&(iq (.tup (m.deeds.map aY.d))&&(m.deeds.map aY.d).all (iM m.words m.places))))=true
 rw [cZ (by omega) (by omega),cZ (by omega) (by omega),e,e2];rfl
end
end LD
namespace LD
open PySem
noncomputable def tL:Nat->Nat->D->Bool
 |_,_,.non=>true
 |_,_,.bl _=>true
 |_,_,.int _=>true
 |_,L,.str x=>decide (x.cps.size<=L)&&x.cps.all (· < 0x110000)
 |n+1,L,.tup ds=>decide (ds.length<=L)&&ds.all (tL n L)
 |n+1,L,.lst ds=>decide (ds.length<=L)&&ds.all (tL n L)
 |_,_,_=>false
theorem rk:∀{n L:Nat}{d:D},tL n L d=true->Th n L d
 |n,L,.non,_=>by cases n<;>trivial
 |n,L,.bl _,_=>by cases n<;>trivial
 |n,L,.int _,_=>by cases n<;>trivial
 | n, L, .str x, h => by
   have q:(decide (x.cps.size<=L)&&x.cps.all (· < 0x110000))=true:=by cases n<;>exact h
   simp only [LN,decide_eq_true_eq] at q
   have q:x.cps.size<=L/\x.cps.all (· < 0x110000)=true:=q
   cases n<;>exact q
 | n + 1, L, .tup ds, h => by
   have h:(decide (ds.length<=L)&&ds.all (tL n L))=true:=h
   simp only [LN,decide_eq_true_eq] at h
   exact ⟨h.1,fun d hd=>rk (L9.mp h.2 d hd)⟩
 | n + 1, L, .lst ds, h => by
   have h:(decide (ds.length<=L)&&ds.all (tL n L))=true:=h
   simp only [LN,decide_eq_true_eq] at h
   exact ⟨h.1,fun d hd=>rk (L9.mp h.2 d hd)⟩
 |0,L,.tup ds,h=>by cases h
 |0,L,.lst ds,h=>by cases h
 |n,L,.frz _,h=>by cases n<;>cases h
 |n,L,.cell _,h=>by cases n<;>cases h
 |n,L,.fn _,h=>by cases n<;>cases h
 |n,L,.exc _ _,h=>by cases n<;>cases h
theorem wz {w:Nat}{t:List Nat}(h:iV w t)(w4:w<=4):Th 2 6 (aF t):=by
 refine ⟨by have:=h.1;simp;omega,fun d hd=>?_⟩
 obtain ⟨i,_,rfl⟩:=Mz.mp hd
 trivial
theorem qN {n:Nat}{z:Str}(h:tL 0 6 (.str z)=true):Th n 6 (.str z):=(rk h).mono (NY n) (LP 6)
theorem gB {n:Nat}{i:Int}:Th n 6 (.int i):=by cases n<;>trivial
theorem Ej {w p:Nat}{d:aY}(h:bX w p d)(w4:w<=4):Th 4 6 d.d:=by
 cases d with
 | turn a t c =>
   refine ⟨by simp,fun x hx=>?_⟩
   simp only [My,NP,or_false] at hx
   rcases hx with rfl|rfl|rfl|rfl
   ·exact qN (by decide +kernel)
   ·exact gB
   ·exact (wz h.2.1 w4).mono (by decide) (by decide)
   ·exact gB
 | join a o t c =>
   refine ⟨by simp,fun x hx=>?_⟩
   simp only [My,NP,or_false] at hx
   rcases hx with rfl|rfl|rfl|rfl|rfl
   ·exact qN (by decide +kernel)
   ·exact gB
   ·exact gB
   ·refine ⟨by have:=h.2.2.1.1;simp;omega,fun y hy=>?_⟩
    obtain ⟨z,hz,rfl⟩:=Mz.mp hy
    exact wz (h.2.2.1.2 z hz) w4
   ·exact gB
 | move a o c =>
   refine ⟨by simp,fun x hx=>?_⟩
   simp only [My,NP,or_false] at hx
   rcases hx with rfl|rfl|rfl|rfl
   ·exact qN (by decide +kernel)
   all_goals exact gB
 | put a o c =>
   refine ⟨by simp,fun x hx=>?_⟩
   simp only [My,NP,or_false] at hx
   rcases hx with rfl|rfl|rfl|rfl
   ·exact qN (by decide +kernel)
   all_goals exact gB
theorem DR {m:aX}(h:a9 m):Th 6 6 m.d:=by
 refine ⟨by simp,fun x hx=>?_⟩
 simp only [My,NP,or_false] at hx
 rcases hx with rfl|rfl|rfl
 ·exact gB
 ·exact gB
 ·refine ⟨by have:=h.d6;simpa using this,fun y hy=>?_⟩
  obtain ⟨z,hz,rfl⟩:=Mz.mp hy
  exact Ej (h.ok z hz) h.w4
theorem HasM0.q {P:Nat->Option Df}(h:HasM0 P):HH P:=⟨h.is_between,h.is_word,h.is_place,h.is_cost,h.is_tuple_of,h.is_table,h.is_double_table,h.is_turn,h.is_join,h.is_move,h.is_put,h.is_deed,h.is_machine⟩
end LD
namespace LD
open PySem
structure Sub (M M':Mem):Prop where
 len:M.length<=M'.length
 at':∀k,k<M.length->M'[k]?=M[k]?
theorem Sub.refl {M:Mem}:Sub M M:=⟨LP _,fun _ _=>rfl⟩
theorem Sub.trans {M M1 M2:Mem}(a:Sub M M1)(b:Sub M1 M2):Sub M M2:=⟨LR a.len b.len,fun k hk=>(b.at' k (L5 hk a.len)).trans (a.at' k hk)⟩
theorem Sub.app {M X:Mem}:Sub M (M++X):=⟨by simp,fun k hk=>Ma hk⟩
theorem Sub.get {k:Nat}{M M':Mem}{ds:List D}(h:Sub M M')(e:M[k]?=some ds):M'[k]?=some ds:=by rw [h.at' k (LJ.mp e).1];exact e
theorem Sub.setq {M M':Mem}{q:Nat}{ds:List D}(h:Sub M M')(hq:M.length<=q):Sub M (M'.set q ds):=⟨by simpa using h.len,fun k hk=>by rw [LS (by omega)];exact h.at' k hk⟩
theorem vF {tg:cy}{w:Walk}{ge:GE}{ds:List D}{ρ0:Env}{M:Mem}{acc0:List D}{kl:List D->Mem->Prop}(f:D->D)(hz:acc0.length+ds.length<=sz)(hw:w M=some ds)(hs:∀d∈ds,∃ρ1,bW tg d ρ0=some ρ1/\ge ρ1 M=.ok (f d) M)(hk:kl (acc0++ds.map f) M) :
 ah (dg (di tg (bU ge) ρ0) w acc0 M) kl:=by
 refine gM (ds:=ds) (fun i acc M'=>M'=M/\acc=acc0++(ds.take i).map f) (fun i acc M' h=>by rw [h.1];exact hw) ⟨rfl,by simp⟩ ?_ ?_
 ·rintro i d acc M' hd ⟨rfl,rfl⟩
  obtain ⟨ρ1,e1,e2⟩:=hs d (MJ hd)
  have hi:i<ds.length:=(LJ.mp hd).1
  simp only [di,bj,i8,e1,B6]
  refine ⟨ρ1,rfl,?_⟩
  rw [e2]
  refine ⟨by simp;omega,rfl,?_⟩
  rw [MY,hd]
  simp
 ·rintro acc M' ⟨rfl,rfl⟩
  simpa using hk
theorem pq {α β:Type}(f:α->List β)(n:Nat):∀(ds:List α),(∀d∈ds,(f d).length<=n)->(ds.flatMap f).length<=ds.length*n
 |[],_=>by simp
 | d :: r, h => by
   have h1:=h d Ml
   have h2:=pq f n r fun d hd=>h d (LY _ hd)
   simp only [List.flatMap_cons,ME,MC,Nat.succ_mul]
   omega
theorem vG {t u:cy}{w:Walk}{gw2:GW}{ge:GE}{ds:List D}{ρ0:Env}{M:Mem}{kl:List D->Mem->Prop}(its:D->List D)(f:D->D->D)(n:Nat)(hn:∀d∈ds,(its d).length<=n)(hz:ds.length*n<=sz)(hw:w M=some ds)
 (hs:∀d∈ds,∃ρ1,bW t d ρ0=some ρ1/\∃w2,gw2 ρ1 M=.ok w2 M/\w2 M=some (its d)/\∀e∈its d,∃ρ2,bW u e ρ1=some ρ2/\ge ρ2 M=.ok (f d e) M) (hk:kl (ds.flatMap fun d=>(its d).map (f d)) M) :
 ah (dg (di t (sF u gw2 (bU ge)) ρ0) w [] M) kl:=by
 refine gM (ds:=ds) (fun i acc M'=>M'=M/\acc=(ds.take i).flatMap fun d=>(its d).map (f d)) (fun i acc M' h=>by rw [h.1];exact hw) ⟨rfl,by simp⟩ ?_ ?_
 ·rintro i d acc M' hd ⟨rfl,rfl⟩
  obtain ⟨ρ1,e1,w2,e2,e3,e4⟩:=hs d (MJ hd)
  have hi:i<ds.length:=(LJ.mp hd).1
  simp only [di,bj,i8,e1,sF]
  refine ⟨ρ1,rfl,?_⟩
  rw [e2]
  show ah (dg (di u (bU ge) ρ1) w2 _ M') _
  have e5:(ds.take (i+1)).flatMap (fun d=>(its d).map (f d))=(ds.take i).flatMap (fun d=>(its d).map (f d))++(its d).map (f d):=by
   rw [MY,hd];simp
  have l1:=pq (fun d=>(its d).map (f d)) n (ds.take (i+1)) (fun d hd=>by simpa using hn d (MP hd))
  rw [e5] at l1
  simp only [ME,LX,Ni] at l1
  refine vF (f d) ?_ e3 e4 ⟨rfl,e5.symm⟩
  have:(min (i+1) ds.length)*n<=ds.length*n:=Nat.mul_le_mul_right _ (Nat.min_le_right _ _)
  omega
 ·rintro acc M' ⟨rfl,rfl⟩
  simpa using hk
noncomputable def vq (w:Nat)(l:List (List Nat)):List (List Nat):=l.flatMap fun s=>(List.range w).map fun x=>s++[x]
noncomputable def dQ (w:Nat):Nat->List (List Nat)
 |0=>[[]]
 |p+1=>vq w (dQ w p)
noncomputable def bE (m:aX):List (List Nat):=dQ m.words m.places
noncomputable def fT (m:aX)(s:List Nat):Prop:=s.length=m.places/\∀x∈s,x<m.words
theorem sW {w p:Nat}:∀s∈dQ w p,s.length=p/\∀x∈s,x<w:=by
 induction p with
 |zero=>intro s hs;simp [dQ] at hs;subst hs;simp
 | succ p ih =>
   intro s hs
   simp only [dQ,vq,List.mem_flatMap,List.mem_map,List.mem_range] at hs
   obtain ⟨t,ht,x,hx,rfl⟩:=hs
   obtain ⟨h1,h2⟩:=ih t ht
   refine ⟨by simp [h1],fun y hy=>?_⟩
   rcases Ms.mp hy with z|z
   ·exact h2 y z
   ·simp at z;omega
theorem mB {m:aX}:∀s∈bE m,fT m s:=sW
theorem jz {w:Nat}(hw:w<=4):∀p≤2,(dQ w p).length<=4^p
 |0,_=>by simp [dQ]
 | p + 1, hp => by
   have:=jz hw p (by omega)
   have l:=pq (fun s:List Nat=>(List.range w).map fun x=>s++[x]) 4 (dQ w p) (fun d hd=>by simpa using hw)
   simp only [dQ,vq]
   calc _<=(dQ w p).length*4:=l
    _<=4^p*4:=Nat.mul_le_mul_right _ this
    _=4^(p+1):=by rw [Nat.pow_succ]
theorem nv {m:aX}(hm:a9 m):(bE m).length<=16:=by
 have h:=jz hm.w4 m.places hm.p2
 have h1:=hm.p1
 have h2:=hm.p2
 have:m.places=1\/m.places=2:=by omega
 rcases this with e|e<;>rw [e] at h<;>unfold bE<;>rw [e]<;>omega
noncomputable def dD:aY->List Nat->Nat
 |.turn a t _,s=>t.getD (s.getD a 0) 0
 |.join a o t _,s=>(t.getD (s.getD a 0) []).getD (s.getD o 0) 0
 |.move _ o _,s=>s.getD o 0
 |.put _ x _,_=>x
noncomputable def aY.at':aY->Nat
 |.turn a _ _=>a
 |.join a _ _ _=>a
 |.move a _ _=>a
 |.put a _ _=>a
noncomputable def d3 (d:aY)(s:List Nat):List Nat:=s.take d.at'++[dD d s]++s.drop (d.at'+1)
theorem getD_mem {α:Type}{l:List α}{i:Nat}{d:α}(h:i<l.length):l.getD i d∈l:=by
 rw [MT,Mb h];exact Nv h
theorem n8 {m:aX}{d:aY}{s:List Nat}(hd:bX m.words m.places d)(hs:fT m s):dD d s<m.words:=by
 obtain ⟨hl,hx⟩:=hs
 cases d with
 | turn a t c =>
   obtain ⟨h1,h2,h3⟩:=hd
   have:=hx _ (getD_mem (d:=0) (show a<s.length by omega))
   exact h2.2 _ (getD_mem (by rw [h2.1];exact this))
 | join a o t c =>
   obtain ⟨h1,h2,h3,h4⟩:=hd
   have a1:=hx _ (getD_mem (d:=0) (show a<s.length by omega))
   have a2:=hx _ (getD_mem (d:=0) (show o<s.length by omega))
   have a3:=h3.2 _ (getD_mem (d:=[]) (show s.getD a 0<t.length by rw [h3.1];exact a1))
   exact a3.2 _ (getD_mem (by rw [a3.1];exact a2))
 |move a o c=>exact hx _ (getD_mem (by obtain ⟨h1,h2,h3⟩:=hd;omega))
 |put a x c=>exact hd.2.1
theorem qX {w p:Nat}{d:aY}(hd:bX w p d):d.at'<p:=by cases d<;>exact hd.1
theorem yh {m:aX}{d:aY}{s:List Nat}(hd:bX m.words m.places d)(hs:fT m s):fT m (d3 d s):=by
 have h1:=qX hd
 have h2:=n8 hd hs
 obtain ⟨hl,hx⟩:=hs
 refine ⟨by simp [d3];omega,fun x hm=>?_⟩
 simp only [d3,List.mem_append,List.mem_singleton] at hm
 rcases hm with (z|z)|z
 ·exact hx x (MP z)
 ·omega
 ·exact hx x (NJ z)
noncomputable def bo (m:aX)(r:List Nat):Prop:=r.length<=40/\∀i∈r,i<m.deeds.length
noncomputable def eL (m:aX)(i:Nat):aY:=m.deeds.getD i (.put 0 0 1)
noncomputable def bB (m:aX):List Nat->List Nat->List Nat
 |[],s=>s
 |i::r,s=>bB m r (d3 (eL m i) s)
noncomputable def dB (m:aX):List Nat->List Nat->List (List Nat)
 |[],s=>[s]
 |i::r,s=>s::dB m r (d3 (eL m i) s)
theorem j7 {m:aX}(hm:a9 m){i:Nat}(hi:i<m.deeds.length):bX m.words m.places (eL m i):=hm.ok _ (getD_mem hi)
theorem mq {m:aX}(hm:a9 m):∀{r:List Nat}{s:List Nat},(∀i∈r,i<m.deeds.length)->fT m s->fT m (bB m r s)
 |[],s,_,h=>h
 |i::r,s,hr,h=>mq (r:=r) hm (fun j hj=>hr j (LY _ hj)) (yh (j7 hm (hr i Ml)) h)
theorem sJ {m:aX}:∀(a b s:List Nat),bB m (a++b) s=bB m b (bB m a s)
 |[],b,s=>rfl
 |i::a,b,s=>sJ a b _
theorem qa {m:aX}:∀(r:List Nat) (i:Nat) (s:List Nat),dB m (r++[i]) s=dB m r s++[d3 (eL m i) (bB m r s)]
 |[],i,s=>rfl
 |j::r,i,s=>by simp [dB,bB,qa r i]
theorem m5 {m:aX}:∀(r s:List Nat),(dB m r s).length=r.length+1
 |[],s=>rfl
 |i::r,s=>by simp [dB,m5 r]
theorem qb {m:aX}:∀(r s:List Nat),(dB m r s)[r.length]?=some (bB m r s)
 |[],s=>rfl
 |i::r,s=>by simp [dB,bB,qb r]
theorem mI {m:aX}(r s:List Nat):((bL (dB m r s).length (-1)).bind fun j=>Option.map aF (dB m r s)[j]?)=some (aF (bB m r s)):=by
 rw [m5,DY (by omega)]
 show Option.map aF (dB m r s)[r.length+1-1]?=_
 rw [Nat.add_sub_cancel,qb]
 rfl
theorem zf {s:List Nat}{i:Nat}(hi:i<s.length):(bL (s.map nD).length (i:Int)).bind (fun j=>(s.map nD)[j]?)=some (nD (s.getD i 0)):=by
 rw [eX (by simpa using hi)]
 simp [MT,hi]
noncomputable def ay (r:List Nat):D:=.lst (r.map nD)
noncomputable def vE (m:aX)(r:List Nat):Nat:=(r.map fun i=>(eL m i).cost).sum
theorem Ag {m:aX}{i:Nat}(hi:i<m.deeds.length):((bL (m.deeds.map aY.d).length (i:Int)).bind fun j=>(m.deeds.map aY.d)[j]?)=some (eL m i).d:=by
 rw [eX (by simpa using hi)]
 simp [eL,MT,hi]
theorem xG {m:aX}{M:Mem}:bO m.d (.int 2) M=some (.tup (m.deeds.map aY.d)):=rfl
theorem nr {m:aX}{M:Mem}{i:Nat}(hi:i<m.deeds.length):bO (.tup (m.deeds.map aY.d)) (nD i) M=some (eL m i).d:=Ag hi
theorem qr {d:aY}{M:Mem}:bO d.d (.int (-1)) M=some (nD d.cost):=by cases d<;>rfl
theorem gD {s:List Nat}{M:Mem}{i:Nat}(hi:i<s.length):bO (aF s) (nD i) M=some (nD (s.getD i 0)):=zf hi
theorem xY {t:List (List Nat)}{M:Mem}{i:Nat}(hi:i<t.length):bO (.tup (t.map aF)) (nD i) M=some (aF (t.getD i [])):=by
 show (bL (t.map aF).length (i:Int)).bind (fun j=>(t.map aF)[j]?)=_
 rw [eX (by simpa using hi)]
 simp [MT,hi]
noncomputable def bf (M:Mem)(x:D)(r:List Nat):Prop:=x=.lst (r.map nD)\/∃q,x=.cell q/\M[q]?=some (r.map nD)
theorem bf.l {M:Mem}{r:List Nat}:bf M (.lst (r.map nD)) r:=.inl rfl
theorem bf.c {M:Mem}{q:Nat}{r:List Nat}(h:M[q]?=some (r.map nD)):bf M (.cell q) r:=.inr ⟨q,rfl,h⟩
theorem bf.sub {M M':Mem}{x:D}{r:List Nat}(h:bf M x r)(s:Sub M M'):bf M' x r:=h.elim .inl fun ⟨q,e,g⟩=>.inr ⟨q,e,s.get g⟩
theorem bf.seq {M:Mem}{x:D}{r:List Nat}(h:bf M x r):bH M x=some (r.map nD):=by
 rcases h with rfl|⟨q,rfl,e⟩
 ·rfl
 ·exact e
theorem bf.is {M:Mem}{x:D}{r:List Nat}(h:bf M x r):cY x=true/\dM x=true/\dN .list x=some true:=by
 rcases h with rfl|⟨q,rfl,e⟩<;>exact ⟨rfl,rfl,rfl⟩
theorem bf.len {M:Mem}{x:D}{r:List Nat}{k:D->Mem->Prop}(h:bf M x r):ah (dj .len [x] M) k↔k (.int r.length) M:=by
 rcases h with rfl|⟨q,rfl,e⟩
 ·show k (.int (r.map nD).length) M↔_
  simp
 ·show ah (match M[q]? with|some xs=>_|none=>_) k↔_
  rw [e];simp
theorem bf.list {M:Mem}{x:D}{r:List Nat}{m:Bool}{k:D->Mem->Prop}(h:bf M x r):ah (dj (.list m) [x] M) k↔ah (ba m (r.map nD) M) k:=by
 rcases h with rfl|⟨q,rfl,e⟩
 ·exact MS
 ·show ah (match M[q]? with|some xs=>_|none=>_) k↔_
  rw [e]
theorem bf.non {M:Mem}{x:D}{r:List Nat}(h:bf M x r):jv x=false:=by
 rcases h with rfl|⟨q,rfl,e⟩<;>rfl
theorem bf.vw {M:Mem}{x:D}{r:List Nat}(h:bf M x r):view M x=.lst (r.map nD):=by
 rcases h with rfl|⟨q,rfl,e⟩
 ·rfl
 ·simp [view,e]
theorem sE (f:Nat->Nat):∀(r:List Nat),∃bs,intsOf (r.map fun i=>nD (f i))=some bs/\bs.sum=(((r.map f).sum:Nat):Int)
 |[]=>⟨[],rfl,rfl⟩
 | i :: r => by
   obtain ⟨bs,e1,e2⟩:=sE f r
   exact ⟨(f i:Int)::bs,by simp [intsOf,e1],by simp [e2]⟩
section
variable {P:Nat->Option Df}(h:HasM0 P){M:Mem}
include h
theorem rH (n:Nat){m:aX}(hm:a9 m):aq P (n+8) 13 [m.d] M=.ok .non M:=by
 refine aw (aA h.need_machine rfl ?_)
 simp [gX,zr h.q n (DR hm) (by decide),xH hm]
theorem tW (h15:P 15=some ⟨1,6,dA⟩)(n:Nat){m:aX}(hm:a9 m):aq P (n+9) 15 [m.d] M=.ok (.lst ((bE m).map aF)) M:=by
 refine aw (aA h15 rfl ?_)
 have w4:=hm.w4
 have p2:=hm.p2
 simp [dA,rH h n hm]
 simp [aX.d,eV]
 refine ⟨by decide,by omega,?_⟩
 refine eO (ds:=(List.range m.places).map fun (k:Nat)=>D.int (k:Int)) (fun i Z M'=>M'=M/\∃a,Z=[some m.d,some (nD m.words),some (nD m.places),some (.tup (m.deeds.map aY.d)),some (.lst ((dQ m.words i).map aF)),a]) (fun _ _ _ _=>rfl) ⟨rfl,none,by simp [aX.d,dQ,aF]⟩ ?_ ?_
 ·rintro i d Z M' hd ⟨rfl,a,rfl⟩
  have hi:i<m.places:=by
   have:=(LJ.mp hd).1
   simpa using this
  refine ⟨_,rfl,?_⟩
  simp [cY]
  refine vG (ds:=(dQ m.words i).map aF) (fun _=>(List.range m.words).map fun (k:Nat)=>D.int (k:Int)) (fun d e=>match d,e with|.tup x,e=>.tup (x++[e])|_,_=>.non) 4 (by simpa using fun _ _=>w4) ?_ rfl ?_ ?_
  ·have:=jz w4 i (by omega)
   have:(4:Nat)^i<=4^2:=Nat.pow_le_pow_right (by decide) (by omega)
   simp only [LX]
   exact aL (by omega)
  ·intro d hd
   obtain ⟨s,hs,rfl⟩:=Mz.mp hd
   have ⟨l1,_⟩:=sW s hs
   refine ⟨_,rfl,(fun _=>some ((List.range m.words).map fun (k:Nat)=>D.int (k:Int))),lG ?_,rfl,fun e he=>⟨_,rfl,aw ?_⟩⟩
   ·simp
    omega
   ·simp [aF,sz]
    omega
  ·have e0:((dQ m.words i).map aF).flatMap (fun d=>((List.range m.words).map fun (k:Nat)=>D.int (k:Int)).map (fun e=>match d,e with|.tup x,e=>D.tup (x++[e])|_,_=>.non))=(dQ m.words (i+1)).map aF:=by
    simp only [dQ,vq,List.flatMap_map,List.map_flatMap,List.map_map]
    congr 1
    funext s
    simp [aF,Ng]
   rw [e0]
   refine ⟨?_,rfl,rfl⟩
   have:=jz w4 (i+1) (by omega)
   have:(4:Nat)^(i+1)<=4^2:=Nat.pow_le_pow_right (by decide) (by omega)
   simp only [LX]
   exact aL (by omega)
 ·rintro Z M' ⟨rfl,a,rfl⟩
  simp [bE]
theorem tV (n:Nat){m:aX}{i:Nat}(hi:i<m.deeds.length):aq P (n+2) 16 [m.d,nD i] M=.ok (.bl true) M:=by
 refine aw (aA h.is_deed_number rfl ?_)
 simp [fS,aX.d,bL,ki h]
 omega
theorem uN (n:Nat){m:aX}{x:D}{r:List Nat}(hx:bf M x r)(hr:∀i∈r,i<m.deeds.length):aq P (n+3) 17 [m.d,x] M=.ok .non M:=by
 refine aw (aA h.need_numbers rfl ?_)
 obtain ⟨i1,i2,i3⟩:=hx.is
 simp [gW,i1,i2,i3]
 refine eO (ds:=dO 0 (r.map nD)) (fun i Z M'=>M'=M/\∃a b,Z=[some m.d,some x,a,b]) (fun _ _ _ e=>by rw [e.1,hx.seq];rfl) ⟨rfl,none,none,rfl⟩ ?_ ?_
 ·rintro i d Z M' hd ⟨rfl,a,b,rfl⟩
  rw [jw] at hd
  rw [Mr] at hd
  cases e:r[i]? with
  |none=>rw [e] at hd;cases hd
  | some x =>
    rw [e] at hd
    simp at hd
    subst hd
    refine ⟨_,rfl,?_⟩
    simp [tV h n (hr x (MJ e))]
 ·rintro Z M' ⟨rfl,a,b,rfl⟩
  simp
theorem pU (n:Nat){m:aX}{x:D}{r:List Nat}(hx:bf M x r)(hm:a9 m)(hr:bo m r):aq P (n+9) 18 [m.d,x] M=.ok .non M:=by
 have e:=uN h (n+5) (m:=m) hx hr.2
 refine aw (aA h.need_row rfl ?_)
 simp [kI,rH h n hm,e]
 rw [hx.len]
 have:=hr.1
 simp
 omega
theorem kQ (h47:P 47=some ⟨2,2,eJ⟩)(n:Nat){m:aX}{x:D}{r:List Nat}(hx:bf M x r)(hl:r.length<=100000)(hr:∀i∈r,i<m.deeds.length):aq P (n+1) 47 [m.d,x] M=.ok (nD (vE m r)) M:=by
 refine aw (aA h47 rfl ?_)
 simp [eJ,hx.is]
 refine ij (ds:=r.map nD) (fun d=>match d with|.int i=>nD (eL m i.toNat).cost|_=>.non) (aL (by simp;omega)) hx.seq ?_ ?_
 ·intro d hd
  obtain ⟨x,hx,rfl⟩:=Mz.mp hd
  refine ⟨_,rfl,aw ?_⟩
  simp [-gV,xG,nr (hr x hx),qr]
 ·obtain ⟨bs,e1,e2⟩:=sE (fun i=>(eL m i).cost) r
  refine ⟨?_,bs,?_,?_,rfl⟩
  ·simp
   exact aL (by omega)
  ·simpa [Ng] using e1
  ·exact e2
end
section
variable {P:Nat->Option Df}(h:HasM P){M:Mem}
include h
theorem wI (n:Nat){m:aX}{a c:Nat}{t s:List Nat}(hd:bX m.words m.places (.turn a t c))(hs:fT m s):aq P (n+1) 20 [(aY.turn a t c).d,aF s] M=.ok (nD (dD (.turn a t c) s)) M:=by
 obtain ⟨h1,h2,h3⟩:=hd
 have a1:a<s.length:=by rw [hs.1];exact h1
 have a2:s.getD a 0<t.length:=by rw [h2.1];exact hs.2 _ (getD_mem a1)
 refine aw (aA h.turned rfl ?_)
 simp [-gV,-List.getD_eq_getElem?_getD,nz,aY.d,eV,gD a1,gD a2,dD]
theorem wR (n:Nat){m:aX}{a o c:Nat}{t:List (List Nat)}{s:List Nat}(hd:bX m.words m.places (.join a o t c))(hs:fT m s):aq P (n+1) 21 [(aY.join a o t c).d,aF s] M=.ok (nD (dD (.join a o t c) s)) M:=by
 obtain ⟨h1,h2,h3,h4⟩:=hd
 have a1:a<s.length:=by rw [hs.1];exact h1
 have a2:o<s.length:=by rw [hs.1];exact h2
 have a3:s.getD a 0<t.length:=by rw [h3.1];exact hs.2 _ (getD_mem a1)
 have a4:s.getD o 0<(t.getD (s.getD a 0) []).length:=by rw [(h3.2 _ (getD_mem a3)).1];exact hs.2 _ (getD_mem a2)
 refine aw (aA h.joined rfl ?_)
 simp [-gV,-List.getD_eq_getElem?_getD,nE,aY.d,eV,gD a1,gD a2,xY a3,gD a4,dD]
theorem zp (n:Nat){m:aX}{a o c:Nat}{s:List Nat}(hd:bX m.words m.places (.move a o c))(hs:fT m s):aq P (n+1) 22 [(aY.move a o c).d,aF s] M=.ok (nD (dD (.move a o c) s)) M:=by
 obtain ⟨h1,h2,h3⟩:=hd
 have a2:o<s.length:=by rw [hs.1];exact h2
 refine aw (aA h.moved rfl ?_)
 simp [-gV,-List.getD_eq_getElem?_getD,pC,aY.d,eV,gD a2,dD]
theorem zo (n:Nat){a x c:Nat}{s:List Nat}:aq P (n+1) 23 [(aY.put a x c).d,aF s] M=.ok (nD (dD (.put a x c) s)) M:=by
 refine aw (aA h.put_in rfl ?_)
 simp [nA,aY.d,eV,dD]
end
theorem Kw:cv.lookup (Str.ofString "turn")=some 20:=by decide +kernel
theorem Kv:cv.lookup (Str.ofString "join")=some 21:=by decide +kernel
theorem Ku:cv.lookup (Str.ofString "move")=some 22:=by decide +kernel
theorem Kt:cv.lookup (Str.ofString "put")=some 23:=by decide +kernel
theorem E2 {s:List Nat}{M:Mem}{k:D->Mem->Prop}{a:Nat}(ha:a<=s.length):ah (fQ false (aF s) .non (.int a) M) k↔k (aF (s.take a)) M:=by
 simp only [fQ,aF,aI,cut]
 rw [if_neg (by omega)]
 simp
 rw [Nat.min_eq_left (by simpa using ha)]
theorem CZ {s:List Nat}{M:Mem}{k:D->Mem->Prop}{a:Nat}(ha:a<=s.length):ah (fQ false (aF s) (.int a) .non M) k↔k (aF (s.drop a)) M:=by
 simp only [fQ,aF,aI,cut]
 rw [if_neg (by omega)]
 simp
 rw [Nat.min_eq_left (by simpa using ha),MV (by simp)]
section
variable {P:Nat->Option Df}(h:HasM P){M:Mem}
include h
theorem CW (n:Nat){m:aX}{d:aY}{s:List Nat}(hm:a9 m)(hd:bX m.words m.places d)(hs:fT m s):aq P (n+2) 24 [d.d,aF s] M=.ok (aF (d3 d s)) M:=by
 have a0:=qX hd
 have l0:=hs.1
 have p2:=hm.p2
 have key:∀f,aq P (n+1) f [d.d,aF s] M=.ok (nD (dD d s)) M->bO d.d (.int 1) M=some (nD d.at')->(∀k:D->Mem->Prop,(∃y,bO d.d (.int 0) M=some (.str y)/\cv.lookup y=some f))->aq P (n+2) 24 [d.d,aF s] M=.ok (aF (d3 d s)) M:=fun f e1 e2 e3=>by
  obtain ⟨y,e3,e4⟩:=e3 fun _ _=>True
  refine aw (aA h.done rfl ?_)
  simp only [sY,aW,kW,G3,kC,b8,fY,d7,eE,jy,mr,jx,bp,cU,D6]
  simp [-gV,e1,e2,e3,e4,du]
  rw [E2 (by omega),e1]
  have e5:(d.at':Int)+1=((d.at'+1:Nat):Int):=by omega
  rw [e5]
  simp only [fJ,aF,yB]
  refine ⟨by decide,?_,?_⟩
  ·simp
   exact aL (by omega)
  ·rw [show D.tup (s.map nD)=aF s from rfl,CZ (by omega)]
   simp only [aF,yB]
   refine ⟨?_,?_,trivial⟩
   ·simp
    exact aL (by omega)
   ·simp [d3]
 cases d with
 |turn a t c=>exact key 20 (wI h n hd hs) rfl fun _=>⟨_,rfl,Kw⟩
 |join a o t c=>exact key 21 (wR h n hd hs) rfl fun _=>⟨_,rfl,Kv⟩
 |move a o c=>exact key 22 (zp h n hd hs) rfl fun _=>⟨_,rfl,Ku⟩
 |put a x c=>exact key 23 (zo h n) rfl fun _=>⟨_,rfl,Kt⟩
theorem tq (n:Nat){m:aX}{x:D}{r s:List Nat}(hx:bf M x r)(hm:a9 m)(hrl:r.length<=100000)(hr:∀i∈r,i<m.deeds.length)(hs:fT m s):aq P (n+3) 25 [m.d,x,aF s] M=.ok (.cell M.length) (M++[(dB m r s).map aF]):=by
 refine aw (aA h.all_standing rfl ?_)
 simp [gZ,hx.is]
 refine ⟨by decide,?_⟩
 refine eO (ds:=r.map nD) (fun i Z M'=>M'=M++[(dB m (r.take i) s).map aF]/\∃a,Z=[some m.d,some x,some (aF s),some (.cell M.length),a]) (fun _ _ _ e=>by rw [e.1];exact (hx.sub Sub.app).seq) ⟨by simp [dB],none,rfl⟩ ?_ ?_
 ·rintro i d Z M' hd ⟨rfl,a,rfl⟩
  rw [Mr] at hd
  cases e:r[i]? with
  |none=>rw [e] at hd;cases hd
  | some x =>
    rw [e] at hd
    simp at hd
    subst hd
    have hx:=hr x (MJ e)
    have hi:i<r.length:=(LJ.mp e).1
    refine ⟨_,rfl,?_⟩
    have hse:fT m (bB m (r.take i) s):=mq hm (fun j hj=>hr j (MP hj)) hs
    have hl:=m5 (m:=m) (r.take i) s
    have hl2:(r.take i).length=i:=by simp;omega
    simp [-gV,xG,nr hx,mI,CW h n hm (j7 hm hx) hse]
    refine ⟨?_,?_⟩
    ·rw [hl,hl2]
     exact NA (show i+1<=100001 by omega) (by decide)
    ·rw [MY,e]
     simp [qa]
 ·rintro Z M' ⟨rfl,a,rfl⟩
  simp
noncomputable def iu (m:aX)(r:List Nat):D:=.tup ((bE m).map fun s=>aF (bB m r s))
theorem kT (h15:P 15=some ⟨1,6,dA⟩)(h46:P 46=some ⟨2,2,gi⟩)(n:Nat){m:aX}{x:D}{r:List Nat}(hx:bf M x r)(hm:a9 m)(hrl:r.length<=100000)(hr:∀i∈r,i<m.deeds.length):aq P (n+10) 46 [m.d,x] M=.ok (iu m r) (M++(bE m).map fun s=>(dB m r s).map aF):=by
 refine aw (aA h46 rfl ?_)
 simp [gi,tW h.toHasM0 h15 n hm]
 refine ⟨rfl,?_⟩
 have bl:=nv hm
 refine comp_map (ds:=(bE m).map aF) (fun i acc M'=>acc=((bE m).take i).map (fun s=>aF (bB m r s))/\M'=M++((bE m).take i).map fun s=>(dB m r s).map aF) (aL (by simp;omega)) (fun _ _ _ _=>rfl) (by simp) ?_ ?_
 ·rintro i d acc M' hd _ ⟨rfl,eM⟩
  rw [Mr] at hd
  cases e:(bE m)[i]? with
  |none=>rw [e] at hd;cases hd
  | some s =>
    rw [e] at hd
    have hd:aF s=d:=LO hd
    subst hd
    have hs:=mB s (MJ e)
    refine ⟨_,rfl,?_⟩
    have st:=tq h (n+6) (M:=M') (by rw [eM];exact hx.sub Sub.app) hm hrl hr hs
    simp [st,mI]
    rw [eM,MY,MY]
    simp [e]
 ·rintro acc M' _ ⟨rfl,rfl⟩
  simp
  exact ⟨aL (by omega),by simp [iu,MV]⟩
theorem wU (h15:P 15=some ⟨1,6,dA⟩)(h46:P 46=some ⟨2,2,gi⟩)(n:Nat){m:aX}{r:List Nat}(hm:a9 m)(hr:bo m r):aq P (n+10) 46 [m.d,ay r] M=.ok (iu m r) (M++(bE m).map fun s=>(dB m r s).map aF):=kT h h15 h46 n .l hm (LR hr.1 (by decide)) hr.2
theorem pX (h15:P 15=some ⟨1,6,dA⟩)(h27:P 27=some ⟨2,2,hU⟩)(h46:P 46=some ⟨2,2,gi⟩)(n:Nat){m:aX}{x:D}{r:List Nat}(hx:bf M x r)(hm:a9 m)(hr:bo m r):aq P (n+11) 27 [m.d,x] M=.ok (iu m r) (M++(bE m).map fun s=>(dB m r s).map aF):=by
 refine aw (aA h27 rfl ?_)
 simp [hU,pU h.toHasM0 (n+1) hx hm hr,kT h h15 h46 n hx hm (LR hr.1 (by decide)) hr.2]
end
end LD
namespace LD
open PySem
@[simp] theorem su {j:Nat}{M:Mem}{k:D->Mem->Prop}:ah (dj .len [.cell j] M) k↔∃ds,M[j]?=some ds/\k (.int ds.length) M:=by
 show ah (match M[j]? with|some xs=>_|none=>_) k↔_
 cases M[j]?<;>simp
structure aS (M:Mem) (p B:Nat):Prop where
 ex:∃(c:Nat) (cells:List Int) (at_ st:Int),M[p]?=some [.cell c,.int at_,.int st]/\M[c]?=some (cells.map D.int)/\c<p/\0<=at_/\at_<=B/\0<=st
structure bg (p:Nat) (M M':Mem):Prop where
 len:M.length<=M'.length
 at':∀k,k<M.length->k≠p->M'[k]?=M[k]?
theorem bg.refl {p:Nat}{M:Mem}:bg p M M:=⟨LP _,fun _ _ _=>rfl⟩
theorem bg.trans {p:Nat}{M M1 M2:Mem}(a:bg p M M1)(b:bg p M1 M2):bg p M M2:=⟨LR a.len b.len,fun k hk n=>(b.at' k (L5 hk a.len) n).trans (a.at' k hk n)⟩
theorem bg.set {p:Nat}{M:Mem}{ds:List D}:bg p M (M.set p ds):=⟨by simp,fun k _ n=>LS (MR n)⟩
theorem bg.app {p:Nat}{M X:Mem}:bg p M (M++X):=⟨by simp,fun k hk _=>Ma hk⟩
theorem bg.get {p k:Nat}{M M':Mem}{ds:List D}(h:bg p M M')(e:M[k]?=some ds)(n:k≠p):M'[k]?=some ds:=by rw [h.at' k (LJ.mp e).1 n];exact e
theorem aS.lt {M:Mem}{p B:Nat}(h:aS M p B):p<M.length:=by obtain ⟨_,_,_,_,e,_⟩:=h.ex;exact (LJ.mp e).1
theorem aS.app {M X:Mem}{p B:Nat}(h:aS M p B):aS (M++X) p B:=by
 obtain ⟨c,cells,a,st,e1,e2,r⟩:=h.ex
 exact ⟨c,cells,a,st,by rw [Ma (LJ.mp e1).1];exact e1,by rw [Ma (LJ.mp e2).1];exact e2,r⟩
theorem aS.mono {M:Mem}{p B B':Nat}(h:aS M p B)(hb:B<=B'):aS M p B':=by
 obtain ⟨c,cells,a,st,e1,e2,e3,e4,e5,e6⟩:=h.ex
 exact ⟨c,cells,a,st,e1,e2,e3,e4,by omega,e6⟩
theorem aS.setq {M:Mem}{p q B:Nat}{ds:List D}(h:aS M p B)(hq:p<q):aS (M.set q ds) p B:=by
 obtain ⟨c,cells,a,st,e1,e2,e3,e4,e5,e6⟩:=h.ex
 exact ⟨c,cells,a,st,by rw [LS (by omega)];exact e1,by rw [LS (by omega)];exact e2,e3,e4,e5,e6⟩
theorem bg.setq {p q:Nat}{M M':Mem}{ds:List D}(h:bg p M M')(hq:M.length<=q):bg p M (M'.set q ds):=⟨by simpa using h.len,fun k hk n=>by rw [LS (by omega)];exact h.at' k hk n⟩
theorem xE {a b A B:Int}(h1:0<=a)(h2:a<=A)(h3:0<=b)(h4:b<=B):0<=a*b/\a*b<=A*B:=
 ⟨Int.mul_nonneg h1 h3,Int.mul_le_mul h2 h4 h3 (Int.le_trans h1 h2)⟩
noncomputable def jP:List Int:=[2147483629,2147483587,2147483579,2147483563,2147483549,2147483543,2147483497,2147483489,2147483477,2147483423,2147483399,2147483353,2147483323]
noncomputable def fj:List D:=jP.map D.int
theorem xb:∀q∈jP,0<q/\q<2147483648:=by decide
theorem m9 (j:Int)(M:Mem):∃q:Int,bO (.lst fj) (.int (j % 13)) M=some (.int q)/\0<q/\q<2147483648:=by
 have h1:0<=j % 13:=Nh _ (by decide)
 have h2:j % 13<13:=M9 _ (by decide)
 generalize j % 13=i at h1 h2
 obtain ⟨k,rfl⟩:=Int.eq_ofNat_of_zero_le h1
 have hk:k<jP.length:=Int.ofNat_lt.mp h2
 refine ⟨jP[k],?_,xb _ (Nv hk)⟩
 show (bL fj.length (k:Int)).bind (fun j=>fj[j]?)=_
 rw [eX (n:=fj.length) hk]
 show (jP.map D.int)[k]?=_
 rw [Mr,Mb hk];rfl
section
variable {P:Nat->Option Df}(h:HasP0 P){M:Mem}
include h
omit h in
theorem fc {m:Bool}{a b:GE}{Z:Env}{x y:Int}(ha:a Z M=.ok (.int x) M)(hb:b Z M=.ok (.int y) M):az m .add a b Z M=.ok (.int (x+y)) M:=by
 unfold az;rw [ha];show (b Z M).bind _=_;rw [hb];rfl
omit h in
theorem nj {m:Bool}{a b:GE}{Z:Env}{x y:Int}(ha:a Z M=.ok (.int x) M)(hb:b Z M=.ok (.int y) M)(c:(-(2^64)<x/\x<2^64)\/(-(2^64)<y/\y<2^64)):az m .mul a b Z M=.ok (.int (x*y)) M:=by
 unfold az;rw [ha];show (b Z M).bind _=_;rw [hb];exact if_pos c
omit h in
theorem jb {m:Bool}{a b:GE}{Z:Env}{x y:Int}(ha:a Z M=.ok (.int x) M)(hb:b Z M=.ok (.int y) M)(c:0<y):az m .mod a b Z M=.ok (.int (x % y)) M:=by
 unfold az;rw [ha];show (b Z M).bind _=_;rw [hb];exact if_pos c
omit h in
theorem zO {m:Bool}{a b:GE}{Z:Env}{x y:Int}(ha:a Z M=.ok (.int x) M)(hb:b Z M=.ok (.int y) M)(c:0<=y/\y<=1000000)(d:x.natAbs<2^64):az m .pow a b Z M=.ok (.int (x^y.toNat)) M:=by
 unfold az;rw [ha];show (b Z M).bind _=_;rw [hb];exact if_pos ⟨c.1,c.2,d⟩
omit h in
theorem ng {a:GE}{Z:Env}{i:Nat}{x q:Int}(hi:Z[i]?.getD none=some (.lst fj))(ha:a Z M=.ok (.int x) M)(e:bO (.lst fj) (.int (x % 13)) M=some (.int q)):aH (aa i) (az false .mod a (gI 13)) Z M=.ok (.int q) M:=by
 unfold aH;rw [aj hi];show (az false .mod a _ Z M).bind _=_;rw [jb ha rfl (by decide)];show bV M _=_;rw [e];rfl
theorem wK (n:Nat){x a:Int}(h0:0<=a)(h1:a<=1000000):ah (aq P (n+1) 28 [.int x,.int a] M) fun d M'=>M'=M/\∃v:Int,d=.int v/\0<=v:=by
 refine aA h.law_spread rfl ?_
 show ah (fL (aq P n) [some (.int x),some (.int a),none,none,none,none] M) _
 unfold fL
 refine bZ (b:=decide ((1000000000000000000:Int)<=x)) rfl (fun e=>?_) fun e=>?_
 ·exact ⟨rfl,x,rfl,Int.le_trans (by decide) (of_decide_eq_true e)⟩
 clear e
 refine cn (dG rfl) (cn (dG rfl) ?_)
 show ah (ag _ _ [some (.int x),some (.int a),some (.lst fj),none,none,none] M) _
 obtain ⟨q1,e1,p1,p2⟩:=m9 a M
 obtain ⟨q2,e2,p3,_⟩:=m9 (a+5) M
 obtain ⟨q3,e3,p5,_⟩:=m9 (a+7) M
 have sm:∀{z c:Int},0<=z->z<=c->c<2^64->z.natAbs<2^64:=fun z0 zc c0=>by omega
 have lt:∀{z c:Int},0<=z->z<=c->c<2^64->-(2^64)<z/\z<2^64:=fun z0 zc c0=>by omega
 have r1:=Nh x (show (1000000007:Int)≠0 by decide)
 have r2:=M9 x (show (0:Int)<1000000007 by decide)
 have r3:=Nh x (show (65537:Int)≠0 by decide)
 have r4:=M9 x (show (0:Int)<65537 by decide)
 obtain ⟨m1,m2⟩:=xE r1 (Int.le_of_lt r2) (show 0<=2*a+69069 by omega) (show 2*a+69069<=2069069 by omega)
 refine cn (dG (jb (zO (fc (fc (nj (jb (aj rfl) rfl (by decide)) (fc (nj rfl (aj rfl) (.inl (by decide))) rfl) (.inl (lt r1 (Int.le_of_lt r2) (by decide)))) (nj (aj rfl) rfl (.inl (lt h0 h1 (by decide))))) rfl) rfl (by decide) (sm (c:=10000000000000000000) (by omega) (by omega) (by decide))) (ng rfl (aj rfl) e1) p1)) ?_
 generalize (x % 1000000007*(2*a+69069)+a*40503+977)^(3:Int).toNat=y1
 have b1:=Nh y1 (Int.ne_of_gt p1)
 have b2:=M9 y1 p1
 generalize y1 % q1=one at b1 b2
 show ah (ag _ _ [some (.int x),some (.int a),some (.lst fj),some (.int one),none,none] M) _
 have b3:one<=2147483648:=Int.le_of_lt (Int.lt_trans b2 p2)
 obtain ⟨m3,m4⟩:=xE b1 b3 (show 0<=a+3 by omega) (show a+3<=1000003 by omega)
 refine cn (dG (jb (zO (fc (fc (nj (aj rfl) (fc (aj rfl) rfl) (.inl (lt b1 b3 (by decide)))) (jb (aj rfl) rfl (by decide))) rfl) rfl (by decide) (sm (c:=10000000000000000000) (by omega) (by omega) (by decide))) (ng rfl (fc (aj rfl) rfl) e2) p3)) ?_
 generalize (one*(a+3)+x % 65537+5)^(5:Int).toNat=y2
 have c1:=Nh y2 (Int.ne_of_gt p3)
 have c2:=M9 y2 p3
 generalize y2 % q2=two at c1 c2
 show ah (ag _ _ [some (.int x),some (.int a),some (.lst fj),some (.int one),some (.int two),none] M) _
 have r5:=Nh one (show (1009:Int)≠0 by decide)
 have r6:=M9 one (show (0:Int)<1009 by decide)
 refine cn (dG (jb (zO (fc (fc (aj rfl) (jb (aj rfl) rfl (by decide))) (aj rfl)) rfl (by decide) (sm (c:=10000000000) (by omega) (by omega) (by decide))) (ng rfl (fc (aj rfl) rfl) e3) p5)) ?_
 generalize (two+one % 1009+a)^(3:Int).toNat=y3
 have d1:=Nh y3 (Int.ne_of_gt p5)
 refine dq (fc (nj (fc (nj (aj rfl) rfl (.inr (by decide))) (aj rfl)) rfl (.inr (by decide))) (aj rfl)) ⟨rfl,_,rfl,?_⟩
 exact Int.add_nonneg (Int.mul_nonneg (Int.add_nonneg (Int.mul_nonneg b1 (by decide)) c1) (by decide)) d1
omit h in
theorem KQ:bL 3 2=some 2:=rfl
omit h in
theorem pe {l:List Int}{i:Int}(h0:0<=i)(h1:i<l.length):∃x,((bL l.length i).bind fun j=>Option.map D.int l[j]?)=some (.int x):=by
 obtain ⟨k,rfl⟩:=Int.eq_ofNat_of_zero_le h0
 have hk:k<l.length:=by omega
 refine ⟨l[k],?_⟩
 rw [eX hk]
 simp [hk]
noncomputable def j8:GS:=ag (aJ (.one 4) (az false .mod (aH (aa 0) (gI 2)) (aa 1))) (ag (ef (aa 0) (gI 2) (az false .fdiv (aH (aa 0) (gI 2)) (aa 1))) (ag (aP (aa 4)) ak))
noncomputable def tM (c:Call):GS:=ag (ef (aa 0) (gI 1) (az false .add (aa 2) (gI 1))) (ag (ef (aa 0) (gI 2) (av 28 c (ae (aa 3) (ae (aa 2) ai)))) ak)
omit h in
theorem IM {m:Bool}{a b:GE}{Z:Env}{x y:Int}(ha:a Z M=.ok (.int x) M)(hb:b Z M=.ok (.int y) M)(c:0<y/\y<1073741824):az m .fdiv a b Z M=.ok (.int (x / y)) M:=by
 unfold az;rw [ha];show (b Z M).bind _=_;rw [hb];exact if_pos c
omit h in
theorem c7 {a b:GE}{Z:Env}{x y d:D}(ha:a Z M=.ok x M)(hb:b Z M=.ok y M)(e:bO x y M=some d):aH a b Z M=.ok d M:=by
 unfold aH;rw [ha];show (b Z M).bind _=_;rw [hb];show bV M _=_;rw [e];rfl
omit h in
theorem GN {p:Nat}{c0 c1 c2:D}(e:M[p]?=some [c0,c1,c2]):bO (.cell p) (.int 0) M=some c0/\bO (.cell p) (.int 1) M=some c1/\bO (.cell p) (.int 2) M=some c2:=by
 refine ⟨?_,?_,?_⟩<;>(show (M[p]?).bind _=_;rw [e];rfl)
omit h in
theorem rQ {a b d:GE}{rest:GS}{Z:Env}{p i:Nat}{n:Int}{z:D}{ds:List D}{M':Mem}{kf:Fl->Mem->Prop}(hd:d Z M=.ok z M')(ha:a Z M'=.ok (.cell p) M')(hb:b Z M'=.ok (.int n) M')(e:M'[p]?=some ds)(hi:bL ds.length n=some i)(h:ah (rest Z (M'.set p (ds.set i z))) kf):ah (ag (ef a b d) rest Z M) kf:=by
 simp only [aW]
 unfold ef
 rw [hd];show ah ((a Z M').bind _) _;rw [ha];show ah ((b Z M').bind _) _;rw [hb]
 show ah (match M'[p]? with|some ds=>(match bL ds.length n with|some j=>Res.ok (Fl.next Z) (M'.set p (ds.set j z))|none=>.bad)|none=>.bad) _
 rw [e]
 show ah (match bL ds.length n with|some j=>Res.ok (Fl.next Z) (M'.set p (ds.set j z))|none=>.bad) _
 rw [hi];exact h
omit h in
theorem GP {t:GT}{A B rest:GS}{Z:Env}{b:Bool}{kf:Fl->Mem->Prop}(ht:t Z M=.ok b M)(h1:b=true->ah (A Z M) (g7 rest kf))(h2:b=false->ah (B Z M) (g7 rest kf)):ah (ag (aT t A B) rest Z M) kf:=by
 simp only [aW,jM]
 rw [ht]
 cases b with
 |true=>exact h1 rfl
 |false=>exact h2 rfl
omit h in
theorem pQ {M M1:Mem}{p c many B:Nat}{cells:List Int}{a st:Int}{x y:Option D}(e1:M1[p]?=some [.cell c,.int a,.int st])(e2:M1[c]?=some (cells.map D.int))(lt:c<p)(a0:0<=a)(aB:a<=(B+1:Nat))(s0:0<=st)(k:bg p M M1)
 (h0:0<many) (h1:many<=10000000):ah (j8 [some (.cell p),some (nD many),x,y,none] M1) (lD fun d M'=>∃v:Nat,d=nD v/\v<many/\aS M' p (B+1)/\bg p M M'):=by
 have hp:p<M1.length:=(LJ.mp e1).1
 have b0:(0:Int)<(many:Int):=Int.ofNat_lt.mpr h0
 have r1:=Nh st (Int.ne_of_gt b0)
 have r2:=M9 st b0
 unfold j8
 refine cn (dG (jb (c7 (aj rfl) rfl (GN e1).2.2) (aj rfl) b0)) (rQ (IM (c7 (aj rfl) rfl (GN e1).2.2) (aj rfl) ⟨b0,by omega⟩) (aj rfl) rfl e1 (i:=2) rfl (dq (aj rfl) ?_))
 obtain ⟨v,hv⟩:=Int.eq_ofNat_of_zero_le r1
 refine ⟨v,congrArg D.int hv,by omega,⟨c,cells,a,st / many,Md hp,?_,lt,a0,aB,Int.ediv_nonneg s0 (Int.le_of_lt b0)⟩,k.trans bg.set⟩
 rw [LS (MU lt)];exact e2
theorem tQ (n:Nat){p B many:Nat}(hp:aS M p B)(hB:B<=1000000)(h0:0<many)(h1:many<=10000000):ah (aq P (n+2) 31 [.cell p,nD many] M) fun d M'=>∃v:Nat,d=nD v/\v<many/\aS M' p (B+1)/\bg p M M':=by
 obtain ⟨c,cells,a,st,e1,e2,lt,a0,aB,s0⟩:=hp.ex
 have hpl:p<M.length:=(LJ.mp e1).1
 obtain ⟨i0,i1,i2⟩:=GN e1
 refine aA h.law_take rfl ?_
 show ah (ag (aT _ (ag _ (ag _ (ag _ (tM (aq P (n+1)))))) _) j8 [some (.cell p),some (nD many),none,none,none] M) _
 have mid:∀(x:Int),ah (tM (aq P (n+1)) [some (.cell p),some (nD many),some (.int a),some (.int x),none] M) (g7 j8 (lD fun d M'=>∃v:Nat,d=nD v/\v<many/\aS M' p (B+1)/\bg p M M')):=by
  intro x
  refine rQ (fc (aj rfl) rfl) (aj rfl) rfl e1 (i:=1) rfl ?_
  obtain ⟨_,_,es,rfl,v,rfl,v0⟩:=iE.mp (wK h n (M:=M.set p [.cell c,.int (a+1),.int st]) (x:=x) (a:=a) a0 (by omega))
  refine rQ ((bD (au (aj rfl) (au (aj rfl) rfl))).trans es) (aj rfl) rfl (Md hpl) (i:=2) rfl ?_
  have ne:=MU lt
  exact pQ (c:=c) (cells:=cells) (a:=a+1) (st:=v) (Md (by rw [List.length_set];exact hpl)) (by rw [LS ne,LS ne];exact e2) lt (by omega) (by omega) v0 (bg.set.trans bg.set) h0 h1
 have len:aV .len (ae (aH (aa 0) (gI 0)) ai) [some (.cell p),some (nD many),some (.int a),some (.int 0),none] M=.ok (.int (cells.length:Nat)) M:=by
  refine aw ?_
  simp only [fq]
  rw [au (c7 (aj rfl) rfl i0) rfl,fJ]
  exact su.mpr ⟨_,e2,by rw [LX],rfl⟩
 refine bZ (b:=decide (st<(many:Int))) (bK (aw ?_)) (fun c1=>?_) fun c1=>?_
 ·simp only [ow]
  rw [c7 (aj rfl) rfl i2,fJ,aj (x:=nD many) rfl,fJ]
  exact ⟨_,rfl,rfl,rfl⟩
 ·refine cn (dG (c7 (aj rfl) rfl i1)) (cn (dG rfl) ?_)
  show ah (ag _ _ [some (.cell p),some (nD many),some (.int a),some (.int 0),none] M) _
  have ixx:∀{i:Int}{x:D},((bL cells.length i).bind fun j=>Option.map D.int cells[j]?)=some x->bO (.cell c) (.int i) M=some x:=fun {i x} ex=>by
   show (M[c]?).bind _=_
   rw [e2]
   show ((bL (cells.map D.int).length i).bind fun j=>(cells.map D.int)[j]?)=_
   simp only [LX,Mr];exact ex
  refine GP (b:=decide (a<(cells.length:Int))) (bK (aw ?_)) (fun c2=>?_) fun _=>?_
  ·simp only [ow]
   rw [aj (x:=.int a) rfl,fJ,len,fJ];exact ⟨_,rfl,rfl,rfl⟩
  ·obtain ⟨x,ex⟩:=pe a0 (of_decide_eq_true c2)
   exact cn (dG (c7 (c7 (aj rfl) rfl i0) (aj rfl) (ixx ex))) (mid x)
  ·refine bZ (b:=decide ((0:Int)<(cells.length:Int))) (bK (aw ?_)) (fun c3=>?_) fun _=>mid 0
   ·simp only [ow,fY]
    rw [len,fJ];exact ⟨_,rfl,rfl,rfl⟩
   ·have c4:=of_decide_eq_true c3
    obtain ⟨x,ex⟩:=pe (Nh (a*5+3) (Int.ne_of_gt c4)) (M9 _ c4)
    exact cn (dG (jb (c7 (c7 (aj rfl) rfl i0) (jb (fc (nj (aj rfl) rfl (.inr (by decide))) rfl) len c4) (ixx ex)) (fc (x:=100000000000000000) rfl (aj rfl)) (Int.lt_of_lt_of_le (by decide) (Int.le_add_of_nonneg_right a0)))) (mid _)
 ·exact pQ e1 e2 lt a0 (by omega) s0 .refl h0 h1
end
end LD
namespace LD
open PySem
noncomputable def aY.withC:aY->Nat->aY
 |.turn a t _,c=>.turn a t c
 |.join a o t _,c=>.join a o t c
 |.move a o _,c=>.move a o c
 |.put a x _,c=>.put a x c
theorem yF {w p c:Nat}{d:aY}(h:bX w p d)(hc:fg c):bX w p (d.withC c):=by
 cases d with
 |turn=>exact ⟨h.1,h.2.1,hc⟩
 |join=>exact ⟨h.1,h.2.1,h.2.2.1,hc⟩
 |move=>exact ⟨h.1,h.2.1,hc⟩
 |put=>exact ⟨h.1,h.2.1,hc⟩
theorem Ep {w p:Nat}{d:aY}(h:bX w p d):fg d.cost:=by
 cases d with
 |turn=>exact h.2.2
 |join=>exact h.2.2.2
 |move=>exact h.2.2
 |put=>exact h.2.2
theorem AN {d:aY}{c:Nat}{M:Mem}{k:D->Mem->Prop}(hk:k (d.withC c).d M):ah (fQ false d.d .non (.int (-1)) M) fun x M=>ah (fR false .add x (.tup [nD c]) M) k:=by
 cases d<;>(simp [aY.d,fQ,aI,cut];exact ⟨by decide,hk⟩)
theorem zi (n:Nat)(d:aY):aC (n+3) d.d=true:=by
 have tp:∀(n:Nat) (l:List Nat),(l.map nD).all (aC n)=true:=fun n l=>by
  rw [L9];intro x hx;obtain ⟨i,_,rfl⟩:=Mz.mp hx;cases n<;>rfl
 cases d with
 |turn a t c=>simp [aY.d,aC,aF,nD];decide +kernel
 |join a o t c=>simp [aY.d,aC,nD,aF];decide +kernel
 |move a o c=>simp [aY.d,aC,nD];decide +kernel
 |put a x c=>simp [aY.d,aC,nD];decide +kernel
theorem ne_nil {M:Mem}{q:Nat}{ds:List aY}(e:M[q]?=some (ds.map aY.d)):bu .ne (.cell q) (.lst []) M=some (!ds.isEmpty):=by
 have hp:(ds.map aY.d).all (aC 63)=true:=by
  rw [L9];intro x hx;obtain ⟨d,_,rfl⟩:=Mz.mp hx;exact zi 60 d
 have hv:view M (.cell q)=.lst (ds.map aY.d):=by simp [view,e]
 have h1:aC 64 (.lst (ds.map aY.d))=true:=hp
 refine jY (by rw [hv];exact h1) rfl ?_
 rw [hv]
 cases ds<;>rfl
@[simp] theorem Gp {m:Bool}{x:List D}{j:Int}{M:Mem}{k:D->Mem->Prop}:ah (fR m .mul (.tup x) (.int j) M) k↔(x.length*j.toNat<=sz/\-(2^63)<=j/\j<2^63)/\k (.tup (List.replicate j.toNat x).flatten) M:=jS
@[simp] theorem Gq {m:Bool}{x:List D}{j:Int}{M:Mem}{k:D->Mem->Prop}:ah (fR m .mul (.lst x) (.int j) M) k↔(x.length*j.toNat<=sz/\-(2^63)<=j/\j<2^63)/\ah (ba m (List.replicate j.toNat x).flatten M) k:=jS
theorem rK {xs:List D}{a:Nat}{M:Mem}{k:D->Mem->Prop}:ah (fQ false (.lst xs) .non (.int a) M) k↔(xs.take a).length<=sz/\k (.lst (xs.take a)) M:=by
 have e:cut xs 0 (min a xs.length)=xs.take a:=by
  unfold cut
  rcases Nat.le_total a xs.length with h|h
  ·rw [Nat.min_eq_left h];simp
  ·rw [Nat.min_eq_right h];simp [MV h]
 show ah (match aI xs.length 0 D.non,aI xs.length xs.length (.int a) with|some l,some h=>ba false (cut xs l h) M|_,_=>.bad) k↔_
 have e2:aI xs.length xs.length (.int a)=some (min a xs.length):=by
  show some _=_
  rw [if_neg (by omega)];simp
 rw [e2]
 show ah (ba false (cut xs 0 (min a xs.length)) M) k↔_
 rw [e,cL]
theorem zz {xs:List D}{a:Nat}{M:Mem}{k:D->Mem->Prop}:ah (fQ false (.lst xs) (.int a) .non M) k↔(xs.drop a).length<=sz/\k (.lst (xs.drop a)) M:=by
 have e:cut xs (min a xs.length) xs.length=xs.drop a:=by
  unfold cut
  rcases Nat.le_total a xs.length with h|h
  ·rw [Nat.min_eq_left h,MV (by simp)]
  ·rw [Nat.min_eq_right h];simp [List.drop_eq_nil_of_le h]
 show ah (match aI xs.length 0 (.int a),aI xs.length xs.length D.non with|some l,some h=>ba false (cut xs l h) M|_,_=>.bad) k↔_
 have e2:aI xs.length 0 (.int a)=some (min a xs.length):=by
  show some _=_
  rw [if_neg (by omega)];simp
 rw [e2]
 show ah (ba false (cut xs (min a xs.length) xs.length) M) k↔_
 rw [e,cL]
theorem sP {w:Nat}{ge:GE}{Z:Env}{M:Mem}{kl:List D->Mem->Prop}(f:Nat->Nat)(hw:w<=100)(hf:∀k,k<w->ge (some (.int (k:Int))::Z) M=.ok (nD (f k)) M)(hk:kl (((List.range w).map f).map nD) M) :
 ah (dg (di (.one 0) (bU ge) (none::Z)) (fun _=>some ((List.range w).map fun (k:Nat)=>D.int (k:Int))) [] M) kl:=by
 refine ij (ds:=(List.range w).map fun (k:Nat)=>D.int (k:Int)) (fun d=>match d with|.int i=>nD (f i.toNat)|_=>.non) (aL (by simp;omega)) rfl (fun d hd=>?_) ?_
 ·obtain ⟨k,hk,rfl⟩:=Mz.mp hd
  exact ⟨_,rfl,hf k (List.mem_range.mp hk)⟩
 ·simpa [Ng] using hk
theorem tO {w:Nat}{f:Nat->Nat}(hf:∀k,k<w->f k<w):iV w ((List.range w).map f):=⟨by simp,fun x hx=>by
 obtain ⟨k,hk,rfl⟩:=Mz.mp hx
 exact hf k (List.mem_range.mp hk)⟩
section
variable {P:Nat->Option Df}(h:HasP0 P){M:Mem}
include h
theorem CY (n:Nat){p B:Nat}(hp:aS M p B):ah (aq P (n+1) 30 [.cell p] M) fun d M'=>d=.cell p/\aS M' p B/\bg p M M':=by
 obtain ⟨c,cells,a,st,e1,e2,lt,a0,aB,s0⟩:=hp.ex
 have ne:c≠p:=MA lt
 have hpl:p<M.length:=(LJ.mp e1).1
 refine aA h.law_anew rfl ?_
 simp [jJ,e1,KQ]
 refine ⟨⟨c,cells,a,0,by simp [hpl],?_,lt,a0,aB,by omega⟩,bg.set⟩
 rw [LS (MR ne)];exact e2
theorem tk (n:Nat){p B many:Nat}{k:D->Mem->Prop}(hp:aS M p B)(hB:B<=1000000)(h0:0<many)(h1:many<=10000000)(hk:∀(v:Nat) (M':Mem),v<many->aS M' p (B+1)->bg p M M'->k (nD v) M'):ah (aq P (n+2) 31 [.cell p,nD many] M) k:=
 aQ (tQ h n hp hB h0 h1) fun d M' ⟨v,e,hv,hp',hk'⟩=>by subst e;exact hk v M' hv hp' hk'
end
theorem bd {B c k m:Nat}(h:B<=c)(e:c+k<=m):B+k<=m:=LR (Nat.add_le_add_right h k) e
theorem vh {B k m:Nat}(e:k<=m):B+k<=B+m:=Nat.add_le_add_left e B
theorem IG {xs:List D}{v:Nat}{M:Mem}(h:v<xs.length):bO (.lst xs) (nD v) M=some xs[v]:=by
 show (bL xs.length (v:Int)).bind (fun j=>xs[j]?)=_
 rw [eX h]
 simp [h]
theorem vf {Z:Env}{M:Mem}{j v c:Nat}(h:Z[j]?.getD none=some (nD v)):(aE (aR .lt (aa j) (gC (.int (c:Int)))):GT) Z M=.ok (decide (v<c)) M:=by
 refine lG ?_
 simp only [ka,ow,b8,fY]
 refine ⟨_,h,_,rfl,_,rfl,?_,trivial⟩
 simp
theorem fo {Z:Env}{M:Mem}{j v c:Nat}(h:Z[j]?.getD none=some (nD v)):(aE (aR .eq (aa j) (gC (.int (c:Int)))):GT) Z M=.ok ((v:Int)==(c:Int)) M:=by
 refine lG ?_
 simp only [ka,ow,b8,fY]
 exact ⟨_,h,_,rfl,_,rfl,rfl,trivial⟩
section
variable {Z:Env}{M:Mem}{g a:GE}{rest:GS}{kf:Fl->Mem->Prop}
section
variable {P:Nat->Option Df}(hp_:HasP0 P)(n:Nat){i j p B many:Nat}(hj:Z[j]?.getD none=some (.cell p))(hg:g Z M=.ok (nD many) M)(hp:aS M p B)(hB:B<=1000000)(h0:0<many)(h1:many<=10000000)
include hp_ hj hg hp hB h0 h1
theorem eZ:ah (av 31 (aq P (n+2)) (ae (aa j) (ae g ai)) Z M) fun d M'=>∃v:Nat,d=nD v/\v<many/\aS M' p (B+1)/\bg p M M':=by
 rw [bD (au (aj hj) (au hg rfl))]
 exact tQ hp_ n hp hB h0 h1
theorem eW (hk:∀(v:Nat) (M':Mem),v<many->aS M' p (B+1)->bg p M M'->ah (rest (Z.set i (some (nD v))) M') kf):ah (ag (aJ (.one i) (av 31 (aq P (n+2)) (ae (aa j) (ae g ai)))) rest Z M) kf:=by
 refine bY (eZ hp_ n hj hg hp hB h0 h1) ?_
 rintro x M' ⟨v,rfl,a,b,c⟩
 exact hk v M' a b c
end
end
section
variable {Z:Env}{M:Mem}{k:D->Mem->Prop}
theorem bI {e:GE}{K:Fl->Mem->Prop}(h:ah (e Z M) fun x M=>K (.ret x) M):ah (ag (aP e) ak Z M) K:=by
 simp only [aW,eE]
 exact h
theorem xF {e:GE}{j v w:Nat}(he:e Z M=.ok (nD v) M)(hj:Z[j]?.getD none=some (nD w))(hw:0<w):az false .mod e (aa j) Z M=.ok (nD (v % w)) M:=by
 unfold az
 rw [he]
 show (aa j Z M).bind _=_
 rw [aj hj]
 show (if (0:Int)<(w:Int) then Res.ok (D.int ((v:Int) % (w:Int))) M else .bad)=_
 rw [if_pos (by omega)]
 rfl
theorem mD {e f:GE}{v w:Nat}(he:e Z M=.ok (nD v) M)(hf:f Z M=.ok (nD w) M):az false .add e f Z M=.ok (nD (v+w)) M:=by
 unfold az
 rw [he]
 show (f Z M).bind _=_
 rw [hf]
 rfl
theorem EY {e:GE}{v c:Nat}(he:e Z M=.ok (nD v) M)(hc:c<=v):az false .sub e (gC (.int (c:Int))) Z M=.ok (nD (v-c)) M:=by
 unfold az
 rw [he]
 show Res.ok (D.int ((v:Int)-(c:Int))) M=_
 rw [<- Int.ofNat_sub hc]
end
section
variable {P:Nat->Option Df}(h:HasP P){M:Mem}
include h
theorem wJ (n:Nat){p B w:Nat}(hp:aS M p B)(hB:B<=900000)(w2:2<=w)(w4:w<=4):ah (aq P (n+3) 32 [.cell p,nD w] M) fun d M'=>∃t,d=aF t/\iV w t/\aS M' p (B+7)/\bg p M M':=by
 have w0:0<w:=L5 (by decide) w2
 have wM:w<=10000000:=LR w4 (Np rfl)
 refine aA h.law_tab rfl ?_
 show ah (iQ (aq P (n+2)) [some (.cell p),some (nD w),none,none,none,none] M) _
 unfold iQ
 refine eW h n (many:=6) rfl rfl hp (LR hB (by decide)) (by decide) (by decide) fun kind M1 hk p1 k1=>?_
 refine eW h n (many:=w) rfl rfl p1 (bd (k:=1) hB (by decide)) w0 wM fun word M2 hw p2 k2=>?_
 refine eW h n (many:=w) rfl rfl p2 (bd (k:=2) hB (by decide)) w0 wM fun other M3 ho p3 k3=>?_
 have K3:=(k1.trans k2).trans k3
 have fin:∀(l:List Nat) (M':Mem),iV w l->aS M' p (B+7)->bg p M M'->(l.map nD).length<=sz/\∃t,D.tup (l.map nD)=aF t/\iV w t/\aS M' p (B+7)/\bg p M M':=fun l M' hl hp' hk'=>⟨aL (by rw [LX,hl.1];omega),l,rfl,hl,hp',hk'⟩
 have p7:aS M3 p (B+7):=p3.mono (vh (k:=3) (by decide))
 show ah (ag _ _ [some (.cell p),some (nD w),some (nD kind),some (nD word),some (nD other),none] M3) _
 refine bZ (vf (c:=2) rfl) (fun _=>?_) fun _=>?_
 ·simp only [aW,eE,fq,bp,cU,jg,ia,b8]
  refine ⟨_,rfl,_,rfl,⟨by omega,by omega⟩,?_⟩
  refine comp_map (ds:=(List.range w).map fun (k:Nat)=>D.int (k:Int)) (fun i acc M'=>∃t:List Nat,acc=t.map nD/\(∀x∈t,x<w)/\aS M' p (B+3+i)/\bg p M M') (aL (by simp;omega)) (fun _ _ _ _=>rfl) ⟨[],rfl,(fun _ hx=>nomatch hx),p3,K3⟩ ?_ ?_
  ·rintro i d acc M' hd _ ⟨t,rfl,ht,hp',hk'⟩
   have hi:i<w:=by
    have:=(LJ.mp hd).1
    simpa using this
   refine ⟨_,rfl,aQ (eZ h n (many:=w) rfl rfl hp' (by omega) w0 wM) ?_⟩
   rintro _ M4 ⟨v,rfl,hv,p4,k4⟩
   refine ⟨t++[v],by rw [MZ];rfl,fun x hx=>?_,p4,hk'.trans k4⟩
   rcases Ms.mp hx with z|z
   ·exact ht x z
   ·rw [Nn.mp z];exact hv
  ·rintro acc M' hl ⟨t,rfl,ht,hp',hk'⟩
   simp only [LX,MW] at hl hp'
   exact cL.mpr (fin t M' ⟨hl,ht⟩ (hp'.mono (by omega)) hk')
 refine bZ (fo (c:=2) rfl) (fun _=>?_) fun _=>?_
 ·simp only [aW,eE,fq,bp,cU,jg,ia,b8]
  refine ⟨_,rfl,_,rfl,⟨by omega,by omega⟩,?_⟩
  exact sP (fun k=>(k+1+word) % w) (by omega) (fun k hk=>xF (mD (mD (aj rfl) rfl) (aj rfl)) rfl w0) (cL.mpr (fin _ M3 (tO fun k _=>Nat.mod_lt _ w0) p7 K3))
 refine bZ (fo (c:=3) rfl) (fun _=>?_) fun _=>?_
 ·simp only [aW,eE,fq,bp,cU,jg,ia,b8]
  refine ⟨_,rfl,_,rfl,⟨by omega,by omega⟩,?_⟩
  refine sP (fun k=>if k=word then other else k) (by omega) (fun k hk=>?_) (cL.mpr (fin _ M3 (tO fun k hk=>by split<;>assumption) p7 K3))
  have e:(aE (aR .eq (aa 0) (aa 4)):GT) [some (.int (k:Int)),some (.cell p),some (nD w),some (nD kind),some (nD word),some (nD other),none] M3=.ok ((k:Int)==(word:Int)) M3:=rfl
  by_cases ck:k=word
  ·rw [if_pos ck]
   exact l9 (k:=true) (e.trans (by rw [ck,beq_self_eq_true])) (fun _=>rfl) (fun z=>nomatch z)
  ·rw [if_neg ck]
   exact l9 (k:=false) (e.trans (by rw [Mx.mpr (by omega)])) (fun z=>nomatch z) (fun _=>rfl)
 refine bZ (fo (c:=4) rfl) (fun _=>bI ?_) fun _=>?_
 ·simp only [jy,jx,bp,cU,b8]
  refine ⟨_,rfl,aL (n:=1) (by decide),_,rfl,Gp.mpr ⟨⟨aL (by simp;omega),by omega,by omega⟩,List.replicate w word,?_,⟨List.length_replicate,fun x hx=>by rw [List.eq_of_mem_replicate hx];exact hw⟩,p7,K3⟩⟩
  simp [aF,nD]
 ·simp only [aW,kW,D5,b8,kU,eE,fq,bp,cU,d7]
  simp
  refine ⟨by omega,aL (by omega),word,eX hw,other,eX ho,((List.range w).set word other).set other word,?_,⟨by simp,fun x hx=>?_⟩,p7.app,K3.trans bg.app⟩
  ·simp [aF,nD,List.map_set]
  ·rcases List.mem_or_eq_of_mem_set hx with z|rfl
   ·rcases List.mem_or_eq_of_mem_set z with y|rfl
    ·exact List.mem_range.mp y
    ·exact ho
   ·exact hw
theorem zv (n:Nat){p B w pl:Nat}(hp:aS M p B)(hB:B<=800000)(w2:2<=w)(w4:w<=4)(p1:1<=pl)(p2:pl<=2):ah (aq P (n+4) 33 [.cell p,nD w,nD pl] M) fun d M'=>∃e:aY,d=e.d/\bX w pl e/\aS M' p (B+40)/\bg p M M':=by
 have pM:pl<=10000000:=LR p2 (Np rfl)
 refine aA h.law_deed rfl ?_
 show ah (hV (aq P (n+3)) [some (.cell p),some (nD w),some (nD pl),none,none,none,none] M) _
 unfold hV
 refine eW h (n+1) (many:=8) rfl rfl hp (LR hB (by decide)) (by decide) (by decide) fun kind M1 hk q1 k1=>?_
 refine bY (k:=fun d M'=>∃v:Nat,d=nD (1+v)/\v<3/\aS M' p (B+2)/\bg p M1 M') ?_ ?_
 ·rw [jy]
  simp only [fY]
  refine aQ (eZ h (n+1) (many:=3) rfl rfl q1 (bd (k:=1) hB (by decide)) (by decide) (by decide)) ?_
  rintro _ M2 ⟨v,rfl,hv,q,kk⟩
  exact oE.mpr ⟨v,by show D.int (1+(v:Int))=D.int ((1+v:Nat):Int);rw [Int.natCast_add];rfl,hv,q,kk⟩
 rintro _ M2 ⟨price,rfl,hc,q2,k2⟩
 refine eW h (n+1) (many:=pl) rfl rfl q2 (bd (k:=2) hB (by decide)) p1 pM fun at_ M3 ha q3 k3=>?_
 refine eW h (n+1) (many:=pl) rfl rfl q3 (bd (k:=3) hB (by decide)) p1 pM fun other M4 ho q4 k4=>?_
 have K4:=((k1.trans k2).trans k3).trans k4
 have co:fg (1+price):=⟨by omega,by omega⟩
 have q40:aS M4 p (B+40):=q4.mono (vh (k:=4) (by decide))
 show ah (ag _ _ [some (.cell p),some (nD w),some (nD pl),some (nD kind),some (nD (1+price)),some (nD at_),some (nD other)] M4) _
 refine bZ (vf (c:=3) rfl) (fun _=>bI ?_) fun _=>?_
 ·simp only [jx,bp,cU,fY,b8,gE]
  refine ⟨_,rfl,_,rfl,_,rfl,aQ (wJ h n q4 (bd (k:=4) hB (by decide)) w2 w4) fun d M' ⟨t,e,ht,hp',hk'⟩=>⟨_,rfl,aL (n:=4) (by decide),.turn at_ t (1+price),?_,⟨ha,ht,co⟩,hp'.mono (vh (k:=11) (by decide)),K4.trans hk'⟩⟩
  subst e;rfl
 refine bZ (vf (c:=5) rfl) (fun _=>bI ?_) fun _=>?_
 ·obtain ⟨o,eo,ho'⟩:∃o:Nat,jf (aE (aR .eq (aa 3) (gI 3))) (az false .mod (az false .add (aa 5) (gI 1)) (aa 2)) (aa 6) [some (.cell p),some (nD w),some (nD pl),some (nD kind),some (nD (1+price)),some (nD at_),some (nD other)] M4=.ok (nD o) M4/\o<pl:=by
   have e:(aE (aR .eq (aa 3) (gI 3)):GT) [some (.cell p),some (nD w),some (nD pl),some (nD kind),some (nD (1+price)),some (nD at_),some (nD other)] M4=.ok ((kind:Int)==3) M4:=fo (c:=3) rfl
   cases q:(kind:Int)==3 with
   |true=>rw [q] at e;exact ⟨(at_+1) % pl,l9 e (fun _=>xF (w:=pl) (mD (v:=at_) (w:=1) (aj rfl) rfl) rfl p1) (fun z=>nomatch z),Nat.mod_lt _ p1⟩
   |false=>rw [q] at e;exact ⟨other,l9 e (fun z=>nomatch z) (fun _=>aj rfl),ho⟩
  simp only [jx,bp,cU,fY,b8]
  refine ⟨_,rfl,?_⟩
  rw [eo,fJ]
  exact ⟨_,rfl,aL (n:=4) (by decide),.move at_ o (1+price),rfl,⟨ha,ho',co⟩,q40,K4⟩
 refine bZ (fo (c:=5) rfl) (fun _=>bI ?_) fun _=>?_
 ·simp only [jx,bp,cU,fY]
  show ah (aq P (n+3) 31 [.cell p,nD w] M4) _
  refine tk h (n+1) q4 (bd (k:=4) hB (by decide)) (L5 (by decide) w2) (LR w4 (Np rfl)) fun v M5 hv q5 k5=>?_
  exact ⟨aL (n:=4) (by decide),.put at_ v (1+price),rfl,⟨ha,hv,co⟩,q5.mono (vh (k:=5) (by decide)),K4.trans k5⟩
 ·simp only [aW,eE,jx,bp,cU,fY,fq,jg,ia,b8]
  refine ⟨_,rfl,_,rfl,_,rfl,_,rfl,⟨by omega,by omega⟩,?_⟩
  refine comp_map (ds:=(List.range w).map fun (k:Nat)=>D.int (k:Int)) (fun i acc M'=>∃t:List (List Nat),acc=t.map aF/\(∀x∈t,iV w x)/\aS M' p (B+4+i*7)/\bg p M M') (aL (by simp;omega)) (fun _ _ _ _=>rfl) ⟨[],rfl,(fun _ hx=>nomatch hx),q4,K4⟩ ?_ ?_
  ·rintro i d acc M' hd _ ⟨t,rfl,ht,hp',hk'⟩
   have hi:i<w:=by
    have:=(LJ.mp hd).1
    simpa using this
   refine ⟨_,rfl,?_⟩
   rw [bD (au (aj rfl) (au (aj rfl) rfl))]
   refine aQ (wJ h n hp' (by omega) w2 w4) ?_
   rintro _ M4 ⟨v,rfl,hv,p4,k4⟩
   refine ⟨t++[v],by rw [MZ];rfl,fun x hx=>?_,p4.mono (by omega),hk'.trans k4⟩
   rcases Ms.mp hx with z|z
   ·exact ht x z
   ·rw [Nn.mp z];exact hv
  ·rintro acc M' hl ⟨t,rfl,ht,hp',hk'⟩
   simp only [LX,MW] at hl hp'
   exact cL.mpr ⟨aL (by rw [LX];omega),_,rfl,aL (n:=5) (by decide),.join at_ other t (1+price),rfl,⟨ha,ho,⟨hl,ht⟩,co⟩,hp'.mono (by omega),hk'⟩
theorem uO (n:Nat){p B W Pl mo:Nat}(hp:aS M p B)(hB:B<=700000)(W2:2<=W)(W4:W<=4)(P1:1<=Pl)(P2:Pl<=2)(m1:1<=mo)(m6:mo<=6):ah (aq P (n+5) 34 [.cell p,nD W,nD Pl,nD mo] M) fun d M'=>∃m:aX,d=m.d/\a9 m/\m.words<=W/\m.places<=Pl/\m.deeds.length<=mo/\aS M' p (B+300)/\bg p M M':=by
 refine aA h.law_machine rfl ?_
 show ah (fx (aq P (n+4)) [some (.cell p),some (nD W),some (nD Pl),some (nD mo),none,none,none,none] M) _
 unfold fx
 have plus:∀{Z:Env}{M:Mem}{g:GE}{B c many:Nat}{rest:GS}{K:Fl->Mem->Prop}{i:Nat},Z[0]?.getD none=some (.cell p)->g Z M=.ok (nD many) M->aS M p B->B<=1000000->0<many->many<=10000000->(∀(v:Nat) (M':Mem),v<many->aS M' p (B+1)->bg p M M'->ah (rest (Z.set i (some (nD (c+v)))) M') K)->ah (ag (aJ (.one i) (az false .add (gC (.int (c:Int))) (av 31 (aq P (n+4)) (ae (aa 0) (ae g ai))))) rest Z M) K:=by
  intro Z M g B c many rest K i e0 eg hp hB h0 h1 hk
  refine bY (k:=fun d M'=>∃v:Nat,d=nD (c+v)/\v<many/\aS M' p (B+1)/\bg p M M') ?_ ?_
  ·rw [jy]
   simp only [fY]
   refine aQ (eZ h (n+2) (many:=many) e0 eg hp hB h0 h1) ?_
   rintro _ M2 ⟨v,rfl,hv,q,kk⟩
   exact oE.mpr ⟨v,by show D.int ((c:Int)+(v:Int))=D.int ((c+v:Nat):Int);rw [Int.natCast_add],hv,q,kk⟩
  ·rintro _ M' ⟨v,rfl,a,b,c⟩
   exact hk v M' a b c
 refine plus (c:=2) (many:=W-1) rfl (EY (c:=1) (aj rfl) (by omega)) hp (LR hB (by decide)) (by omega) (by omega) fun w M1 hw q1 k1=>?_
 refine plus (c:=1) (many:=Pl) rfl (aj rfl) q1 (bd (k:=1) hB (by decide)) P1 (LR P2 (Np rfl)) fun pl M2 hpl q2 k2=>?_
 have pl2:p<M2.length:=q2.lt
 have K2:=k1.trans k2
 have ML:M.length<=M2.length:=K2.len
 have w2:2<=2+w:=Nt _ _
 have w4:2+w<=4:=by omega
 have l1:1<=1+pl:=Nt _ _
 have l2:1+pl<=2:=by omega
 generalize hW:2+w=w' at w2 w4
 generalize hP:1+pl=p' at l1 l2
 refine bY (k:=fun d M'=>d=.cell M2.length/\M'=M2++[[]]) ?_ ?_
 ·simp only [BZ,cU]
  exact iW.mpr ⟨NY _,rfl,rfl⟩
 rintro _ _ ⟨rfl,rfl⟩
 show ah (ag _ _ [some (.cell p),some (nD w'),some (nD p'),some (nD mo),some (.cell M2.length),none,none,none] (M2++[[]])) _
 simp only [aW,nQ,ia,jy,fY]
 refine aQ (eZ h (n+2) (many:=mo) rfl rfl q2.app (bd (k:=2) hB (by decide)) m1 (LR m6 (Np rfl))) ?_
 rintro _ M3 ⟨many,rfl,hmany,q3,k3⟩
 have e3:M3[M2.length]?=some []:=k3.get (List.getElem?_concat_length) (by omega)
 have K3:bg p M M3:=K2.trans (bg.app.trans k3)
 generalize hq:M2.length=q at *
 refine oE.mpr ⟨_,rfl,⟨by omega,by omega⟩,?_⟩
 rw [show (1+(many:Int)).toNat=1+many by omega]
 refine eO (ds:=(List.range (1+many)).map fun (k:Nat)=>D.int (k:Int)) (fun i Z M'=>∃ds:List aY,M'[q]?=some (ds.map aY.d)/\ds.length=i/\(∀d∈ds,bX w' p' d)/\aS M' p (B+3+i*45)/\bg p M M'/\∃a b c,Z=[some (.cell p),some (nD w'),some (nD p'),some (nD mo),some (.cell q),a,b,c])
  (fun _ _ _ _=>rfl) ⟨[],e3,rfl,(fun _ hd=>nomatch hd),q3,K3,none,none,none,rfl⟩ ?_ ?_
 ·rintro i d Z M' hd ⟨ds,e4,hl,hds,q4,K4,a,b,c,rfl⟩
  have hi:i<1+many:=by
   have:=(LJ.mp hd).1
   simpa using this
  have hi6:i<=5:=by omega
  have hB4:B+3+i*45<=700228:=by omega
  have hqM:M.length<=q:=ML
  have hpq:p<q:=pl2
  refine ⟨_,rfl,?_⟩
  refine eW h (n+2) (many:=5) rfl rfl q4 (LR hB4 (by decide)) (by decide) (by decide) fun again M5 ha q5 k5=>?_
  have e5:=k5.get e4 (MU hpq)
  refine bY (k:=fun d M'=>∃e:aY,d=e.d/\bX w' p' e/\aS M' p (B+3+i*45+41)/\bg p M5 M') ?_ ?_
  ·rw [bD (au (aj rfl) (au (aj rfl) (au (aj rfl) rfl)))]
   exact aQ (zv h n (w:=w') (pl:=p') q5 (bd (k:=1) hB4 (by decide)) w2 w4 l1 l2) fun d M' ⟨e,a,b,c,d⟩=>⟨e,a,b,c,d⟩
  rintro _ M6 ⟨e,rfl,he,q6,k6⟩
  have e6:=k6.get e5 (MU hpq)
  have K6:=(K4.trans k5).trans k6
  have hsm:(ds.map aY.d).length<sz:=NA (show (ds.map aY.d).length<=50 by rw [LX,hl];omega) (by decide)
  have fin:∀(e:aY) (M'':Mem) (x5 x6:Option D),bX w' p' e->M''[q]?=some (ds.map aY.d)->aS M'' p (B+3+(i+1)*45)->bg p M M''->
   ah (ag (fB (aa 4) (aa 7)) ak [some (.cell p),some (nD w'),some (nD p'),some (nD mo),some (.cell q),x5,x6,some e.d] M'') fun fl M'=>∃ρ',fl=.next ρ'/\∃ds:List aY,M'[q]?=some (ds.map aY.d)/\ds.length=i+1/\(∀d∈ds,bX w' p' d)/\aS M' p (B+3+(i+1)*45)/\bg p M M'/\∃a b c,ρ'=[some (.cell p),some (nD w'),some (nD p'),some (nD mo),some (.cell q),a,b,c]:=by
   intro e M'' x5 x6 he e7 q7 K7
   simp only [aW,Fc,b8]
   refine ⟨_,rfl,_,rfl,q,ds.map aY.d,rfl,e7,hsm,_,rfl,ds++[e],?_,by rw [ME,hl];rfl,fun d hd=>?_,q7.setq hpq,K7.setq hqM,_,_,_,rfl⟩
   ·rw [Md (LJ.mp e7).1,MZ];rfl
   ·rcases Ms.mp hd with z|z
    ·exact hds d z
    ·rw [Nn.mp z];exact he
  show ah (ag _ _ [some (.cell p),some (nD w'),some (nD p'),some (nD mo),some (.cell q),some d,some (nD again),some e.d] M6) _
  have en:(aE (aR .ne (aa 4) (bQ false ai)):GT) [some (.cell p),some (nD w'),some (nD p'),some (nD mo),some (.cell q),some d,some (nD again),some e.d] M6=.ok (!ds.isEmpty) M6:=by
   refine bK ?_
   unfold aR
   show (bV M6 (bu .ne (.cell q) (.lst []) M6)).bind _=_
   rw [ne_nil e6];rfl
  refine bZ (pE (fo (c:=0) rfl) en) (fun cc=>?_) fun _=>fin e M6 _ _ he e6 (q6.mono (by omega)) K6
  have hpos:0<ds.length:=by
   rw [LN] at cc
   cases ds with
   |nil=>exact absurd cc.2 (by decide)
   |cons _ _=>exact Nat.succ_pos _
  simp only [aW,kW,jy,mr,kC,jx,bp,cU,IT,fY]
  have el:aV .len (ae (aa 4) ai) [some (.cell p),some (nD w'),some (nD p'),some (nD mo),some (.cell q),some d,some (nD again),some e.d] M6=.ok (nD ds.length) M6:=by
   refine aw ?_
   simp only [fq,bp,cU,b8]
   exact ⟨_,rfl,su.mpr ⟨_,e6,by rw [LX],rfl⟩⟩
  show ah (av 31 (aq P (n+4)) (ae (aa 0) (ae (aV .len (ae (aa 4) ai)) ai)) [some (.cell p),some (nD w'),some (nD p'),some (nD mo),some (.cell q),some d,some (nD again),some e.d] M6) _
  refine aQ (eZ h (n+2) (many:=ds.length) rfl el q6 (bd (k:=41) hB4 (by decide)) hpos (by omega)) ?_
  rintro _ M7 ⟨v,rfl,hv,q7,k7⟩
  have e7:=k7.get e6 (MU hpq)
  refine ⟨(ds.getD v e).d,?_,1,rfl,rfl,rfl,?_⟩
  ·show (M7[q]?).bind (fun ds=>(bL ds.length (v:Int)).bind fun j=>ds[j]?)=_
   rw [e7]
   show (bL (ds.map aY.d).length (v:Int)).bind (fun j=>(ds.map aY.d)[j]?)=_
   rw [eX (by rw [LX];exact hv)]
   simp [MT,hv]
  ·refine aQ (AN (d:=ds.getD v e) (c:=e.cost) (k:=fun x M'=>ah (ag (fB (aa 4) (aa 7)) ak [some (.cell p),some (nD w'),some (nD p'),some (nD mo),some (.cell q),some d,some (nD again),some x] M') fun fl M'=>∃ρ',fl=.next ρ'/\∃ds:List aY,M'[q]?=some (ds.map aY.d)/\ds.length=i+1/\(∀d∈ds,bX w' p' d)/\aS M' p (B+3+(i+1)*45)/\bg p M M'/\∃a b c,ρ'=[some (.cell p),some (nD w'),some (nD p'),some (nD mo),some (.cell q),a,b,c]) ?_) fun x1 M3 hx=>⟨1,rfl,nD e.cost,qr,aL (n:=1) (by decide),hx⟩
   exact fin _ M7 _ _ (yF (hds _ (getD_mem hv)) (Ep he)) e7 (q7.mono (by omega)) (K6.trans k7)
 ·rintro Z M' ⟨ds,e4,hl,hds,q4,K4,a,b,c,rfl⟩
  simp only [LX,MW] at hl q4
  refine bI ?_
  simp only [jx,bp,cU,fq,b8]
  refine ⟨_,rfl,_,rfl,_,rfl,uK.mpr ⟨_,e4,aL (n:=3) (by decide),⟨w',p',ds⟩,rfl,⟨w2,w4,l1,l2,?_,?_,hds⟩,?_,?_,?_,q4.mono (by omega),K4⟩⟩
  ·show 1<=ds.length;omega
  ·show ds.length<=6;omega
  ·show w'<=W;omega
  ·show p'<=Pl;omega
  ·show ds.length<=mo;omega
omit h in
theorem um {g:GE}{Z:Env}{l:List aY}(e:g Z M=.ok (.tup (l.map aY.d)) M):aV .len (ae g ai) Z M=.ok (nD l.length) M:=by
 refine aw ?_
 simp only [fq]
 rw [au e rfl,fJ]
 exact ⟨congrArg (fun (n:Nat)=>D.int n) (LX _),rfl⟩
theorem CT (h35:P 35=some ⟨3,6,gH⟩)(n:Nat){p B mo:Nat}{m:aX}(hm:a9 m)(hp:aS M p B)(hB:B<=700000)(hmo:mo<=40):ah (aq P (n+3) 35 [.cell p,m.d,nD mo] M) fun d M'=>∃r:List Nat,d=.lst (r.map nD)/\bo m r/\r.length<=mo/\aS M' p (B+50)/\bg p M M':=by
 refine aA h35 rfl ?_
 show ah (gH (aq P (n+2)) [some (.cell p),some m.d,some (nD mo),none,none,none] M) _
 unfold gH
 refine eW h n (many:=4) rfl rfl hp (by omega) (by decide) (by decide) fun kind M1 _ q1 k1=>?_
 refine bY (k:=fun d M'=>∃v:Nat,d=nD v/\v<=mo/\aS M' p (B+2)/\bg p M M') ?_ ?_
 ·show ah (jf _ _ _ [some (.cell p),some m.d,some (nD mo),some (nD kind),none,none] M1) _
  have t0:(aE (aR .eq (aa 3) (gI 0)):GT) [some (.cell p),some m.d,some (nD mo),some (nD kind),none,none] M1=.ok ((kind:Int)==((0:Nat):Int)) M1:=fo rfl
  rw [vv,t0,fJ]
  split
  ·exact ⟨mo,rfl,LP _,q1.mono (by omega),k1⟩
  ·refine aQ (eZ h n (many:=mo+1) rfl rfl q1 (by omega) (Nat.succ_pos _) (by omega)) fun d M' ⟨v,e,hv,a,b⟩=>⟨v,e,Nat.le_of_lt_succ hv,a,k1.trans b⟩
 intro x M2 hx
 show ah (ag _ _ [some (.cell p),some m.d,some (nD mo),some (nD kind),some x,none] M2) _
 obtain ⟨many,ex,hmany,q2,k2⟩:=hx
 rw [ex];clear ex
 simp only [aW,kW,jg,ia,b8]
 have m40:many<=40:=LR hmany hmo
 refine ⟨_,rfl,_,rfl,⟨Int.le_trans (by decide) (Int.natCast_nonneg _),Int.lt_of_le_of_lt (Int.ofNat_le.mpr m40) (by decide)⟩,?_⟩
 rw [Nk]
 refine comp_map (ds:=(List.range many).map fun (k:Nat)=>D.int (k:Int)) (fun i acc M'=>∃t:List Nat,acc=t.map nD/\(∀x∈t,x<m.deeds.length)/\aS M' p (B+2+i)/\bg p M M') (aL (by rw [LX,MW];omega)) (fun _ _ _ _=>rfl) ⟨[],rfl,(fun _ z=>nomatch z),q2,k2⟩ ?_ ?_
 ·rintro i d acc M' hd _ ⟨t,rfl,ht,hp',hk'⟩
  have hi:i<many:=by
   have:=(LJ.mp hd).1
   rwa [LX,MW] at this
  refine ⟨_,rfl,?_⟩
  refine aQ (eZ h n (many:=m.deeds.length) rfl (um (c7 (aj rfl) rfl xG)) hp' (by omega) hm.d1 (by have:=hm.d6;omega)) ?_
  rintro _ M4 ⟨v,rfl,hv,p4,k4⟩
  refine ⟨t++[v],by rw [MZ];rfl,fun x hx=>?_,p4,hk'.trans k4⟩
  rcases Ms.mp hx with z|z
  ·exact ht x z
  ·rw [Nn.mp z];exact hv
 ·rintro acc M' hl ⟨t,rfl,ht,hp',hk'⟩
  rw [LX,LX,MW] at hl
  rw [LX,MW] at hp'
  have q3:=hp'.mono (show B+2+many<=B+50 by omega)
  have k3:=hk'
  have hl:t.length<=many:=Nat.le_of_eq hl
  refine cL.mpr ⟨aL (by rw [LX];omega),?_⟩
  show ah (ag _ _ [some (.cell p),some m.d,some (nD mo),some (nD kind),some (nD many),some (.lst (t.map nD))] M') _
  refine bZ (fo (v:=kind) (c:=1) rfl) (fun _=>?_) fun _=>dq (aj rfl) ⟨t,rfl,⟨by omega,ht⟩,by omega,q3,k3⟩
  refine bY (k:=fun d M4=>M4=M'/\d=.lst ((((List.replicate many (t.take 2)).flatten).take many).map nD)) ?_ ?_
  ·have l2:((t.map nD).take 2).length<=2:=by rw [Ni];exact Nat.min_le_left _ _
   simp only [mr,jy,b8,fY]
   refine ⟨_,rfl,rfl,rfl,(rK (a:=2)).mpr ⟨aL (by omega),_,rfl,Gq.mpr ⟨⟨?_,by omega,by omega⟩,cL.mpr ⟨?_,?_⟩⟩⟩⟩
   ·exact LR (Nat.mul_le_mul l2 (show many<=40 by omega)) (by decide)
   ·rw [Nk,List.length_flatten,List.map_replicate,List.sum_replicate_nat]
    exact LR (Nat.mul_le_mul (show many<=40 by omega) l2) (by decide)
   ·refine ⟨_,rfl,rfl,rfl,rK.mpr ⟨aL (by rw [Ni];exact LR (Nat.min_le_left _ _) (by omega)),rfl,?_⟩⟩
    rw [Nk,ND,List.map_flatten,List.map_replicate,ND]
  rintro _ _ ⟨rfl,rfl⟩
  have lm:(((List.replicate many (t.take 2)).flatten).take many).length<=many:=by rw [Ni];exact Nat.min_le_left _ _
  refine wZ.mpr (d7.mpr (dq (aj rfl) ⟨_,rfl,⟨by omega,fun i hi=>?_⟩,by omega,q3,k3⟩))
  obtain ⟨l,hl1,hl2⟩:=List.mem_flatten.mp (MP hi)
  rw [(List.mem_replicate.mp hl1).2] at hl2
  exact ht i (MP hl2)
end
end LD
namespace LD
open PySem
theorem C0 {xs:List D}{a b:Nat}{M:Mem}{k:D->Mem->Prop}:ah (fQ false (.frz xs) (.int a) (.int b) M) k↔(cut xs (min a xs.length) (min b xs.length)).length<=sz/\k (.lst (cut xs (min a xs.length) (min b xs.length))) M:=by
 show ah (match aI xs.length 0 (.int a),aI xs.length xs.length (.int b) with|some l,some h=>ba false (cut xs l h) M|_,_=>.bad) k↔_
 have e1:aI xs.length 0 (.int a)=some (min a xs.length):=by
  show some _=_
  rw [if_neg (by omega)];simp
 have e2:aI xs.length xs.length (.int b)=some (min b xs.length):=by
  show some _=_
  rw [if_neg (by omega)];simp
 rw [e1,e2]
 exact cL
theorem zy {xs:List D}{b:Nat}{M:Mem}{k:D->Mem->Prop}:ah (fQ false (.frz xs) .non (.int b) M) k↔(cut xs 0 (min b xs.length)).length<=sz/\k (.lst (cut xs 0 (min b xs.length))) M:=by
 show ah (match aI xs.length 0 D.non,aI xs.length xs.length (.int b) with|some l,some h=>ba false (cut xs l h) M|_,_=>.bad) k↔_
 have e2:aI xs.length xs.length (.int b)=some (min b xs.length):=by
  show some _=_
  rw [if_neg (by omega)];simp
 rw [e2]
 exact cL
theorem uB {α β:Type}(f:α->β)(l:List α)(a b:Nat):cut (l.map f) a b=(cut l a b).map f:=by simp [cut,ND,List.map_drop]
theorem pw {α:Type}(l:List α)(a b:Nat):(cut l a b).length<=l.length:=by simp [cut];omega
section
variable {P:Nat->Option Df}(h:HasP0 P){M:Mem}
include h
theorem CV (n:Nat){ns:List Int}(hn:ns.length<=63):ah (aq P (n+1) 29 [.frz (ns.map D.int)] []) fun d M'=>d=.cell 1/\aS M' 1 0:=by
 refine aA h.law_open rfl ?_
 simp [jI,du]
 refine (zy (b:=12)).mpr ⟨?_,?_⟩
 ·exact aL (LR (pw _ _ _) (by simp;omega))
 simp only [Ai,iW]
 refine ⟨aL (LR (pw _ _ _) (by simp;omega)),(C0 (a:=12) (b:=63)).mpr ⟨aL (LR (pw _ _ _) (by simp;omega)),⟨rfl,rfl⟩,?_⟩⟩
 rw [uB,uB]
 simp only [LX,List.length_nil,NB]
 have e63:min 63 ns.length=ns.length:=by omega
 rw [e63]
 refine eO (ds:=dO 0 ((cut ns (min 12 ns.length) ns.length).map D.int)) (fun i Z M'=>∃l:List Int,M'=[l.map D.int]/\l.length=min 12 ns.length/\∃a b,Z=[some (.frz (ns.map D.int)),some (.cell 0),a,b]) (fun _ _ _ _=>rfl) ⟨cut ns 0 (min 12 ns.length),rfl,by simp [cut],none,none,rfl⟩ ?_ ?_
 ·rintro i d Z M' hd ⟨l,rfl,hl,a,b,rfl⟩
  rw [jw,Mr] at hd
  cases e:(cut ns (min 12 ns.length) ns.length)[i]? with
  |none=>rw [e] at hd;cases hd
  | some x =>
    rw [e] at hd
    have hd:D.tup [.int ((0+i:Nat):Int),.int x]=d:=LO hd
    subst hd
    have hi:=(LJ.mp e).1
    have hlen:12<ns.length:=by
     by_cases c:12<ns.length
     ·exact c
     ·have:min 12 ns.length=ns.length:=by omega
      rw [this] at hi
      simp [cut] at hi
    have l12:l.length=12:=by omega
    have r1:=Nh (i:Int) (show (12:Int)≠0 by decide)
    have r2:=M9 (i:Int) (show (0:Int)<12 by decide)
    obtain ⟨y,ey⟩:=pe (l:=l) r1 (by rw [l12];exact r2)
    obtain ⟨k,ek⟩:∃k:Nat,(i:Int) % 12=(k:Int):=⟨((i:Int) % 12).toNat,by omega⟩
    refine ⟨_,rfl,?_⟩
    simp
    rw [ek] at ey ⊢
    have hk:k<l.length:=by omega
    refine ⟨_,ey,?_⟩
    simp only [oE]
    refine ⟨l.map D.int,rfl,k,?_,l.set k (y+x),?_,by simp [hl]⟩
    ·simpa using eX hk
    ·simp [List.map_set]
 ·rintro Z M' ⟨l,rfl,hl,a,b,rfl⟩
  simp
  exact ⟨by decide,⟨0,l,0,0,rfl,rfl,by decide,by decide,by decide,by decide⟩⟩
end
end LD
namespace LD
open PySem
theorem rR (n:Nat)(l:List Nat):aC (n+1) (aF l)=true:=by
 show (l.map nD).all (aC n)=true
 rw [L9];intro x hx;obtain ⟨i,_,rfl⟩:=Mz.mp hx;cases n<;>rfl
end LD
namespace LD
open PySem
structure HasB (P:Nat->Option Df):Prop where
 after:P 41=some ⟨2,4,ji⟩
 begins:P 42=some ⟨1,1,iA⟩
structure HasS0 (P:Nat->Option Df):Prop where
 same:P 40=some ⟨2,2,dm⟩
structure HasS (P:Nat->Option Df):Prop extends HasB P,HasS0 P
theorem pH:∀ds:List D,ip ds ds=ds.map fun d=>.tup [d,d]
 |[]=>rfl
 |d::r=>by simp [ip,pH r]
theorem n5 {ds:List D}{M:Mem}:bu .notin (.bl false) (.lst (ds.map fun _=>.bl true)) M=some true:=by
 show ((bH M (.lst (ds.map fun _=>.bl true))).bind (mM (view M (.bl false)))).map (!·)=_
 show (mM (.bl false) (ds.map fun _=>.bl true)).map (!·)=_
 unfold mM
 rw [if_pos]
 ·have:(ds.map fun _=>D.bl true).any (fun y=>gG y (.bl false))=false:=by
   rw [List.any_eq_false];intro x hx;obtain ⟨_,_,rfl⟩:=Mz.mp hx;exact Mf
  rw [this];rfl
 ·simp [aC]
@[simp] theorem Ah {m:Bool}{ds:List D}{M:Mem}{k:D->Mem->Prop}:ah (dj (.list m) [.tup ds] M) k↔ah (ba m ds M) k:=MS
theorem cD {x y:Str}{b:Bool}(e:oq (.str x) (.str y)=some b)(M:Mem):bu .eq (.str x) (.str y) M=some b:=by
 show kL M (.str x) (.str y)=some b
 unfold kL
 rw [show oq (view M (.str x)) (view M (.str y))=some b from e]
theorem vB {m:aX}{d:aY}{s:List Nat}(hd:bX m.words m.places d)(hs:fT m s):d3 d s=s.set d.at' (dD d s):=by
 have a0:=qX hd
 rw [List.set_eq_take_append_cons_drop,if_pos (by rw [hs.1];exact a0)]
 simp [d3]
theorem dC {D0:D}{nm w:Str}{A rest:GS}{Z:Env}{M:Mem}{k:Fl->Mem->Prop}(h0:Z[0]?=some (some D0))(e0:bO D0 (.int 0) M=some (.str nm))(c:bu .eq (.str nm) (.str w) M=some false)(h:ah (rest Z M) k):ah (ag (aT (aE (aR .eq (aH (aa 0) (gI 0)) (gC (.str w)))) A ak) rest Z M) k:=by
 simp [h0,e0,c,h]
theorem lR {D0:D}{nm w:Str}{A rest:GS}{Z:Env}{M:Mem}{k:Fl->Mem->Prop}(h0:Z[0]?=some (some D0))(e0:bO D0 (.int 0) M=some (.str nm))(c:bu .eq (.str nm) (.str w) M=some true)(h:ah (A Z M) (g7 rest k)):ah (ag (aT (aE (aR .eq (aH (aa 0) (gI 0)) (gC (.str w)))) A ak) rest Z M) k:=by
 simp [h0,e0,c,h]
noncomputable def rM (c:Call):GS:=ag (aT (aE (aR .ne (aV .len (ae (aa 0) ai)) (aV .len (ae (aa 1) ai)))) rF ak) (ag (aP (aR .notin GX (b7 false 2 (.tup [0,1]) (mf (aa 0) (aa 1)) (bU (av 40 c (ae (aa 0) (ae (aa 1) ai))))))) ak)
section
variable {P:Nat->Option Df}(h:HasS0 P){M:Mem}
include h
theorem kS (n:Nat)(i:Nat):aq P (n+1) 40 [nD i,nD i] M=.ok (.bl true) M:=by
 refine aw (aA h.same rfl ?_)
 show ah (dm (aq P n) [some (nD i),some (nD i)] M) _
 unfold dm
 exact br rfl (br rfl (jW rfl (v:=.bl ((i:Int)==(i:Int))) rfl ⟨by simp,rfl⟩))
theorem pZ (n:Nat){x y:D}{ds:List D}{Z:Env}{kl:List D->Mem->Prop}(hx:bH M x=some ds)(hy:bH M y=some ds)(hz:ds.length<=sz)(hs:∀d∈ds,aq P n 40 [d,d] M=.ok (.bl true) M)(hk:kl (ds.map fun _=>.bl true) M) :
 ah (dg (di (.tup [0,1]) (bU (av 40 (aq P n) (ae (aa 0) (ae (aa 1) ai)))) (none::none::Z)) (nK x y) [] M) kl:=by
 refine ij (ds:=ds.map fun d=>.tup [d,d]) (fun _=>.bl true) (by simpa using hz) ?_ ?_ ?_
 ·simp [nK,hx,hy,pH]
 ·intro d hd
  obtain ⟨e,he,rfl⟩:=Mz.mp hd
  refine ⟨_,rfl,?_⟩
  refine aw ?_
  simp
  rw [hs e he]
  exact ⟨rfl,rfl⟩
 ·simpa [Ng] using hk
theorem zA (n:Nat){x y:D}{ds:List D}(hx:bH M x=some ds)(hy:bH M y=some ds)(lx:dj .len [x] M=.ok (.int ds.length) M)(ly:dj .len [y] M=.ok (.int ds.length) M)(sx:cY x=true)(sy:cY y=true)(hz:ds.length<=sz)(hs:∀d∈ds,aq P n 40 [d,d] M=.ok (.bl true) M) :
 ah (rM (aq P n) [some x,some y] M) (lD fun d M'=>d=.bl true/\M'=M):=by
 simp [rM,lx,ly,sx,sy]
 exact pZ h n hx hy hz hs ⟨by simpa using hz,n5,rfl⟩
theorem pT (n:Nat){ds:List D}(hz:ds.length<=sz)(hs:∀d∈ds,aq P n 40 [d,d] M=.ok (.bl true) M):aq P (n+1) 40 [.tup ds,.tup ds] M=.ok (.bl true) M:=by
 refine aw (aA h.same rfl ?_)
 show ah (dm (aq P n) [some (.tup ds),some (.tup ds)] M) _
 unfold dm
 exact br rfl (br rfl (br rfl (br rfl (br rfl (zA h n rfl rfl rfl rfl rfl rfl hz hs)))))
theorem wL (n:Nat){x y:D}{r:List Nat}(hx:bf M x r)(hy:bf M y r)(hz:r.length<=100000):aq P (n+2) 40 [x,y] M=.ok (.bl true) M:=by
 refine aw (aA h.same rfl ?_)
 have hs:∀d∈r.map nD,aq P (n+1) 40 [d,d] M=.ok (.bl true) M:=fun d hd=>by obtain ⟨i,_,rfl⟩:=Mz.mp hd;exact kS h n i
 have e1:=hx.seq
 have e2:=hy.seq
 have lx:∀k:D->Mem->Prop,ah (dj .len [x] M) k↔k (.int r.length) M:=fun k=>hx.len
 have ly:∀k:D->Mem->Prop,ah (dj .len [y] M) k↔k (.int r.length) M:=fun k=>hy.len
 have ix:∀t,dN t x=some (t==.list):=by
  intro t;rcases hx with rfl|⟨q,rfl,_⟩<;>rfl
 have iy:∀t,dN t y=some (t==.list):=by
  intro t;rcases hy with rfl|⟨q,rfl,_⟩<;>rfl
 have sx:=hx.is.1
 have sy:=hy.is.1
 have ny:=hy.non
 have c1:bu .isN y .non M=some false:=by
  show some (jv y)=_
  rw [ny]
 simp [dm,c1,ix,iy,lx,ly,sx,sy]
 exact ⟨by rfl,by rfl,pZ h (n+1) e1 e2 (aL (by simp;omega)) hs ⟨aL (by simp;omega),n5,rfl⟩⟩
theorem mH (n:Nat){s:List Nat}(hz:s.length<=100):aq P (n+2) 40 [aF s,aF s] M=.ok (.bl true) M:=
 pT h (n+1) (aL (by simp;omega)) fun d hd=>by obtain ⟨i,_,rfl⟩:=Mz.mp hd;exact kS h n i
end
section
variable {P:Nat->Option Df}(h:HasB P){M:Mem}
include h
set_option maxHeartbeats 2000000 in
theorem iU (n:Nat){D0:D}{nm:Str}{s:List Nat}{a:Nat}{v:Nat}(ha:a<s.length)(hz:s.length<=100)(e0:∀M,bO D0 (.int 0) M=some (.str nm))(e1:∀M,bO D0 (.int 1) M=some (nD a))
 (bT bJ bM bP:Bool) (cT:∀M,bu .eq (.str nm) (.str "turn") M=some bT) (cJ:∀M,bu .eq (.str nm) (.str "join") M=some bJ) (cM:∀M,bu .eq (.str nm) (.str "move") M=some bM) (cP:∀M,bu .eq (.str nm) (.str "put") M=some bP)
 (hb:(bT=true/\bJ=false/\bM=false/\bP=false/\∀M,∃t,bO D0 (.int 2) M=some t/\bO t (nD (s.getD a 0)) M=some (nD v))
  \/(bT=false/\bJ=true/\bM=false/\bP=false/\∀M,∃t u o,bO D0 (.int 3) M=some t/\bO t (nD (s.getD a 0)) M=some u/\bO D0 (.int 2) M=some (nD o)/\o<s.length/\bO u (nD (s.getD o 0)) M=some (nD v))
  \/(bT=false/\bJ=false/\bM=true/\bP=false/\∀M,∃o,bO D0 (.int 2) M=some (nD o)/\o<s.length/\v=s.getD o 0)
  \/(bT=false/\bJ=false/\bM=false/\bP=true/\∀M,bO D0 (.int 2) M=some (nD v))) :
 aq P (n+1) 41 [D0,aF s] M=.ok (aF (s.set a v)) (M++[(s.set a v).map nD]):=by
 refine aw (aA h.after rfl ?_)
 have S:∀M i,i<s.length->bO (aF s) (nD i) M=some (nD (s.getD i 0)):=fun M i hi=>gD hi
 have T:ah (dj (.list true) [aF s] M) (fun x M'=>x=.cell M.length/\M'=M++[s.map nD]):=by
  show ah (dj (.list true) [.tup (s.map nD)] M) _
  rw [Ah,iW]
  exact ⟨aL (by simp;omega),rfl,rfl⟩
 simp only [ji,aW,kW,fq,kC,fY,bp,cU,b8,MO,List.map_nil,List.cons_append,NB,Nx,Ny,NO,Option.some.injEq,exists_eq_left',d7]
 refine aQ T fun x M' hx=>?_
 obtain ⟨rfl,rfl⟩:=hx
 have q:=S (M++[s.map nD]) a ha
 refine ⟨_,rfl,_,rfl,_,e1 _,_,q,?_⟩
 have fin:∀Z:Env,Z[2]?=some (some (.cell M.length))->ah (ag (aP (aV .tuple (ae (aa 2) ai))) ak Z ((M++[s.map nD]).set M.length ((s.map nD).set a (nD v)))) (lD fun x M'=>x=aF (s.set a v)/\M'=M++[(s.set a v).map nD]):=fun Z hρ=>by
  simp [hρ]
  simp [aF,List.map_set]
 have gl:(M++[s.map nD])[M.length]?=some (s.map nD):=by simp
 have ix:bL (s.map nD).length (a:Int)=some a:=eX (by simpa using ha)
 rcases hb with ⟨rfl,rfl,rfl,rfl,hv⟩|⟨rfl,rfl,rfl,rfl,hv⟩|⟨rfl,rfl,rfl,rfl,hv⟩|⟨rfl,rfl,rfl,rfl,hv⟩
 ·obtain ⟨t,v1,v2⟩:=hv (M++[s.map nD])
  refine aW.mp (lR rfl (e0 _) (cT _) ?_)
  simp only [aW,kU,kC,b8,fY]
  refine ⟨_,rfl,_,v1,_,rfl,_,v2,_,rfl,_,rfl,_,e1 _,_,_,_,_,rfl,rfl,gl,ix,?_⟩
  exact dC rfl (e0 _) (cJ _) (dC rfl (e0 _) (cM _) (dC rfl (e0 _) (cP _) (fin _ rfl)))
 ·obtain ⟨t,u,o,v1,v2,v3,v4,v5⟩:=hv (M++[s.map nD])
  refine aW.mp (dC rfl (e0 _) (cT _) (lR rfl (e0 _) (cJ _) ?_))
  simp only [aW,kU,kC,b8,fY]
  refine ⟨_,rfl,_,v1,_,rfl,_,v2,_,rfl,_,rfl,_,v3,_,S _ _ v4,_,v5,_,rfl,_,rfl,_,e1 _,_,_,_,_,rfl,rfl,gl,ix,?_⟩
  exact dC rfl (e0 _) (cM _) (dC rfl (e0 _) (cP _) (fin _ rfl))
 ·obtain ⟨o,v1,v2,v3⟩:=hv (M++[s.map nD])
  subst v3
  refine aW.mp (dC rfl (e0 _) (cT _) (dC rfl (e0 _) (cJ _) (lR rfl (e0 _) (cM _) ?_)))
  simp only [aW,kU,kC,b8,fY]
  refine ⟨_,rfl,_,rfl,_,v1,_,S _ _ v2,_,rfl,_,rfl,_,e1 _,_,_,_,_,rfl,rfl,gl,ix,?_⟩
  exact dC rfl (e0 _) (cP _) (fin _ rfl)
 ·have v1:=hv (M++[s.map nD])
  refine aW.mp (dC rfl (e0 _) (cT _) (dC rfl (e0 _) (cJ _) (dC rfl (e0 _) (cM _) (lR rfl (e0 _) (cP _) ?_))))
  simp only [aW,kU,kC,b8,fY]
  refine ⟨_,rfl,_,v1,_,rfl,_,rfl,_,e1 _,_,_,_,_,rfl,rfl,gl,ix,?_⟩
  exact fin [some D0,some (aF s),some (.cell M.length),some (nD (s.getD a 0))] rfl
theorem zx (n:Nat){m:aX}{d:aY}{s:List Nat}(hm:a9 m)(hd:bX m.words m.places d)(hs:fT m s):aq P (n+1) 41 [d.d,aF s] M=.ok (aF (d3 d s)) (M++[(d3 d s).map nD]):=by
 rw [vB hd hs]
 have l0:=hs.1
 have p2:=hm.p2
 have g:∀i,i<m.places->s.getD i 0<m.words:=fun i hi=>hs.2 _ (getD_mem (by omega))
 have nw:=n8 hd hs
 have a0:=qX hd
 have ha:d.at'<s.length:=by omega
 cases d with
 |turn a t c=>exact iU h n ha (by omega) (fun _=>rfl) (fun _=>rfl) true false false false (cD (by decide +kernel)) (cD (by decide +kernel)) (cD (by decide +kernel)) (cD (by decide +kernel)) (.inl ⟨rfl,rfl,rfl,rfl,fun M=>⟨aF t,rfl,gD (by rw [hd.2.1.1];exact g _ hd.1)⟩⟩)
 | join a o t c =>
   refine iU h n ha (by omega) (fun _=>rfl) (fun _=>rfl) false true false false (cD (by decide +kernel)) (cD (by decide +kernel)) (cD (by decide +kernel)) (cD (by decide +kernel)) (.inr (.inl ⟨rfl,rfl,rfl,rfl,fun M=>⟨.tup (t.map aF),aF (t.getD (s.getD a 0) []),o,rfl,xY (by rw [hd.2.2.1.1];exact g _ hd.1),rfl,by rw [l0];exact hd.2.1,gD ?_⟩⟩))
   rw [(hd.2.2.1.2 _ (getD_mem (by rw [hd.2.2.1.1];exact g _ hd.1))).1]
   exact g _ hd.2.1
 |move a o c=>exact iU h n ha (by omega) (fun _=>rfl) (fun _=>rfl) false false true false (cD (by decide +kernel)) (cD (by decide +kernel)) (cD (by decide +kernel)) (cD (by decide +kernel)) (.inr (.inr (.inl ⟨rfl,rfl,rfl,rfl,fun M=>⟨o,rfl,by rw [l0];exact hd.2.1,rfl⟩⟩)))
 |put a x c=>exact iU h n ha (by omega) (fun _=>rfl) (fun _=>rfl) false false false true (cD (by decide +kernel)) (cD (by decide +kernel)) (cD (by decide +kernel)) (cD (by decide +kernel)) (.inr (.inr (.inr ⟨rfl,rfl,rfl,rfl,fun M=>rfl⟩)))
theorem pY (n:Nat){m:aX}(hm:a9 m):aq P (n+1) 42 [m.d] M=.ok (.lst ((bE m).map aF)) M:=by
 refine aw (aA h.begins rfl ?_)
 simp [iA]
 have p1:=hm.p1
 have p2:=hm.p2
 have w2:=hm.w2
 have w4:=hm.w4
 refine ⟨_,rfl,?_⟩
 have hp:m.places=1\/m.places=2:=by omega
 have hw:m.words=2\/m.words=3\/m.words=4:=by omega
 rcases hp with ep|ep
 ·refine .inr ⟨by rw [ep];rfl,_,rfl,_,rfl,by omega,?_⟩
  refine ij (ds:=(List.range m.words).map fun (k:Nat)=>D.int (k:Int)) (fun d=>.tup [d]) (aL (by simp;omega)) (by simp) (fun d hd=>⟨_,rfl,aw (by simp;exact aL (by omega))⟩) ⟨aL (by simp;omega),?_,rfl⟩
  unfold bE
  rw [ep]
  rcases hw with e|e|e<;>rw [e]<;>rfl
 ·refine .inl ⟨by rw [ep];rfl,_,rfl,_,rfl,?_⟩
  simp
  refine ⟨by omega,?_⟩
  have ew:((m.words:Int)*(m.words:Int)).toNat=m.words*m.words:=by rw [<- Int.natCast_mul];rfl
  have hw2:m.words*m.words<=16:=Nat.mul_le_mul w4 w4
  rw [ew]
  refine ⟨⟨by rw [<- Int.natCast_mul];omega,by rw [<- Int.natCast_mul];omega⟩,?_⟩
  have key:∀k:Nat,(cp (ae (az false kO.fdiv (aa 0) (aH (aa 1) (gC (D.int 0)))) (ae (az false kO.mod (aa 0) (aH (aa 1) (gC (D.int 0)))) ai))) [some (nD k),some m.d] M=.ok (aF [k / m.words,k % m.words]) M:=by
   intro k
   refine aw ?_
   simp
   refine ⟨_,rfl,?_⟩
   simp
   refine ⟨by omega,_,rfl,?_⟩
   simp
   exact ⟨by omega,aL (by omega),rfl⟩
  refine comp_map (ds:=(List.range (m.words*m.words)).map fun (k:Nat)=>D.int (k:Int)) (fun i acc M'=>M'=M/\acc=((List.range (m.words*m.words)).take i).map fun k=>aF [k / m.words,k % m.words]) (aL (by simpa using by omega)) (fun _ _ _ _=>rfl) ⟨rfl,rfl⟩ ?_ ?_
  ·rintro i d acc M' hd _ ⟨rfl,rfl⟩
   have hi:=(LJ.mp hd).1
   simp at hi
   have:d=nD i:=by
    rw [Mr,List.getElem?_range (by omega)] at hd
    exact (LO hd).symm
   subst this
   refine ⟨_,rfl,?_⟩
   rw [show List.set [none,some m.d] 0 (some (nD i))=[some (nD i),some m.d] from rfl,key i]
   refine ⟨rfl,?_⟩
   rw [MY,List.getElem?_range (by omega)]
   simp
  ·rintro acc M' _ ⟨rfl,rfl⟩
   simp
   refine ⟨aL (by omega),?_⟩
   unfold bE
   rw [ep]
   rcases hw with e|e|e<;>rw [e]<;>rfl
end
end LD
namespace LD
open PySem
section
variable {Z:Env}{M:Mem}{a b d:GE}{k:D->Mem->Prop}{kw:Walk->Mem->Prop}{kf:Fl->Mem->Prop}
@[simp] theorem Ly:ah (md a b d Z M) kw↔ah (a Z M) fun x M=>ah (b Z M) fun y M=>ah (d Z M) fun z M=>(cY x&&cY y&&cY z)=true/\kw (j5 x y z) M:=by
 simp only [md,bj];refine iff_of_eq ?_;congr 1;funext x M;congr 1;funext y M;congr 1;funext z M;split<;>simp_all
@[simp] theorem Lq {m:Bool}{xs:List D}:ah (zF m (.lst xs) M) k↔ah (ba m xs.reverse M) k:=MS
@[simp] theorem Lp {m:Bool}{xs:List D}:ah (zF m (.tup xs) M) k↔k (.tup xs.reverse) M:=MS
theorem uw {t:cy}{w:Walk}{gb:GS}{ds:List D}(I:Nat->Env->Mem->Prop)(R:D->Mem->Prop)(hw:∀i Z M,I i Z M->w M=some ds)(hwR:∀d M,R d M->w M=some ds)(h0:I 0 Z M)
 (hs:∀i d Z M,ds[i]?=some d->I i Z M->∃ρ1,bW t d Z=some ρ1/\ah (gb ρ1 M) fun fl M=>(∃ρ',fl=.next ρ'/\I (i+1) ρ' M)\/∃d,fl=.ret d/\R d M) (hk:∀Z M,I ds.length Z M->kf (.next Z) M) (hr:∀d M,R d M->kf (.ret d) M) :
 ah (dg (gn t gb) w (.next Z) M) kf:=by
 refine gM (fun i fl M=>(∃Z,fl=.next Z/\I i Z M)\/∃d,fl=.ret d/\R d M) (fun i fl M h=>h.elim (fun ⟨Z,_,h⟩=>hw i Z M h) fun ⟨d,_,h⟩=>hwR d M h) (.inl ⟨Z,rfl,h0⟩) ?_ ?_
 ·rintro i d fl M hd (⟨Z,rfl,hI⟩|⟨d',rfl,hR⟩)
  ·obtain ⟨ρ1,e,h⟩:=hs i d Z M hd hI
   simp only [gn,bj,i8,e]
   exact ⟨ρ1,rfl,h⟩
  ·exact .inr ⟨d',rfl,hR⟩
 ·rintro fl M (⟨Z,rfl,hI⟩|⟨d,rfl,hR⟩)
  ·exact hk Z M hI
  ·exact hr d M hR
end
theorem Hs (i j:Nat):gG (nD i) (nD j)=decide (i=j):=by
 show ((i:Int)==(j:Int))=_
 rw [NC];simp;omega
theorem lN:∀l r:List Nat,jH (l.map nD) (r.map nD)=decide (l=r)
 |[],[]=>rfl
 |[],_::_=>rfl
 |_::_,[]=>rfl
 | i :: l, j :: r => by
   show (gG (nD i) (nD j)&&jH (l.map nD) (r.map nD))=_
   rw [Hs,lN l r,NC];simp
theorem Ht (l r:List Nat):gG (aF l) (aF r)=decide (l=r):=lN l r
theorem gQ (n:Nat)(l:List Nat):aC (n+1) (.lst (l.map nD))=true:=by
 show (l.map nD).all (aC n)=true
 rw [L9];intro x hx;obtain ⟨i,_,rfl⟩:=Mz.mp hx;cases n<;>rfl
theorem kF {l r:List Nat}{M:Mem}:bu .ne (aF l) (aF r) M=some (!decide (l=r)):=jY (rR 63 l) (rR 63 r) (Ht l r)
theorem yy {l r:List Nat}{M:Mem}:bu .ne (.lst (l.map nD)) (.lst (r.map nD)) M=some (!decide (l=r)):=jY (gQ 63 l) (gQ 63 r) (lN l r)
noncomputable def ends (m:aX)(r:List Nat):List (List Nat):=(bE m).map (bB m r)
theorem yz (m:aX)(r:List Nat):iu m r=.tup ((ends m r).map aF):=by simp [iu,ends,Ng]
section
variable {P:Nat->Option Df}(h:HasB P){M:Mem}
include h
theorem tB (he:P 44=some ⟨2,5,dH⟩)(n:Nat){m:aX}{x:D}{r:List Nat}(hx:bf M x r)(hm:a9 m)(hr:∀i∈r,i<m.deeds.length):ah (aq P (n+2) 44 [m.d,x] M) fun d M'=>d=.tup ((ends m r).map aF)/\Sub M M':=by
 have bb:=pY h n (M:=M++[[]]) hm
 have bl:=nv hm
 refine aA he rfl ?_
 simp [dH,bb]
 refine ⟨rfl,?_⟩
 generalize hq:M.length=q
 refine eO (ds:=(bE m).map aF) (fun i Z M'=>M'[q]?=some (((bE m).take i).map fun s=>aF (bB m r s))/\Sub M M'/\q<M'.length/\∃x3 x4,Z=[some m.d,some x,some (.cell q),x3,x4]) (fun _ _ _ _=>rfl) ⟨by subst hq;simp,Sub.app,by subst hq;simp,none,none,rfl⟩ ?_ ?_
 ·rintro i d Z M' hd ⟨e4,S4,hql,x3,x4,rfl⟩
  rw [Mr] at hd
  cases e:(bE m)[i]? with
  |none=>rw [e] at hd;cases hd
  | some s =>
    rw [e] at hd
    cases LO hd
    have hi:=(LJ.mp e).1
    have hs:=mB s (MJ e)
    refine ⟨_,rfl,?_⟩
    simp [hx.is]
    refine eO (ds:=r.map nD) (fun j Z M2=>M2[q]?=some (((bE m).take i).map fun s=>aF (bB m r s))/\Sub M M2/\q<M2.length/\∃x4,Z=[some m.d,some x,some (.cell q),some (aF (bB m (r.take j) s)),x4]) (fun _ _ _ e=>(hx.sub e.2.1).seq) ⟨e4,S4,hql,x4,rfl⟩ ?_ ?_
    ·rintro j dd Z M2 hj ⟨f4,T4,ql2,y4,rfl⟩
     rw [Mr] at hj
     cases ej:r[j]? with
     |none=>rw [ej] at hj;cases hj
     | some k =>
       rw [ej] at hj
       cases LO hj
       have hk:=hr k (MJ ej)
       have hst:fT m (bB m (r.take j) s):=mq hm (fun x hx=>hr x (MP hx)) hs
       have af:=zx h n (M:=M2) hm (j7 hm hk) hst
       refine ⟨_,rfl,?_⟩
       simp [-gV,xG,nr hk,af]
       exact ⟨by rw [Ma ql2,f4,ND],T4.trans Sub.app,by omega,by rw [MY,ej];simp [sJ,bB]⟩
    ·rintro Z M2 ⟨f4,T4,ql2,y4,rfl⟩
     simp [f4]
     exact ⟨NA (show _<=50 by omega) (by decide),by rw [Md ql2,MY];simp [e],T4.setq (by omega),ql2⟩
 ·rintro Z M' ⟨e4,S4,hql,x3,x4,rfl⟩
  rw [LX,List.take_length] at e4
  simp [e4,ends,Ng,S4]
theorem mV (he:P 44=some ⟨2,5,dH⟩)(n:Nat){m:aX}{r:List Nat}(hm:a9 m)(hr:∀i∈r,i<m.deeds.length):ah (aq P (n+2) 44 [m.d,.lst (r.map nD)] M) fun d M'=>d=.tup ((ends m r).map aF)/\Sub M M':=tB h he n .l hm hr
end
noncomputable def bS (m:aX)(a b:List Nat):Option (List Nat):=(bE m).find? fun s=>!decide (bB m a s=bB m b s)
noncomputable def ez:Option (List Nat)->D
 |some s=>aF s
 |none=>.non
theorem iY {α:Type}(f g e:α->D):∀l:List α,fh (l.map f) (l.map g) (l.map e)=l.map fun s=>.tup [f s,g s,e s]
 |[]=>rfl
 |a::l=>by simp [fh,iY f g e l]
theorem qi {m:aX}{a b:List Nat}{i:Nat}{s:List Nat}(hi:(bE m)[i]?=some s)(h:∀t∈(bE m).take i,bB m a t=bB m b t)(hs:bB m a s≠bB m b s):bS m a b=some s:=by
 have e:bE m=(bE m).take i++s::(bE m).drop (i+1):=by
  obtain ⟨h1,h2⟩:=LJ.mp hi
  rw [<- h2,<- List.drop_eq_getElem_cons h1,List.take_append_drop]
 unfold bS
 rw [e,List.find?_append]
 have:((bE m).take i).find? (fun s=>!decide (bB m a s=bB m b s))=none:=by
  rw [List.find?_eq_none];intro t ht;simp [h t ht]
 rw [this]
 simp [List.find?_cons,hs]
theorem qh {m:aX}{a b:List Nat}(h:∀t∈bE m,bB m a t=bB m b t):bS m a b=none:=by
 unfold bS
 rw [List.find?_eq_none];intro t ht;simp [h t ht]
structure tj (P:Nat->Option Df):Prop where
 h15:P 15=some ⟨1,6,dA⟩
 h27:P 27=some ⟨2,2,hU⟩
 h46:P 46=some ⟨2,2,gi⟩
 parted:P 48=some ⟨3,8,nB⟩
section
variable {P:Nat->Option Df}{M:Mem}
theorem rG (h:HasM P)(ha:tj P)(n:Nat){m:aX}{x y:D}{a b:List Nat}(hx:bf M x a)(hy:bf M y b)(hm:a9 m)(h1:bo m a)(h2:bo m b):ah (aq P (n+12) 48 [m.d,x,y] M) fun d M'=>d=ez (bS m a b)/\Sub M M':=by
 have b1:=pX h ha.h15 ha.h27 ha.h46 n hx hm h1
 have b2:=pX h ha.h15 ha.h27 ha.h46 n (hy.sub (Sub.app (X:=(bE m).map fun s=>(dB m a s).map aF))) hm h2
 generalize hM2:(M++(bE m).map fun s=>(dB m a s).map aF)++((bE m).map fun s=>(dB m b s).map aF)=M2 at b2
 have S2:Sub M M2:=by subst hM2;rw [List.append_assoc];exact Sub.app
 have bb:=tW h.toHasM0 ha.h15 (n+2) (M:=M2) hm
 refine aA ha.parted rfl ?_
 simp [nB,b1,b2,bb,cY]
 refine ⟨⟨rfl,rfl⟩,?_⟩
 refine uw (ds:=(bE m).map fun s=>.tup [aF s,aF (bB m a s),aF (bB m b s)]) (fun i Z M'=>(∀t∈(bE m).take i,bB m a t=bB m b t)/\Sub M M'/\∃x5 x6 x7,Z=[some m.d,some x,some y,some (iu m a),some (iu m b),x5,x6,x7]) (fun d M'=>d=ez (bS m a b)/\Sub M M') ?_ ?_ ⟨by simp,S2,none,none,none,rfl⟩ ?_ ?_ ?_
 ·rintro i Z M' _
  simp [j5,bH,iu,iY]
 ·rintro d M' _
  simp [j5,bH,iu,iY]
 ·rintro i d Z M' hd ⟨hp,S',x5,x6,x7,rfl⟩
  rw [Mr] at hd
  cases e:(bE m)[i]? with
  |none=>rw [e] at hd;cases hd
  | some s =>
    rw [e] at hd
    cases LO hd
    refine ⟨_,rfl,?_⟩
    by_cases c:bB m a s=bB m b s
    ·simp [kF,c]
     refine ⟨?_,S'⟩
     intro t ht
     rw [MY,e] at ht
     rcases Ms.mp ht with z|z
     ·exact hp t z
     ·simp at z;subst z;exact c
    ·simp [kF,c]
     exact ⟨by rw [qi e hp c];rfl,S'⟩
 ·rintro Z M' ⟨hp,S',x5,x6,x7,rfl⟩
  simp at hp ⊢
  exact ⟨by rw [qh (by simpa [MV] using hp)];rfl,S'⟩
 ·rintro d M' ⟨rfl,S'⟩
  simp [S']
theorem wN (h:HasM P)(ha:tj P)(n:Nat){m:aX}{a b:List Nat}(hm:a9 m)(h1:bo m a)(h2:bo m b):ah (aq P (n+12) 48 [m.d,ay a,ay b] M) fun d M'=>d=ez (bS m a b)/\Sub M M':=rG h ha n .l .l hm h1 h2
end
end LD
namespace LD
open PySem
abbrev AZ:=List Nat×List Nat
structure JY where
 place:Nat
 num:Nat
 back:Bool
noncomputable def JY.d (s:JY):D:=.tup [nD s.place,nD s.num,.bl s.back]
noncomputable def AZ.way (r:AZ)(b:Bool):AZ:=if b then (r.2,r.1) else r
end LD
namespace LD
open PySem
theorem yq {tg:cy}{w:Walk}{gc:GT}{ge:GE}{ds:List D}{ρ0:Env}{M:Mem}{kl:List D->Mem->Prop}(f:D->Bool)(g:D->D)(hz:ds.length<=sz)(hw:w M=some ds)
 (hs:∀d∈ds,∃ρ1,bW tg d ρ0=some ρ1/\gc ρ1 M=.ok (f d) M/\(f d=true->ge ρ1 M=.ok (g d) M)) (hk:kl ((ds.filter f).map g) M):ah (dg (di tg (uv gc (bU ge)) ρ0) w [] M) kl:=by
 refine gM (fun i acc M'=>M'=M/\acc=((ds.take i).filter f).map g) (fun i acc M' h=>by rw [h.1];exact hw) ⟨rfl,rfl⟩ ?_ ?_
 ·rintro i d acc M' hd ⟨rfl,rfl⟩
  obtain ⟨ρ1,e1,e2,e3⟩:=hs d (MJ hd)
  have hi:i<ds.length:=(LJ.mp hd).1
  simp only [di,e1,zY,Res.bind_ok,uv,e2]
  rw [MY,hd]
  cases q:f d with
  | false =>
    simp [q]
  | true =>
    rw [if_pos rfl]
    have len:(((ds.take i).filter f).map g).length<=i:=by
     rw [LX]
     exact LR (List.length_filter_le _ _) (by simp;omega)
    simp only [bU,e3 q,Res.bind_ok]
    rw [if_pos (by omega)]
    simp [q]
 ·rintro acc M' ⟨rfl,rfl⟩
  simpa using hk
end LD
namespace LD
open PySem
structure vU (P:Nat->Option Df):Prop where
 init:P 129=some ⟨3,3,eR⟩
 row:P 130=some ⟨1,1,iR⟩
 cost:P 131=some ⟨1,1,hZ⟩
 beh:P 132=some ⟨1,1,eD⟩
 put:P 133=some ⟨3,3,iS⟩
 out:P 134=some ⟨2,2,iT⟩
 back:P 135=some ⟨1,1,h9⟩
 change:P 136=some ⟨2,2,fN⟩
 give:P 137=some ⟨2,3,hX⟩
 summed:P 47=some ⟨2,2,eJ⟩
structure bG (M:Mem) (k e:Nat) (m:aX) (r:List Nat) (hs:List (List Nat)):Prop where
 ob:M[k]?=some [.int 40,m.d,ay r,.cell e]
 er:M[e]?=some (hs.map ay)
theorem bG.ne {M:Mem}{k e:Nat}{m:aX}{r:List Nat}{hs:List (List Nat)}(h:bG M k e m r hs):e≠k:=fun z=>by
 have a:=h.ob
 rw [<- z,h.er] at a
 cases hs with
 |nil=>cases a
 |cons x l=>cases a
structure fz (l:List Nat) (M M':Mem):Prop where
 len:M.length<=M'.length
 at':∀k,k<M.length->k∉l->M'[k]?=M[k]?
theorem fz.trans {l:List Nat}{M M1 M2:Mem}(a:fz l M M1)(b:fz l M1 M2):fz l M M2:=⟨LR a.len b.len,fun k hk n=>(b.at' k (L5 hk a.len) n).trans (a.at' k hk n)⟩
theorem fz.of {l:List Nat}{M M':Mem}(a:Sub M M'):fz l M M':=⟨a.len,fun k hk _=>a.at' k hk⟩
theorem fz.set {l:List Nat}{M:Mem}{k:Nat}{ds:List D}(h:k∈l):fz l M (M.set k ds):=⟨by simp,fun j _ n=>LS fun e=>n (by rw [<- e];exact h)⟩
theorem fz.get {l:List Nat}{k:Nat}{M M':Mem}{ds:List D}(h:fz l M M')(e:M[k]?=some ds)(n:k∉l):M'[k]?=some ds:=by rw [h.at' k (LJ.mp e).1 n];exact e
theorem gy {M:Mem}{k:Nat}{ds:List D}(e:M[k]?=some ds):k<M.length:=(LJ.mp e).1
section
variable {Z:Env}{M M':Mem}{a v:GE}{s:GA}{k i:Nat}{es:List D}{nm:Str}{kf:Fl->Mem->Prop}{rest:GS}
theorem DZ {d:D}(ob:M[k]?=some (.int 40::es))(hi:(cw 40).findIdx? (·==nm)=some i)(he:es[i]?=some d):sH M (aU k) nm=some d:=by
 unfold sH aU
 rw [if_pos (Nt _ _),Nu,ob]
 show ((cw 40).findIdx? (·==nm)).bind _=_
 rw [hi]
 exact he
theorem dZ {d:D}(ha:a Z M=.ok (.fn (aU k)) M)(ob:M[k]?=some (.int 40::es))(hi:(cw 40).findIdx? (·==nm)=some i)(he:es[i]?=some d):cb nm a Z M=.ok d M:=by
 unfold cb
 rw [ha]
 show bV M (sH M (aU k) nm)=_
 rw [DZ ob hi he]
 rfl
theorem C4 {z:D}(hv:v Z M=.ok z M')(ha:a Z M'=.ok (.fn (aU k)) M')(ob:M'[k]?=some (.int 40::es))(hi:(cw 40).findIdx? (·==nm)=some i)(hl:i<es.length)(h:ah (rest Z (M'.set k (.int 40::es.set i z))) kf):ah (ag (g8 nm a v) rest Z M) kf:=by
 have e:kB M' (aU k) nm z=some (M'.set k (.int 40::es.set i z)):=by
  unfold kB aU
  rw [if_pos (Nt _ _),Nu,ob]
  show ((cw 40).findIdx? (·==nm)).bind _=_
  rw [hi]
  exact if_pos hl
 simp only [aW]
 unfold g8
 rw [hv]
 show ah ((a Z M').bind _) _
 rw [ha]
 show ah (match kB M' (aU k) nm z with|some M'=>Res.ok (Fl.next Z) M'|none=>.bad) _
 rw [e]
 exact h
theorem mX {z:D}(hv:v Z M=.ok z M')(ha:a Z M'=.ok (.fn (aU k)) M')(ob:M'[k]?=some (.int 40::es))(hi:(cw 40).findIdx? (·==nm)=some es.length)(h:ah (rest Z (M'.set k (.int 40::(es++[z])))) kf):ah (ag (g8 nm a v) rest Z M) kf:=by
 have e:kB M' (aU k) nm z=some (M'.set k (.int 40::(es++[z]))):=by
  unfold kB aU
  rw [if_pos (Nt _ _),Nu,ob]
  show ((cw 40).findIdx? (·==nm)).bind _=_
  rw [hi]
  show (if es.length<es.length then _ else if es.length=es.length then _ else none)=_
  rw [if_neg (MX _),if_pos rfl]
 simp only [aW]
 unfold g8
 rw [hv]
 show ah ((a Z M').bind _) _
 rw [ha]
 show ah (match kB M' (aU k) nm z with|some M'=>Res.ok (Fl.next Z) M'|none=>.bad) _
 rw [e]
 exact h
theorem dW {f:Nat}{c:Call}{ds:List D}(ha:a Z M=.ok (.fn (aU k)) M)(ob:M[k]?=some (.int 40::es))(hs:s Z M=.ok ds M'):cq 40 f c a s Z M=c f (.fn (aU k)::ds) M':=by
 have e:la M (aU k)=some 40:=by
  unfold la aU
  rw [if_pos (Nt _ _),Nu,ob]
  rfl
 unfold cq
 rw [ha]
 show (if la M (aU k)=some 40 then (s Z M).bind _ else .bad)=_
 rw [if_pos e,hs]
 rfl
theorem DQ {f:Nat}{c:Call}{ds:List D}{kd:D->Mem->Prop}(hs:s Z M=.ok ds M)(h:ah (c f (.fn (aU M.length)::ds) (M++[[.int 40]])) fun r M'=>r=.non/\kd (.fn (aU M.length)) M'):ah (mi 40 f c s Z M) kd:=by
 obtain ⟨r,M',e,rfl,q⟩:=iE.mp h
 unfold mi
 rw [hs]
 show ah ((c f (.fn (aU M.length)::ds) (M++[[.int 40]])).bind _) kd
 rw [e]
 exact q
theorem pop_at {ds:List D}{y:D}(ha:a Z M=.ok (.cell k) M)(hk:M[k]?=some (ds++[y])):ph a Z M=.ok y (M.set k ds):=by
 unfold ph
 rw [ha]
 show (match M[k]? with|some ds=>(match ds[ds.length-1]? with|some y=>Res.ok y (M.set k ds.dropLast)|none=>.bad)|none=>.bad)=_
 rw [hk]
 show (match (ds++[y])[(ds++[y]).length-1]? with|some z=>Res.ok z (M.set k (ds++[y]).dropLast)|none=>.bad)=_
 have:(ds++[y])[(ds++[y]).length-1]?=some y:=by simp
 rw [this,List.dropLast_concat]
theorem oC {b:GE}{ds:List D}{z:D}(ha:a Z M=.ok (.cell k) M)(hb:b Z M=.ok z M)(hk:M[k]?=some ds)(hz:ds.length<sz)(h:ah (rest Z (M.set k (ds++[z]))) kf):ah (ag (fB a b) rest Z M) kf:=by
 simp only [aW]
 unfold fB
 rw [ha]
 show ah ((b Z M).bind _) _
 rw [hb]
 show ah (match M[k]? with|some ds=>(if ds.length<sz then Res.ok (Fl.next Z) (M.set k (ds++[z])) else .bad)|none=>.bad) _
 rw [hk]
 show ah (if ds.length<sz then _ else _) _
 rw [if_pos hz]
 exact h
theorem jZ {f:tm}{ds:List D}(es:s Z M=.ok ds M):aV f s Z M=dj f ds M:=by
 unfold aV
 rw [es]
 rfl
theorem AS {f:Nat}{c:Call}{xs:List D}(e:s Z M=.ok xs M):dz f c s Z M=c f xs M:=by
 unfold dz;rw [e]
theorem Ew {j:Nat}{kd:D->Mem->Prop}(h:ah (a Z M) kd)(hk:∀x M',kd x M'->ah (rest (Z.set j (some x)) M') kf):ah (ag (g9 (.one j) a) rest Z M) kf:=by
 obtain ⟨x,M',e,q⟩:=iE.mp h
 simp only [aW]
 unfold g9
 rw [e]
 exact hk x M' q
theorem eI {o:iC}{b:GE}{x y:D}{w:Bool}(h1:a Z M=.ok x M)(h2:b Z M=.ok y M)(h3:bu o x y M=some w):aR o a b Z M=.ok (.bl w) M:=by
 unfold aR
 rw [h1]
 show (b Z M).bind _=_
 rw [h2]
 show (bV M (bu o x y M)).bind _=_
 rw [h3]
 rfl
theorem lT {hi:GE}{xs:List D}{j:Nat}(ea:a Z M=.ok (.lst xs) M)(eh:hi Z M=.ok (.int (j:Int)) M)(hz:xs.length<=1000):dw false false true a gN hi Z M=.ok (.lst (xs.take j)) M:=by
 refine aw ?_
 rw [mr,ea]
 show ah (hi Z M) _
 rw [eh]
 exact ⟨rfl,rfl,rK.mpr ⟨aL (by simp;omega),rfl,rfl⟩⟩
theorem lU {lo:GE}{xs:List D}{j:Nat}(ea:a Z M=.ok (.lst xs) M)(eh:lo Z M=.ok (.int (j:Int)) M)(hz:xs.length<=1000):dw false true false a lo gN Z M=.ok (.lst (xs.drop j)) M:=by
 refine aw ?_
 rw [mr,ea]
 show ah (lo Z M) _
 rw [eh]
 exact ⟨rfl,rfl,zz.mpr ⟨aL (by simp;omega),rfl,rfl⟩⟩
theorem Fm {ds:List D}(ha:a Z M=.ok (.cell k) M)(hk:M[k]?=some ds)(h:ah (rest Z (M.set k ds.reverse)) kf):ah (ag (w5 (mh a)) rest Z M) kf:=by
 simp only [aW]
 unfold w5 mh
 rw [ha]
 show ah ((match M[k]? with|some ds=>Res.ok D.non (M.set k ds.reverse)|none=>.bad).bind _) _
 rw [hk]
 exact h
end
section
variable {P:Nat->Option Df}(h:HasM P)(ho:vU P)(ha:tj P){M:Mem}{k e:Nat}{m:aX}{r:List Nat}{hs:List (List Nat)}
include h ho
theorem CQ (n:Nat){x:D}(hx:bf M x r)(hm:a9 m)(hr:bo m r):aq P (n+10) 129 [.fn (aU M.length),m.d,x] (M++[[.int 40]])=.ok .non (M++[[.int 40,m.d,ay r,.cell (M.length+1)],[]]):=by
 have hx':bf (M++[[.int 40]]) x r:=hx.sub Sub.app
 refine aw (aA ho.init rfl ?_)
 show ah (eR (aq P (n+9)) [some (.fn (aU M.length)),some m.d,some x] (M++[[.int 40]])) _
 unfold eR
 refine cn (ρ':=[some (.fn (aU M.length)),some m.d,some x]) ?_ ?_
 ·show uH _ _ (aq P (n+9) 18 [m.d,x] (M++[[.int 40]]))=_
  rw [pU h.toHasM0 n hx' hm hr]
  rfl
 refine mX (k:=M.length) (es:=[]) (aj rfl) (aj rfl) (by simp) (by decide) ?_
 have e1:(M++[[D.int 40]]).set M.length (.int 40::([]++[m.d]))=M++[[.int 40,m.d]]:=by simp
 rw [e1]
 have hx2:bf (M++[[.int 40,m.d]]) x r:=hx.sub Sub.app
 have el:aV (.list false) (ae (aa 2) ai) [some (.fn (aU M.length)),some m.d,some x] (M++[[.int 40,m.d]])=.ok (ay r) (M++[[.int 40,m.d]]):=by
  refine aw ?_
  rw [fq]
  show ah (dj (.list false) [x] _) _
  rw [hx2.list,cL]
  exact ⟨aL (by have:=hr.1;simp;omega),rfl,rfl⟩
 refine mX (k:=M.length) (es:=[m.d]) el (aj rfl) (by simp) (show _=some 1 by decide) ?_
 have e2:(M++[[D.int 40,m.d]]).set M.length (.int 40::([m.d]++[ay r]))=M++[[.int 40,m.d,ay r]]:=by simp
 rw [e2]
 refine mX (k:=M.length) (es:=[m.d,ay r]) (z:=.cell (M.length+1)) (M':=M++[[.int 40,m.d,ay r]]++[[]]) ?_ (aj rfl) (by simp) (show _=some 2 by decide) ?_
 ·show (if 0<=sz then (if true=true then Res.ok (D.cell (M++[[.int 40,m.d,ay r]]).length) (M++[[.int 40,m.d,ay r]]++[[]]) else Res.ok (.lst []) (M++[[.int 40,m.d,ay r]])) else Res.bad)=_
  rw [if_pos (NY _)]
  simp
 ·show D.non=.non/\_=_
  simp
theorem tS (n:Nat)(hr:r.length<=40)(s:bG M k e m r hs):aq P (n+1) 130 [.fn (aU k)] M=.ok (.cell M.length) (M++[r.map nD]):=by
 refine aw (aA ho.row rfl ?_)
 show ah (iR (aq P n) [some (.fn (aU k))] M) _
 unfold iR
 refine bI ?_
 rw [jZ (au (dZ (i:=1) (aj rfl) s.ob (by decide) rfl) rfl)]
 exact (bf.l (M:=M) (r:=r)).list.mpr (iW.mpr ⟨aL (by simp;omega),rfl,rfl⟩)
theorem zl (n:Nat)(hr:bo m r)(s:bG M k e m r hs):aq P (n+2) 131 [.fn (aU k)] M=.ok (nD (vE m r)) M:=by
 refine aw (aA ho.cost rfl ?_)
 show ah (hZ (aq P (n+1)) [some (.fn (aU k))] M) _
 unfold hZ
 refine dq ((bD (au (dZ (i:=0) (aj rfl) s.ob (by decide) rfl) (au (dZ (i:=1) (aj rfl) s.ob (by decide) rfl) rfl))).trans (kQ h.toHasM0 ho.summed n .l (LR hr.1 (by decide)) hr.2)) ⟨rfl,rfl⟩
include ha
theorem CS (n:Nat)(hm:a9 m)(hr:bo m r)(s:bG M k e m r hs):aq P (n+11) 132 [.fn (aU k)] M=.ok (iu m r) (M++(bE m).map fun s=>(dB m r s).map aF):=by
 refine aw (aA ho.beh rfl ?_)
 show ah (eD (aq P (n+10)) [some (.fn (aU k))] M) _
 unfold eD
 refine bI ?_
 rw [bD (au (dZ (i:=0) (aj rfl) s.ob (by decide) rfl) (au (dZ (i:=1) (aj rfl) s.ob (by decide) rfl) rfl)),wU h ha.h15 ha.h46 n hm hr]
 exact ⟨rfl,rfl⟩
theorem tU (n:Nat){r':List Nat}(hm:a9 m)(hr:bo m r)(hr':bo m r')(s:bG M k e m r hs):ah (aq P (n+13) 137 [.fn (aU k),ay r'] M) fun d M'=>d=ez (bS m r r')/\bG M' k e m r' hs/\fz [k] M M':=by
 refine aA ho.give rfl ?_
 show ah (hX (aq P (n+12)) [some (.fn (aU k)),some (ay r'),none] M) _
 unfold hX
 have q:=wN h ha n (M:=M) hm hr hr'
 refine Ew (kd:=fun d M'=>d=ez (bS m r r')/\Sub M M') ?_ ?_
 ·rw [AS (au (dZ (i:=0) (aj rfl) s.ob (by decide) rfl) (au (dZ (i:=1) (aj rfl) s.ob (by decide) rfl) (au (aj rfl) rfl)))]
  exact q
 ·rintro x M1 ⟨rfl,S1⟩
  refine C4 (k:=k) (i:=1) (es:=[m.d,ay r,.cell e]) (aj rfl) (aj rfl) (S1.get s.ob) (by decide) (show 1<3 by decide) ?_
  refine bI ?_
  rw [aj rfl]
  refine ⟨rfl,⟨?_,?_⟩,(fz.of S1).trans (fz.set (by simp))⟩
  ·rw [Md (gy (S1.get s.ob))]
   rfl
  ·rw [LS (MR s.ne)]
   exact S1.get s.er
theorem pW (n:Nat){r':List Nat}(hm:a9 m)(hr:bo m r)(hr':bo m r')(hz:hs.length<=1000)(s:bG M k e m r hs):ah (aq P (n+14) 136 [.fn (aU k),ay r'] M) fun d M'=>d=ez (bS m r r')/\bG M' k e m r' (hs++[r])/\fz [k,e] M M':=by
 refine aA ho.change rfl ?_
 show ah (fN (aq P (n+13)) [some (.fn (aU k)),some (ay r')] M) _
 unfold fN
 refine oC (k:=e) (dZ (i:=2) (aj rfl) s.ob (by decide) rfl) (dZ (i:=1) (aj rfl) s.ob (by decide) rfl) s.er (L5 (by simp;omega:_<2000) (aL (by decide))) ?_
 have s1:bG (M.set e (hs.map ay++[ay r])) k e m r (hs++[r]):=by
  refine ⟨?_,?_⟩
  ·rw [LS s.ne]
   exact s.ob
  ·rw [Md (gy s.er)]
   simp
 refine bI ?_
 rw [dW (aj rfl) s1.ob (au (aj rfl) rfl)]
 refine aQ (tU h ho ha n hm hr hr' s1) ?_
 rintro d M' ⟨rfl,s2,k2⟩
 exact ⟨rfl,s2,(fz.set (by simp)).trans ⟨k2.len,fun j hj hn=>k2.at' j hj fun z=>hn (by simp at z;simp [z])⟩⟩
theorem CN (n:Nat){p i:Nat}(hm:a9 m)(hr:bo m r)(hp:p<=r.length)(hl:r.length<40)(hi:i<m.deeds.length)(hz:hs.length<=1000)(s:bG M k e m r hs) :
 ah (aq P (n+15) 133 [.fn (aU k),nD p,nD i] M) fun d M'=>d=ez (bS m r (r.take p++[i]++r.drop p))/\bG M' k e m (r.take p++[i]++r.drop p) (hs++[r])/\fz [k,e] M M':=by
 refine aA ho.put rfl ?_
 show ah (iS (aq P (n+14)) [some (.fn (aU k)),some (nD p),some (nD i)] M) _
 unfold iS
 have fm:cb "machine" (aa 0) [some (.fn (aU k)),some (nD p),some (nD i)] M=.ok m.d M:=dZ (i:=0) (aj rfl) s.ob (by decide) rfl
 have fs:cb "standing" (aa 0) [some (.fn (aU k)),some (nD p),some (nD i)] M=.ok (ay r) M:=dZ (i:=1) (aj rfl) s.ob (by decide) rfl
 have fl:aV .len (ae (cb "standing" (aa 0)) ai) [some (.fn (aU k)),some (nD p),some (nD i)] M=.ok (.int r.length) M:=by
  rw [jZ (au fs rfl)]
  exact aw ((bf.l (M:=M) (r:=r)).len.mpr ⟨rfl,rfl⟩)
 refine br (ie (b:=true) (bK ?_)) (br (ie (b:=true) (bK ?_)) (br (bK (eI fl rfl ?_)) ?_))
 ·rw [bD (au (aj rfl) (au rfl (au fl rfl))),ki h.toHasM0 (n+13)]
  have a:decide ((0:Int)<=(p:Int))=true:=decide_eq_true (by omega)
  have b:decide ((p:Int)<=(r.length:Int))=true:=decide_eq_true (by omega)
  rw [a,b];rfl
 ·rw [bD (au fm (au (aj rfl) rfl)),tV h.toHasM0 (n+12) hi]
 ·show some (decide ((40:Int)<=(r.length:Int)))=_
  rw [decide_eq_false (by omega)]
 ·refine bI ?_
  have e1:=lT (M:=M) (hi:=aa 1) (j:=p) fs (aj rfl) (by simp;omega)
  have e2:=lU (M:=M) (lo:=aa 1) (j:=p) fs (aj rfl) (by simp;omega)
  have e3:=gJ (gJ e1 (ig (s:=ae (aa 2) ai) (xs:=[nD i]) (au (aj (j:=2) rfl) rfl) (by simp)) (by simp;omega)) e2 (by simp;omega)
  rw [dW (aj rfl) s.ob (au e3 rfl)]
  have er:D.lst ((r.map nD).take p++[nD i]++(r.map nD).drop p)=ay (r.take p++[i]++r.drop p):=by simp [ay,ND,List.map_drop]
  rw [er]
  have hr':bo m (r.take p++[i]++r.drop p):=by
   refine ⟨by simp;omega,fun j hj=>?_⟩
   rcases Ms.mp hj with z|z
   ·rcases Ms.mp z with z|z
    ·exact hr.2 j (MP z)
    ·simp at z;omega
   ·exact hr.2 j (NJ z)
  exact pW h ho ha n hm hr hr' hz s
theorem CP (n:Nat){p:Nat}(hm:a9 m)(hr:bo m r)(hp:p<r.length)(hz:hs.length<=1000)(s:bG M k e m r hs) :
 ah (aq P (n+15) 134 [.fn (aU k),nD p] M) fun d M'=>d=ez (bS m r (r.take p++r.drop (p+1)))/\bG M' k e m (r.take p++r.drop (p+1)) (hs++[r])/\fz [k,e] M M':=by
 refine aA ho.out rfl ?_
 show ah (iT (aq P (n+14)) [some (.fn (aU k)),some (nD p)] M) _
 unfold iT
 have l40:=hr.1
 have fs:cb "standing" (aa 0) [some (.fn (aU k)),some (nD p)] M=.ok (ay r) M:=dZ (i:=1) (aj rfl) s.ob (by decide) rfl
 have fl:aV .len (ae (cb "standing" (aa 0)) ai) [some (.fn (aU k)),some (nD p)] M=.ok (.int r.length) M:=by
  rw [jZ (au fs rfl)]
  exact aw ((bf.l (M:=M) (r:=r)).len.mpr ⟨rfl,rfl⟩)
 have fl1:az false .sub (aV .len (ae (cb "standing" (aa 0)) ai)) (gI 1) [some (.fn (aU k)),some (nD p)] M=.ok (.int (r.length-1)) M:=by
  unfold az;rw [fl];rfl
 refine br (ie (b:=true) (bK ?_)) ?_
 ·rw [bD (au (aj rfl) (au rfl (au fl1 rfl))),ki h.toHasM0 (n+13)]
  have a:decide ((0:Int)<=(p:Int))=true:=decide_eq_true (by omega)
  have b:decide ((p:Int)<=(r.length:Int)-1)=true:=decide_eq_true (by omega)
  rw [a,b];rfl
 ·refine bI ?_
  have e1:=lT (M:=M) (hi:=aa 1) (j:=p) fs (aj rfl) (by simp;omega)
  have ep:az false .add (aa 1) (gI 1) [some (.fn (aU k)),some (nD p)] M=.ok (.int ((p+1:Nat):Int)) M:=fc (x:=(p:Int)) (y:=1) (aj rfl) rfl
  have e2:=lU (M:=M) (j:=p+1) fs ep (by simp;omega)
  have e3:=gJ e1 e2 (by simp;omega)
  rw [dW (aj rfl) s.ob (au e3 rfl)]
  have er:D.lst ((r.map nD).take p++(r.map nD).drop (p+1))=ay (r.take p++r.drop (p+1)):=by simp [ay,ND,List.map_drop]
  rw [er]
  have hr':bo m (r.take p++r.drop (p+1)):=by
   refine ⟨by simp;omega,fun j hj=>?_⟩
   rcases Ms.mp hj with z|z
   ·exact hr.2 j (MP z)
   ·exact hr.2 j (NJ z)
  exact pW h ho ha n hm hr hr' hz s
theorem zm (n:Nat){r':List Nat}(hm:a9 m)(hr:bo m r)(hr':bo m r')(s:bG M k e m r (hs++[r'])) :
 ah (aq P (n+14) 135 [.fn (aU k)] M) fun d M'=>d=ez (bS m r r')/\bG M' k e m r' hs/\fz [k,e] M M':=by
 refine aA ho.back rfl ?_
 show ah (h9 (aq P (n+13)) [some (.fn (aU k))] M) _
 unfold h9
 have fe:cb "earlier" (aa 0) [some (.fn (aU k))] M=.ok (.cell e) M:=dZ (i:=2) (aj rfl) s.ob (by decide) rfl
 have er:=s.er
 rw [MZ] at er
 refine br (ie (b:=true) ?_) (bI ?_)
 ·unfold aE
  rw [fe]
  show bV M ((M[e]?).map fun ds=>!ds.isEmpty)=_
  rw [er]
  cases hs<;>rfl
 ·have s1:bG (M.set e (hs.map ay)) k e m r hs:=by
   refine ⟨?_,?_⟩
   ·rw [LS s.ne]
    exact s.ob
   ·rw [Md (gy s.er)]
  have ea:ae (ph (cb "earlier" (aa 0))) ai [some (.fn (aU k))] M=.ok [ay r'] (M.set e (hs.map ay)):=by
   unfold ae
   rw [pop_at fe er]
   rfl
  rw [dW (aj rfl) s.ob ea]
  refine aQ (tU h ho ha n hm hr hr' s1) ?_
  rintro d M' ⟨rfl,s2,k2⟩
  exact ⟨rfl,s2,(fz.set (by simp)).trans ⟨k2.len,fun j hj hn=>k2.at' j hj fun z=>hn (by simp at z;simp [z])⟩⟩
end
end LD
namespace LD
open PySem
structure pF (P:Nat->Option Df):Prop where
 price:P 89=some ⟨2,2,lO⟩
 change:P 138=some ⟨3,7,fM⟩
 do_:P 139=some ⟨2,2,d8⟩
 parted:P 140=some ⟨3,6,iw⟩
 orders:P 141=some ⟨0,0,iz⟩
 right:P 142=some ⟨4,6,eQ⟩
noncomputable def HJ (m:aX)(hs:List (List Nat))(r:List Nat)(later:List (List Nat))(told:D):Prop:=
 (∃hs0 r0,hs=hs0++[r0]/\later=hs/\told=.tup [])
 \/(∃a,a<r.length/\later=hs++[r]++[r.take a++r.drop (a+1)]/\told=.tup [nD a])
 \/∃a i,a<=r.length/\r.length<40/\i<m.deeds.length/\later=hs++[r]++[r.take a++[i]++r.drop a]/\told=.tup [nD a,nD i]
theorem Aw {xs:List D}{y:D}{M:Mem}:bO (.lst (xs++[y])) (.int (-1)) M=some y:=by
 show (bL (xs++[y]).length (-1)).bind (fun j=>(xs++[y])[j]?)=_
 have:bL (xs++[y]).length (-1)=some xs.length:=by
  unfold bL
  rw [if_neg (by decide),if_pos (by simp;omega)]
  simp;omega
 rw [this]
 simp
section
variable {Z:Env}{M:Mem}{a:GE}
theorem bw:ai Z M=.ok [] M:=rfl
theorem uo {xs:List D}{y:D}(e:a Z M=.ok (.lst (xs++[y])) M):aH a (dX (gI 1)) Z M=.ok y M:=c7 e rfl Aw
theorem uk {xs:List D}(e:a Z M=.ok (.lst xs) M):aV .len (ae a ai) Z M=.ok (nD xs.length) M:=by
 rw [jZ (au e rfl)]
 rfl
theorem gm {s:GA}{xs:List D}(es:s Z M=.ok xs M)(hl:xs.length<=100):cp s Z M=.ok (.tup xs) M:=by
 unfold cp
 rw [es]
 show (if xs.length<=sz then Res.ok (D.tup xs) M else .bad)=_
 rw [if_pos (aL (by omega))]
end
section
variable {P:Nat->Option Df}(h:HasP0 P)(hq:pF P){M:Mem}{m:aX}
include h hq
theorem uQ (n:Nat){p B:Nat}{hs:List (List Nat)}{r:List Nat}(hm:a9 m)(hr:bo m r)(hl:hs.length<=50)(hp:aS M p B)(hB:B<=700000):ah (aq P (n+3) 138 [.cell p,m.d,.lst ((hs++[r]).map ay)] M) fun d M'=>∃later told,d=.tup [.lst (later.map ay),told]/\HJ m hs r later told/\aS M' p (B+3)/\bg p M M':=by
 have l40:=hr.1
 have d6:=hm.d6
 refine aA hq.change rfl ?_
 show ah (fM (aq P (n+2)) [some (.cell p),some m.d,some (.lst ((hs++[r]).map ay)),none,none,none,none] M) _
 unfold fM
 refine eW h n (many:=4) rfl rfl hp (by omega) (by decide) (by decide) fun way M1 _ q1 k1=>?_
 show ah (ag _ _ [some (.cell p),some m.d,some (.lst ((hs++[r]).map ay)),some (nD way),none,none,none] M1) _
 rw [MZ]
 refine cn (dG (uo (aj rfl))) ?_
 show ah (ag _ _ [some (.cell p),some m.d,some (.lst (hs.map ay++[ay r])),some (nD way),some (ay r),none,none] M1) _
 have lr:∀{M:Mem}{x y:Option D},aV .len (ae (aa 4) ai) [some (.cell p),some m.d,some (.lst (hs.map ay++[ay r])),some (nD way),some (ay r),x,y] M=.ok (nD r.length) M:=fun {M x y}=>by
  rw [uk (xs:=r.map nD) (aj rfl),LX]
 refine eW h n (many:=r.length+1) rfl (mD lr rfl) q1 (by omega) (by omega) (by omega) fun at_ M2 hat q2 k2=>?_
 refine eW h n (many:=m.deeds.length) rfl (um (c7 (aj rfl) rfl xG)) q2 (by omega) hm.d1 (by omega) fun i M3 hi q3 k3=>?_
 have kk:=(k1.trans k2).trans k3
 show ah (ag _ _ [some (.cell p),some m.d,some (.lst (hs.map ay++[ay r])),some (nD way),some (ay r),some (nD at_),some (nD i)] M3) _
 have ll:aV .len (ae (aa 2) ai) [some (.cell p),some m.d,some (.lst (hs.map ay++[ay r])),some (nD way),some (ay r),some (nD at_),some (nD i)] M3=.ok (nD (hs.length+1)) M3:=by
  rw [uk (aj rfl)];simp
 refine bZ (pE (fo (c:=0) rfl) (bK (eI (w:=decide ((1:Int)<((hs.length+1:Nat):Int))) ll rfl rfl))) (fun hb=>?_) fun _=>?_
 ·rw [LN] at hb
  have h1:1<=hs.length:=by have:=of_decide_eq_true hb.2;omega
  obtain ⟨hs0,r0,e0⟩:∃hs0 r0,hs=hs0++[r0]:=⟨hs.dropLast,hs.getLast (fun z=>by rw [z] at h1;simp at h1),(List.dropLast_concat_getLast _).symm⟩
  refine bI ?_
  have es:dw false false true (aa 2) gN (dX (gI 1)) [some (.cell p),some m.d,some (.lst (hs.map ay++[ay r])),some (nD way),some (ay r),some (nD at_),some (nD i)] M3=.ok (.lst (hs.map ay)) M3:=by
   refine aw ?_
   rw [mr,aj (x:=.lst (hs.map ay++[ay r])) rfl]
   refine ⟨rfl,rfl,?_⟩
   have e2:aI (hs.map ay++[ay r]).length (hs.map ay++[ay r]).length (.int (-1))=some hs.length:=by
    show some _=_
    rw [if_pos (by decide)];congr 1;simp;omega
   show ah (match aI (hs.map ay++[ay r]).length 0 D.non,aI (hs.map ay++[ay r]).length (hs.map ay++[ay r]).length (.int (-1)) with|some l,some h=>ba false (cut (hs.map ay++[ay r]) l h) M3|_,_=>.bad) _
   rw [e2]
   show ah (ba false (cut (hs.map ay++[ay r]) 0 hs.length) M3) _
   have e3:cut (hs.map ay++[ay r]) 0 hs.length=hs.map ay:=by
    unfold cut
    simp
   rw [e3,cL]
   exact ⟨aL (by simp;omega),rfl,rfl⟩
  rw [gm (au es (au (gm (xs:=[]) rfl (by simp)) rfl)) (by simp)]
  exact ⟨hs,_,rfl,.inl ⟨hs0,r0,e0,rfl,rfl⟩,q3,kk⟩
 refine bZ (pE (Bw (fo (c:=1) rfl) (bK (eI (w:=((r.length:Int)==40)) lr rfl rfl))) (bK (eI (aj (x:=ay r) rfl) rfl (yy (l:=r) (r:=[]))))) (fun hb=>?_) fun hb=>?_
 ·rw [LN] at hb
  have ne:r≠[]:=by have:=hb.2;simpa using this
  have lp:0<r.length:=List.length_pos_iff.mpr ne
  have lt:=Nat.mod_lt at_ lp
  refine cn (dG (x:=nD (at_ % r.length)) ?_) ?_
  ·exact jb (x:=(at_:Int)) (y:=(r.length:Int)) (aj rfl) lr (by omega)
  ·show ah (ag _ _ [some (.cell p),some m.d,some (.lst (hs.map ay++[ay r])),some (nD way),some (ay r),some (nD (at_ % r.length)),some (nD i)] M3) _
   generalize at_ % r.length=v at lt
   refine bI ?_
   have e1:=lT (Z:=[some (.cell p),some m.d,some (.lst (hs.map ay++[ay r])),some (nD way),some (ay r),some (nD v),some (nD i)]) (M:=M3) (a:=aa 4) (hi:=aa 5) (xs:=r.map nD) (j:=v) (aj rfl) (aj rfl) (by simp;omega)
   have e2:=lU (Z:=[some (.cell p),some m.d,some (.lst (hs.map ay++[ay r])),some (nD way),some (ay r),some (nD v),some (nD i)]) (M:=M3) (a:=aa 4) (lo:=az false .add (aa 5) (gI 1)) (xs:=r.map nD) (j:=v+1) (aj rfl) (fc (x:=(v:Int)) (y:=1) (aj rfl) rfl) (by simp;omega)
   have e3:=gJ (a:=aa 2) (aj (x:=.lst (hs.map ay++[ay r])) rfl) (ig (au (gJ e1 e2 (by simp;omega)) bw) (by simp)) (by simp;omega)
   rw [gm (au e3 (au (gm (s:=ae (aa 5) ai) (au (aj (x:=nD v) rfl) rfl) (by simp)) rfl)) (by simp)]
   refine ⟨hs++[r]++[r.take v++r.drop (v+1)],_,?_,.inr (.inl ⟨v,lt,rfl,rfl⟩),q3,kk⟩
   simp [ay,ND,List.map_drop]
 ·have l39:r.length<40:=by
   rcases Nat.lt_or_ge r.length 40 with z|z
   ·exact z
   ·have e:r.length=40:=by omega
    have e2:r≠[]:=fun y=>by rw [y] at e;simp at e
    rw [e] at hb
    simp [e2] at hb
  refine bI ?_
  have e1:=lT (Z:=[some (.cell p),some m.d,some (.lst (hs.map ay++[ay r])),some (nD way),some (ay r),some (nD at_),some (nD i)]) (M:=M3) (a:=aa 4) (hi:=aa 5) (xs:=r.map nD) (j:=at_) (aj rfl) (aj rfl) (by simp;omega)
  have e2:=lU (Z:=[some (.cell p),some m.d,some (.lst (hs.map ay++[ay r])),some (nD way),some (ay r),some (nD at_),some (nD i)]) (M:=M3) (a:=aa 4) (lo:=aa 5) (xs:=r.map nD) (j:=at_) (aj rfl) (aj rfl) (by simp;omega)
  have e0:=ig (Z:=[some (.cell p),some m.d,some (.lst (hs.map ay++[ay r])),some (nD way),some (ay r),some (nD at_),some (nD i)]) (M:=M3) (s:=ae (aa 6) ai) (xs:=[nD i]) (au (aj rfl) rfl) (by simp)
  have e3:=gJ (a:=aa 2) (aj (x:=.lst (hs.map ay++[ay r])) rfl) (ig (au (gJ (gJ e1 e0 (by simp;omega)) e2 (by simp;omega)) bw) (by simp)) (by simp;omega)
  rw [gm (au e3 (au (gm (s:=ae (aa 5) (ae (aa 6) ai)) (au (aj (x:=nD at_) rfl) (au (aj (x:=nD i) rfl) rfl)) (by simp)) rfl)) (by simp)]
  refine ⟨hs++[r]++[r.take at_++[i]++r.drop at_],_,?_,.inr (.inr ⟨at_,i,by omega,l39,hi,rfl,rfl⟩),q3,kk⟩
  simp [ay,ND,List.map_drop]
end
end LD
namespace LD
open PySem
section
variable {P:Nat->Option Df}(hb:HasS P)(hq:pF P)(he:P 44=some ⟨2,5,dH⟩){M:Mem}
include hb hq he
theorem uP (n:Nat){m:aX}{a b:List Nat}(hm:a9 m)(h1:bo m a)(h2:bo m b):ah (aq P (n+3) 140 [m.d,.lst (a.map nD),.lst (b.map nD)] M) fun d M'=>d=ez (bS m a b)/\Sub M M':=by
 have bb:=pY hb.toHasB (n+1) (M:=M) hm
 refine aA hq.parted rfl ?_
 simp [iw,bb]
 refine aQ (mV hb.toHasB he n (M:=M) hm h1.2) fun d M1 ⟨ed,S1⟩=>?_
 subst ed
 refine aQ (mV hb.toHasB he n (M:=M1) hm h2.2) fun d M2 ⟨ed,S2⟩=>?_
 subst ed
 refine ⟨⟨⟨rfl,rfl⟩,rfl⟩,?_⟩
 refine uw (ds:=(bE m).map fun s=>.tup [aF s,aF (bB m a s),aF (bB m b s)]) (fun i Z M'=>(∀t∈(bE m).take i,bB m a t=bB m b t)/\Sub M M'/\∃x3 x4 x5,Z=[some m.d,some (.lst (a.map nD)),some (.lst (b.map nD)),x3,x4,x5]) (fun d M'=>d=ez (bS m a b)/\Sub M M') ?_ ?_ ⟨by simp,S1.trans S2,none,none,none,rfl⟩ ?_ ?_ ?_
 ·rintro i Z M' _
  simp [j5,bH,LD.ends,iY,Ng]
 ·rintro d M' _
  simp [j5,bH,LD.ends,iY,Ng]
 ·rintro i d Z M' hd ⟨hp,S',x5,x6,x7,rfl⟩
  rw [Mr] at hd
  cases e:(bE m)[i]? with
  |none=>rw [e] at hd;cases hd
  | some s =>
    rw [e] at hd
    cases LO hd
    refine ⟨_,rfl,?_⟩
    by_cases c:bB m a s=bB m b s
    ·simp [kF,c]
     refine ⟨?_,S'⟩
     intro t ht
     rw [MY,e] at ht
     rcases Ms.mp ht with z|z
     ·exact hp t z
     ·simp at z;subst z;exact c
    ·simp [kF,c]
     exact ⟨by rw [qi e hp c];rfl,S'⟩
 ·rintro Z M' ⟨hp,S',x5,x6,x7,rfl⟩
  simp at hp ⊢
  exact ⟨by rw [qh (by simpa [MV] using hp)];rfl,S'⟩
 ·rintro d M' ⟨rfl,S'⟩
  simp [S']
theorem tu (n:Nat){m:aX}{a b:List Nat}(hm:a9 m):aq P (n+2) 40 [ez (bS m a b),ez (bS m a b)] M=.ok (.bl true) M:=by
 cases e:bS m a b with
 | none =>
   refine aw (aA hb.same rfl ?_)
   simp [dm,bu,ez,jv]
 | some s =>
   have:=mB s (List.mem_of_find?_eq_some e)
   have p2:=hm.p2
   exact mH hb.toHasS0 n (by rw [this.1];omega)
end
theorem zB {P:Nat->Option Df}{f g n:Nat}{d:Df}{ds:List D}{M:Mem}(e1:P f=some d)(e2:P g=some d):aq P (n+1) f ds M=aq P (n+1) g ds M:=by
 show (match P f with|none=>Res.bad|some d=>gp (aq P n) d ds M)=(match P g with|none=>Res.bad|some d=>gp (aq P n) d ds M)
 rw [e1,e2]
section
variable {P:Nat->Option Df}(h:HasM P)(ho:vU P)(hq:pF P){M:Mem}{m:aX}{r:List Nat}
include h ho hq
theorem wQ (n:Nat)(hr:bo m r):aq P (n+1) 89 [m.d,ay r] M=.ok (nD (vE m r)) M:=by
 rw [zB (d:=⟨2,2,eJ⟩) hq.price ho.summed]
 exact kQ h.toHasM0 ho.summed n .l (LR hr.1 (by decide)) hr.2
end
noncomputable def nh (a b c:Int):D:=.lst [.int a,.int b,.int c]
noncomputable def FZ:List D:=[nh 0 1 2,nh 0 2 1,nh 1 0 2,nh 1 2 0,nh 2 0 1,nh 2 1 0]
theorem Dx:∀t:Nat,t<6->∃xs:List Nat,FZ[t]?=some (.lst (xs.map nD))/\xs.length=3/\∀x∈xs,x<3
 |0,_=>⟨[0,1,2],rfl,rfl,by decide⟩
 |1,_=>⟨[0,2,1],rfl,rfl,by decide⟩
 |2,_=>⟨[1,0,2],rfl,rfl,by decide⟩
 |3,_=>⟨[1,2,0],rfl,rfl,by decide⟩
 |4,_=>⟨[2,0,1],rfl,rfl,by decide⟩
 |5,_=>⟨[2,1,0],rfl,rfl,by decide⟩
 |n+6,h=>by omega
theorem wO {P:Nat->Option Df}(hq:pF P)(n:Nat){M:Mem}:aq P (n+1) 141 [] M=.ok (.lst FZ) M:=by
 refine aw (aA hq.orders rfl ?_)
 show ah (iz (aq P n) [] M) _
 have l3:∀{Z:Env}{a b c:Int},bQ false (ae (gC (.int a)) (ae (gC (.int b)) (ae (gC (.int c)) ai))) Z M=.ok (nh a b c) M:=fun {Z a b c}=>ig (au rfl (au rfl (au rfl bw))) (by simp)
 exact dq (ig (au l3 (au l3 (au l3 (au l3 (au l3 (au l3 bw)))))) (by simp)) ⟨rfl,rfl⟩
theorem rE {P:Nat->Option Df}(h:HasS0 P)(n:Nat){M:Mem}{m:aX}{r:List Nat}(hm:a9 m)(hr:∀i∈r,i<m.deeds.length):aq P (n+3) 40 [.tup ((ends m r).map aF),.tup ((ends m r).map aF)] M=.ok (.bl true) M:=by
 have bl:=nv hm
 have p2:=hm.p2
 refine pT h (n+2) (aL (by simp [LD.ends];omega)) fun d hd=>?_
 obtain ⟨s,hs,rfl⟩:=Mz.mp hd
 obtain ⟨b,hb,rfl⟩:=Mz.mp hs
 have:=mq hm hr (mB b hb)
 exact mH h n (by rw [this.1];omega)
section
variable {P:Nat->Option Df}(h:HasM P)(ho:vU P)(ha:tj P)(hq:pF P){M:Mem}{k e:Nat}{m:aX}{r:List Nat}{hs:List (List Nat)}
include h ho ha hq
theorem E1 (n:Nat){later:List (List Nat)}{told:D}(hm:a9 m)(hr:bo m r)(hh:∀x∈hs,bo m x)(hz:hs.length<=1000)(c:HJ m hs r later told)(s:bG M k e m r hs) :
 ∃hs' r',later=hs'++[r']/\bo m r'/\(∀x∈hs',bo m x)/\hs'.length<=hs.length+1/\ah (aq P (n+16) 139 [.fn (aU k),told] M) fun d M'=>d=ez (bS m r r')/\bG M' k e m r' hs'/\fz [k,e] M M':=by
 rcases c with ⟨hs0,r0,rfl,rfl,rfl⟩|⟨a,ha1,rfl,rfl⟩|⟨a,i,ha1,h40,hi,rfl,rfl⟩
 ·have hr0:=hh r0 (by simp)
  refine ⟨hs0,r0,rfl,hr0,fun x hx=>hh x (by simp [hx]),by simp;omega,?_⟩
  refine aA hq.do_ rfl ?_
  show ah (d8 (aq P (n+15)) [some (.fn (aU k)),some (.tup [])] M) _
  unfold d8
  refine br (bK (eI (w:=false) (iJ rfl) rfl rfl)) (bI ?_)
  rw [vv,bK (b:=true) (eI (aj rfl) (gm (xs:=[]) rfl (by simp)) (pB rfl rfl rfl))]
  show ah (cq _ _ _ _ _ _ _) _
  rw [dW (aj rfl) s.ob bw]
  exact zm h ho ha (n+1) hm hr hr0 s
 ·have hr':bo m (r.take a++r.drop (a+1)):=by
   have:=hr.1
   refine ⟨by simp;omega,fun j hj=>?_⟩
   rcases Ms.mp hj with z|z
   ·exact hr.2 j (MP z)
   ·exact hr.2 j (NJ z)
  refine ⟨hs++[r],_,rfl,hr',fun x hx=>(Ms.mp hx).elim (hh x) fun z=>by simp at z;subst z;exact hr,by simp,?_⟩
  refine aA hq.do_ rfl ?_
  show ah (d8 (aq P (n+15)) [some (.fn (aU k)),some (.tup [nD a])] M) _
  unfold d8
  refine br (bK (eI (w:=false) (iJ rfl) rfl rfl)) (bI ?_)
  rw [vv,bK (b:=false) (eI (aj rfl) (gm (xs:=[]) rfl (by simp)) (pB rfl rfl rfl))]
  show ah (cq _ _ _ _ _ _ _) _
  rw [dW (aj rfl) s.ob (au (c7 (d:=nD a) (aj rfl) rfl rfl) bw)]
  exact CP h ho ha n hm hr ha1 hz s
 ·have hr':bo m (r.take a++[i]++r.drop a):=by
   refine ⟨by simp;omega,fun j hj=>?_⟩
   rcases Ms.mp hj with z|z
   ·rcases Ms.mp z with z|z
    ·exact hr.2 j (MP z)
    ·simp at z;omega
   ·exact hr.2 j (NJ z)
  refine ⟨hs++[r],_,rfl,hr',fun x hx=>(Ms.mp hx).elim (hh x) fun z=>by simp at z;subst z;exact hr,by simp,?_⟩
  refine aA hq.do_ rfl ?_
  show ah (d8 (aq P (n+15)) [some (.fn (aU k)),some (.tup [nD a,nD i])] M) _
  unfold d8
  refine xT (bK (eI (w:=true) (iJ rfl) rfl rfl)) (bI ?_)
  rw [dW (aj rfl) s.ob (au (c7 (d:=nD a) (aj rfl) rfl rfl) (au (c7 (d:=nD i) (aj rfl) rfl rfl) bw))]
  exact CN h ho ha n hm hr ha1 h40 hi hz s
theorem pV (hb:HasS P)(he:P 44=some ⟨2,5,dH⟩)(n:Nat){t:Nat}(ht:t<6)(hm:a9 m)(hr:bo m r)(s:bG M k e m r hs):ah (aq P (n+14) 142 [.fn (aU k),m.d,ay r,nD t] M) fun d M'=>d=.bl true/\Sub M M':=by
 obtain ⟨xs,ex,lx,x3⟩:=Dx t ht
 have l40:=hr.1
 refine aA hq.right rfl ?_
 show ah (eQ (aq P (n+13)) [some (.fn (aU k)),some m.d,some (ay r),some (nD t),none,none] M) _
 unfold eQ
 have el:az false .add (aH (av 141 (aq P (n+13)) ai) (aa 3)) (bQ false (ae (gI 0) (ae (gI 1) (ae (gI 2) ai)))) [some (.fn (aU k)),some m.d,some (ay r),some (nD t),none,none] M=.ok (.lst (xs.map nD++[.int 0,.int 1,.int 2])) M:=by
  obtain ⟨ht',e'⟩:=LJ.mp ex
  exact gJ (c7 ((bD bw).trans (wO hq (n+12))) (aj (x:=nD t) rfl) ((IG ht').trans (congrArg some e'))) (ig (au rfl (au rfl (au rfl bw))) (by simp)) (by simp;omega)
 have ew:xs.map nD++[D.int 0,.int 1,.int 2]=(xs++[0,1,2]).map nD:=by rw [MZ];rfl
 rw [aW,nQ,A6,el,ew]
 refine ⟨rfl,eO (ds:=(xs++[0,1,2]).map nD) (fun _ Z M'=>Sub M M'/\∃a b,Z=[some (.fn (aU k)),some m.d,some (ay r),some (nD t),a,b]) (fun _ _ _ _=>rfl) ⟨.refl,none,none,rfl⟩ ?_ ?_⟩
 ·rintro i d Z M' hd ⟨S,a,b,rfl⟩
  obtain ⟨v,hv,rfl⟩:∃v,v<3/\d=nD v:=by
   obtain ⟨v,hv,rfl⟩:=Mz.mp (MJ hd)
   rcases Ms.mp hv with z|z
   ·exact ⟨v,x3 v z,rfl⟩
   ·simp at z;exact ⟨v,by omega,rfl⟩
  refine ⟨_,rfl,?_⟩
  have s':∀{M':Mem},Sub M M'->bG M' k e m r hs:=fun S=>⟨S.get s.ob,S.get s.er⟩
  have last:∀{M':Mem}{b:Option D},Sub M M'->ah (ag (aT (eU (aE (aR .eq (aa 4) (gI 1))) (bN (aE (av 40 (aq P (n+13)) (ae (cq 40 131 (aq P (n+13)) (aa 0) ai) (ae (av 89 (aq P (n+13)) (ae (aa 1) (ae (aa 2) ai))) ai)))))) rF ak) (ag (aT (eU (aE (aR .eq (aa 4) (gI 2))) (bN (aE (av 40 (aq P (n+13)) (ae (cq 40 132 (aq P (n+13)) (aa 0) ai) (ae (av 44 (aq P (n+13)) (ae (aa 1) (ae (aa 2) ai))) ai)))))) rF ak) ak) [some (.fn (aU k)),some m.d,some (ay r),some (nD t),some (nD v),b] M')
   fun fl M'=>∃ρ',fl=.next ρ'/\Sub M M'/\∃a b,ρ'=[some (.fn (aU k)),some m.d,some (ay r),some (nD t),a,b]:=fun {M' b} S=>by
   refine br (Hx (fo (c:=1) rfl) fun _=>ie (b:=true) (bK ?_)) ?_
   ·rw [bD (au ((dW (aj rfl) (s' S).ob bw).trans (zl h ho (n+11) hr (s' S))) (au ((bD (au (aj rfl) (au (aj rfl) bw))).trans (wQ h ho hq (n+12) hr)) bw))]
    exact kS hb.toHasS0 (n+12) _
   ·refine l8 (R:=fun M'=>Sub M M') ?_ fun M2 S2=>?_
    ·have t2:(aE (aR .eq (aa 4) (gI 2)):GT) [some (.fn (aU k)),some m.d,some (ay r),some (nD t),some (nD v),b] M'=.ok ((v:Int)==((2:Nat):Int)) M':=fo rfl
     rw [HR,t2,fJ]
     split
     ·rw [nM,ka,gE,bp,dW (aj rfl) (s' S).ob bw,CS h ho ha (n+2) hm hr (s' S)]
      show ah (ae (av 44 _ _) ai _ _) _
      rw [bp,bD (au (aj rfl) (au (aj rfl) bw))]
      refine aQ (mV hb.toHasB he (n+11) hm hr.2) ?_
      rintro d M3 ⟨rfl,S3⟩
      show ah (aq P (n+13) 40 [iu m r,.tup ((ends m r).map aF)] M3) _
      rw [yz,rE hb.toHasS0 (n+10) hm hr.2]
      exact ⟨true,rfl,rfl,(S.trans .app).trans S3⟩
     ·exact ⟨rfl,S⟩
    ·exact ⟨_,rfl,S2,_,_,rfl⟩
  refine bZ (fo (c:=0) rfl) (fun _=>?_) fun _=>last S
  have S1:Sub M (M'++[r.map nD]):=S.trans .app
  refine bY (k:=fun x M2=>x=.cell M'.length/\M2=M'++[r.map nD]) ?_ ?_
  ·rw [dW (aj rfl) (s' S).ob bw,tS h ho (n+12) l40 (s' S)]
   exact ⟨rfl,rfl⟩
  rintro x M2 ⟨rfl,rfl⟩
  have ec:(M'++[r.map nD])[M'.length]?=some (r.map nD):=by simp
  refine br (ie (b:=true) (bK ?_)) ?_
  ·rw [bD (au (aj (x:=.cell M'.length) rfl) (au (aj (x:=ay r) rfl) bw))]
   exact wL hb.toHasS0 (n+11) (.c ec) .l (by omega)
  ·refine oC (k:=M'.length) (aj rfl) rfl ec (L5 (by simp;omega:_<2000) (aL (by decide))) ?_
   refine last ⟨by simp;have:=S.len;omega,fun j hj=>?_⟩
   rw [LS (by have:=S.len;omega)]
   exact S1.at' j hj
 ·rintro Z M' ⟨S,a,b,rfl⟩
  rw [d7]
  exact dq rfl ⟨rfl,S⟩
end
end LD
namespace LD
open PySem
structure dI (M:Mem) (p B hc k e lc:Nat) (m:aX) (r:List Nat) (hs:List (List Nat)) (lg:List (Nat×List Nat)):Prop where
 pen:aS M p B
 h1:p<hc
 h2:hc<k
 h3:k<e
 h4:e<lc
 hd:∃ds,M[hc]?=some ds
 sh:bG M k e m r hs
 lgA:M[lc]?=some (lg.map fun q=>.tup [.cell q.1,ay q.2])
 ok:∀q∈lg,lc<q.1/\M[q.1]?=some (q.2.map nD)/\q.2.length<=40
theorem aS.of {M M':Mem}{p B:Nat}(h:aS M p B)(e:∀j,j<=p->M'[j]?=M[j]?):aS M' p B:=by
 obtain ⟨c,cells,a,s,e1,e2,hc,q⟩:=h.ex
 exact ⟨c,cells,a,s,(e p (LP _)).trans e1,(e c (Nat.le_of_lt hc)).trans e2,hc,q⟩
section
variable {M M':Mem}{p B hc k e lc:Nat}{m:aX}{r:List Nat}{hs:List (List Nat)}{lg:List (Nat×List Nat)}
theorem dI.sub (h:dI M p B hc k e lc m r hs lg)(s:Sub M M'):dI M' p B hc k e lc m r hs lg:=
 ⟨h.pen.of fun j hj=>s.at' j (NA hj h.pen.lt),h.h1,h.h2,h.h3,h.h4,h.hd.elim fun ds e=>⟨ds,s.get e⟩,⟨s.get h.sh.ob,s.get h.sh.er⟩,s.get h.lgA,fun q hq=>⟨(h.ok q hq).1,s.get (h.ok q hq).2.1,(h.ok q hq).2.2⟩⟩
theorem dI.keep {B':Nat}(h:dI M p B hc k e lc m r hs lg)(s:bg p M M')(hp:aS M' p B'):dI M' p B' hc k e lc m r hs lg:=by
 have a:=h.h1;have b:=h.h2;have c:=h.h3;have d:=h.h4
 exact ⟨hp,a,b,c,d,h.hd.elim fun ds e=>⟨ds,s.get e (by omega)⟩,⟨s.get h.sh.ob (by omega),s.get h.sh.er (by omega)⟩,s.get h.lgA (by omega),fun q hq=>⟨(h.ok q hq).1,s.get (h.ok q hq).2.1 (by have:=(h.ok q hq).1;omega),(h.ok q hq).2.2⟩⟩
theorem dI.shop {r':List Nat}{hs':List (List Nat)}(h:dI M p B hc k e lc m r hs lg)(s:fz [k,e] M M')(hp:bG M' k e m r' hs'):dI M' p B hc k e lc m r' hs' lg:=by
 have a:=h.h1;have b:=h.h2;have c:=h.h3;have d:=h.h4
 have n:∀{j},j<k\/e<j->j∉[k,e]:=fun {j} z=>by simp;omega
 exact ⟨h.pen.of fun j hj=>s.at' j (NA hj h.pen.lt) (n (by omega)),a,b,c,d,h.hd.elim fun ds e=>⟨ds,s.get e (n (by omega))⟩,hp,s.get h.lgA (n (by omega)),fun q hq=>⟨(h.ok q hq).1,s.get (h.ok q hq).2.1 (n (by have:=(h.ok q hq).1;omega)),(h.ok q hq).2.2⟩⟩
theorem dI.hand {ds:List D}(h:dI M p B hc k e lc m r hs lg):dI (M.set hc ds) p B hc k e lc m r hs lg:=by
 have a:=h.h1;have b:=h.h2;have c:=h.h3;have d:=h.h4
 obtain ⟨d0,e0⟩:=h.hd
 have g:∀{j xs},M[j]?=some xs->j≠hc->(M.set hc ds)[j]?=some xs:=fun {j xs} e n=>by rw [LS (MR n)];exact e
 exact ⟨h.pen.of fun j hj=>LS (by omega),a,b,c,d,⟨ds,Md (gy e0)⟩,⟨g h.sh.ob (by omega),g h.sh.er (by omega)⟩,g h.lgA (by omega),fun q hq=>⟨(h.ok q hq).1,g (h.ok q hq).2.1 (by have:=(h.ok q hq).1;omega),(h.ok q hq).2.2⟩⟩
theorem dI.log {j:Nat}{r0:List Nat}(h:dI M p B hc k e lc m r hs lg)(hj:lc<j)(ej:M[j]?=some (r0.map nD))(h0:r0.length<=40):dI (M.set lc (lg.map (fun q=>.tup [.cell q.1,ay q.2])++[.tup [.cell j,ay r0]])) p B hc k e lc m r hs (lg++[(j,r0)]):=by
 have a:=h.h1;have b:=h.h2;have c:=h.h3;have d:=h.h4
 have g:∀{ds:List D}{j xs},M[j]?=some xs->j≠lc->(M.set lc ds)[j]?=some xs:=fun {ds j xs} e n=>by rw [LS (MR n)];exact e
 refine ⟨h.pen.of fun j hj=>LS (by omega),a,b,c,d,h.hd.elim fun ds e=>⟨ds,g e (by omega)⟩,⟨g h.sh.ob (by omega),g h.sh.er (by omega)⟩,?_,fun q hq=>?_⟩
 ·rw [Md (gy h.lgA),MZ]
  rfl
 ·rcases Ms.mp hq with z|z
  ·exact ⟨(h.ok q z).1,g (h.ok q z).2.1 (by have:=(h.ok q z).1;omega),(h.ok q z).2.2⟩
  ·obtain rfl:=Nn.mp z
   exact ⟨hj,g ej (MU hj),h0⟩
end
noncomputable def pf (c:Call):GS:=ag (aJ (.tup [10,11]) (av 138 c (ae (aa 1) (ae (aa 3) (ae (aa 7) ai))))) (ag (aJ (.one 12) (av 139 c (ae (aa 6) (ae (aa 11) ai)))) (ag (aT (bN (aE (av 40 c (ae (aa 12) (ae (av 140 c (ae (aa 3) (ae (aH (aa 7) (dX (gI 1))) (ae (aH (aa 10) (dX (gI 1))) ai)))) ai))))) rF ak) (ag (w5 (mh (aa 5))) (ag (aJ (.one 7) (aa 10)) (ag (aT (bN (aE (av 142 c (ae (aa 6) (ae (aa 3) (ae (aH (aa 7) (dX (gI 1))) (ae (av 31 c (ae (aa 1) (ae (gI 6) ai))) ai))))))) rF ak) (ag (aJ (.one 13) (cq 40 130 c (aa 6) ai)) (ag (fB (aa 8) (cp (ae (aa 13) (ae (aV (.list false) (ae (aa 13) ai)) ai)))) ak)))))))
theorem Ex {Z:Env}{M:Mem}{a:GE}{t:cy}{rest:GS}{kd:D->Mem->Prop}{kf:Fl->Mem->Prop}(h:ah (a Z M) kd)(hk:∀x M',kd x M'->∃ρ1,bW t x Z=some ρ1/\ah (rest ρ1 M') kf):ah (ag (aJ t a) rest Z M) kf:=by
 obtain ⟨x,M',e,q⟩:=iE.mp h
 obtain ⟨ρ1,e1,q1⟩:=hk x M' q
 simp only [aW]
 unfold aJ
 rw [e]
 show ah ((bV M' (bW t x Z)).bind _) _
 rw [e1]
 exact q1
theorem nq {Z:Env}{M:Mem}{j:Nat}{l:List (List Nat)}{x:List Nat}(e:Z[j]?.getD none=some (.lst ((l++[x]).map ay))):aH (aa j) (dX (gI 1)) Z M=.ok (ay x) M:=by
 rw [MZ] at e
 exact uo (aj e)
structure vV (P:Nat->Option Df):Prop where
 m:HasM P
 p:HasP P
 row:P 35=some ⟨3,6,gH⟩
 s:HasS P
 a:tj P
 o:vU P
 e:pF P
 ends:P 44=some ⟨2,5,dH⟩
 law:P 143=some ⟨1,14,mC⟩
section
variable {P:Nat->Option Df}(h:vV P){M:Mem}{p B hc k e lc:Nat}{m:aX}{r:List Nat}{hs:List (List Nat)}{lg:List (Nat×List Nat)}
include h
theorem EZ {x0 x2 x4 x9 x10 x11 x12 x13:Option D}(hm:a9 m)(hr:bo m r)(hh:∀x∈hs,bo m x)(hl:hs.length<=40)(lgl:lg.length<=40)(hB:B<=600000)(st:dI M p B hc k e lc m r hs lg) :
 ah (pf (aq P 39) [x0,some (.cell p),x2,some m.d,x4,some (.cell hc),some (.fn (aU k)),some (.lst ((hs++[r]).map ay)),some (.cell lc),x9,x10,x11,x12,x13] M) fun fl M'=>∃r' hs' lg' x10 x11 x12 x13,fl=.next [x0,some (.cell p),x2,some m.d,x4,some (.cell hc),some (.fn (aU k)),some (.lst ((hs'++[r']).map ay)),some (.cell lc),x9,x10,x11,x12,x13]
  /\dI M' p (B+4) hc k e lc m r' hs' lg'/\bo m r'/\(∀x∈hs',bo m x)/\hs'.length<=hs.length+1/\lg'.length=lg.length+1:=by
 unfold pf
 refine Ex (kd:=fun d M'=>∃later told,d=.tup [.lst (later.map ay),told]/\HJ m hs r later told/\aS M' p (B+3)/\bg p M M') ?_ ?_
 ·rw [bD (au (aj rfl) (au (aj rfl) (au (aj rfl) bw)))]
  exact uQ h.p.toHasP0 h.e 36 hm hr (by omega) st.pen (by omega)
 rintro _ M1 ⟨later,told,rfl,cg,p1,k1⟩
 refine ⟨_,rfl,?_⟩
 have st1:=st.keep k1 p1
 obtain ⟨hs',r',el,hr',hh',hl',ok⟩:=E1 h.m h.o h.a h.e 23 hm hr hh (by omega) cg st1.sh
 subst el
 refine bY (k:=fun d M'=>d=ez (bS m r r')/\bG M' k e m r' hs'/\fz [k,e] M1 M') ?_ ?_
 ·rw [bD (au (aj rfl) (au (aj rfl) bw))]
  exact ok
 rintro _ M2 ⟨rfl,s2,k2⟩
 have st2:=st1.shop k2 s2
 refine l8 (R:=fun M'=>Sub M2 M') ?_ fun M3 S3=>?_
 ·rw [nM,ka,gE,bp,aj (x:=ez (bS m r r')) rfl]
  show ah (ae (av 140 _ _) ai _ M2) _
  rw [bp,bD (au (aj rfl) (au (nq (l:=hs) (x:=r) rfl) (au (nq (l:=hs') (x:=r') rfl) bw)))]
  refine aQ (uP h.s h.e h.ends 36 hm hr hr') ?_
  rintro _ M3 ⟨rfl,S3⟩
  show ah (aq P 39 40 [ez (bS m r r'),ez (bS m r r')] M3) _
  rw [tu h.s h.e h.ends 37 hm]
  exact ⟨true,rfl,rfl,S3⟩
 have st3:=st2.sub S3
 obtain ⟨ds,eds⟩:=st3.hd
 refine Fm (aj rfl) eds ?_
 have st4:=st3.hand (ds:=ds.reverse)
 generalize M3.set hc ds.reverse=M4 at st4
 refine cn (dG (aj rfl)) ?_
 refine l8 (R:=fun M'=>dI M' p (B+4) hc k e lc m r' hs' lg) ?_ fun M5 st5=>?_
 ·rw [nM,ka,gE,bp,aj (x:=.fn (aU k)) rfl]
  show ah (ae (aa 3) _ _ M4) _
  rw [bp,aj (x:=m.d) rfl]
  show ah (ae (aH _ _) _ _ M4) _
  rw [bp,nq (l:=hs') (x:=r') rfl]
  show ah (ae (av 31 _ _) ai _ M4) _
  rw [bp]
  refine aQ (eZ h.p.toHasP0 37 (many:=6) (p:=p) rfl rfl st4.pen (by omega) (by decide) (by decide)) ?_
  rintro _ M5 ⟨t,rfl,ht,p5,k5⟩
  have st5:=st4.keep k5 p5
  show ah (aq P 39 142 [.fn (aU k),m.d,ay r',nD t] M5) _
  refine aQ (pV h.m h.o h.a h.e h.s h.ends 25 ht hm hr' st5.sh) ?_
  rintro _ M6 ⟨rfl,S6⟩
  exact ⟨true,rfl,rfl,st5.sub S6⟩
 refine bY (k:=fun x M'=>x=.cell M5.length/\M'=M5++[r'.map nD]) ?_ ?_
 ·rw [dW (aj rfl) st5.sh.ob bw,tS h.m h.o 38 hr'.1 st5.sh]
  exact ⟨rfl,rfl⟩
 rintro _ _ ⟨rfl,rfl⟩
 have st6:=st5.sub (Sub.app (X:=[r'.map nD]))
 have ec:(M5++[r'.map nD])[M5.length]?=some (r'.map nD):=by simp
 have lc5:lc<M5.length:=gy st5.lgA
 have l40:=hr'.1
 refine oC (k:=lc) (z:=.tup [.cell M5.length,ay r']) (aj rfl) (gm (au (aj (x:=.cell M5.length) rfl) (au (x:=ay r') ?_ bw)) (by simp)) st6.lgA (L5 (by simp;omega:_<2000) (aL (by decide))) ?_
 ·rw [jZ (au (aj (x:=.cell M5.length) rfl) bw)]
  exact aw ((bf.c ec).list.mpr (cL.mpr ⟨aL (by simp;omega),rfl,rfl⟩))
 ·exact ⟨r',hs',lg++[(M5.length,r')],_,_,_,_,rfl,st6.log lc5 ec l40,hr',hh',hl',by simp⟩
end
end LD
namespace LD
open PySem
noncomputable def wy (c:Call):GS:=(ag (aJ (.one 3) (av 34 c (ae (av 30 c (ae (aa 1) ai)) (ae (gI 4) (ae (gI 2) (ae (gI 6) ai)))))) (ag (aJ (.one 4) (av 35 c (ae (aa 1) (ae (aa 3) (ae (gI 8) ai))))) (ag (aJ (.one 5) (aV (.list true) (ae (aa 4) ai))) (ag (aJ (.one 6) (mi 40 129 c (ae (aa 3) (ae (aa 5) ai)))) (ag (aT (aE (aR .ne (aa 5) (aa 4))) rF ak) (ag (fB (aa 5) (gI 0)) (ag (aJ (.one 7) (bQ false (ae (aa 4) ai))) (ag (aJ (.one 8) (bQ true ai)) (ag (aT (bN (aE (av 142 c (ae (aa 6) (ae (aa 3) (ae (aa 4) (ae (av 31 c (ae (aa 1) (ae (gI 6) ai))) ai))))))) rF ak) (ag (fA (.one 9) (dF (az false .add (gI 6) (av 31 c (ae (aa 1) (ae (gI 9) ai))))) (pf c)) (ag (aT (aE (aR .ne (b7 false 2 (.tup [0,1]) (eY (aa 8)) (uv (aE (aR .ne (aa 0) (aa 1))) (bU (gI 1)))) (bQ false ai))) rF ak) ak)))))))))))
section
variable {P:Nat->Option Df}(h:vV P){M:Mem}{p B:Nat}
include h
theorem CH {x0 x2 x3 x4 x5 x6 x7 x8 x9 x10 x11 x12 x13:Option D}(hB:B<=10000)(hp:aS M p B) :
 ah (wy (aq P 39) [x0,some (.cell p),x2,x3,x4,x5,x6,x7,x8,x9,x10,x11,x12,x13] M) fun fl M'=>aS M' p (B+1000)/\∃y3 y4 y5 y6 y7 y8 y9 y10 y11 y12 y13,fl=.next [x0,some (.cell p),x2,y3,y4,y5,y6,y7,y8,y9,y10,y11,y12,y13]:=by
 unfold wy
 refine bY (k:=fun d M'=>∃m:aX,d=m.d/\a9 m/\aS M' p (B+300)) ?_ ?_
 ·rw [gE,bp,bD (au (aj (x:=.cell p) rfl) bw)]
  refine aQ (CY h.p.toHasP0 38 hp) ?_
  rintro _ M1 ⟨rfl,p1,k1⟩
  show ah (aq P 39 34 [.cell p,nD 4,nD 2,nD 6] M1) _
  refine aQ (uO h.p 34 p1 (by omega) (by decide) (by decide) (by decide) (by decide) (by decide) (by decide)) ?_
  rintro d M2 ⟨m,e,hm,_,_,_,p2,_⟩
  exact ⟨m,e,hm,p2⟩
 rintro _ M1 ⟨m,rfl,hm,p1⟩
 refine bY (k:=fun d M'=>∃r:List Nat,d=ay r/\bo m r/\r.length<=8/\aS M' p (B+350)) ?_ ?_
 ·rw [bD (au (aj (x:=.cell p) rfl) (au (aj (x:=m.d) rfl) (au (x:=nD 8) rfl bw)))]
  refine aQ (CT h.p h.row 36 hm p1 (by omega) (by decide)) ?_
  rintro d M2 ⟨r,e,hr,h8,p2,_⟩
  exact ⟨r,e,hr,h8,p2⟩
 rintro _ M2 ⟨r,rfl,hr,h8,p2⟩
 refine bY (k:=fun d M'=>d=.cell M2.length/\M'=M2++[r.map nD]) ?_ ?_
 ·rw [jZ (au (aj (x:=ay r) rfl) bw)]
  exact (bf.l (M:=M2) (r:=r)).list.mpr (iW.mpr ⟨aL (by simp;omega),rfl,rfl⟩)
 rintro _ _ ⟨rfl,rfl⟩
 have p3:aS (M2++[r.map nD]) p (B+350):=p2.app
 have ec:(M2++[r.map nD])[M2.length]?=some (r.map nD):=by simp
 have lp:=p2.lt
 generalize hM3:M2++[r.map nD]=M3 at p3 ec
 have l3:M3.length=M2.length+1:=by rw [<- hM3];simp
 refine bY (k:=fun d M'=>d=.fn (aU M3.length)/\M'=M3++[[.int 40,m.d,ay r,.cell (M3.length+1)],[]]) ?_ ?_
 ·refine DQ (au (aj (x:=m.d) rfl) (au (aj (x:=.cell M2.length) rfl) bw)) ?_
  rw [CQ h.m h.o 29 (.c ec) hm hr]
  exact ⟨rfl,rfl,rfl⟩
 rintro _ _ ⟨rfl,rfl⟩
 have S4:Sub M3 (M3++[[.int 40,m.d,ay r,.cell (M3.length+1)],[]]):=.app
 have sh:bG (M3++[[.int 40,m.d,ay r,.cell (M3.length+1)],[]]) M3.length (M3.length+1) m r []:=⟨by simp,by simp⟩
 have p4:=p3.app (X:=[[.int 40,m.d,ay r,.cell (M3.length+1)],[]])
 have ec4:=S4.get ec
 generalize hM4:M3++[[.int 40,m.d,ay r,.cell (M3.length+1)],[]]=M4 at S4 sh p4 ec4
 have l4:M4.length=M3.length+2:=by rw [<- hM4];simp
 refine br (bK (eI (w:=false) (aj (x:=.cell M2.length) rfl) (aj (x:=ay r) rfl) ?_)) ?_
 ·refine jY (v:=true) ?_ ?_ ?_
  ·rw [(bf.c ec4).vw];exact gQ 63 r
  ·exact gQ 63 r
  ·rw [(bf.c ec4).vw];exact (lN r r).trans (by simp)
 refine oC (k:=M2.length) (z:=.int 0) (aj rfl) rfl ec4 (L5 (by simp;omega:_<2000) (aL (by decide))) ?_
 refine cn (dG (ig (au (aj (x:=ay r) rfl) bw) (by simp))) ?_
 have l5:(M4.set M2.length (r.map nD++[.int 0])).length=M4.length:=by simp
 have st0:dI (M4.set M2.length (r.map nD++[.int 0])++[[]]) p (B+350) M2.length M3.length (M3.length+1) M4.length m r [] []:=by
  have g:∀{j xs},M4[j]?=some xs->j≠M2.length->(M4.set M2.length (r.map nD++[.int 0])++[[]])[j]?=some xs:=fun {j xs} e n=>by
   rw [Ma (by rw [l5];exact gy e),LS (MR n)];exact e
  refine ⟨(p4.setq lp).app,lp,by omega,by omega,by omega,⟨r.map nD++[.int 0],?_⟩,⟨g sh.ob (by omega),g sh.er (by omega)⟩,?_,fun q hq=>by cases hq⟩
  ·rw [Ma (by rw [l5];exact gy ec4),Md (gy ec4)]
  ·rw [MF (by rw [l5];exact LP _),l5,Nat.sub_self];rfl
 rw [<- l5] at st0
 generalize M4.set M2.length (r.map nD++[.int 0])=M5 at st0 ⊢
 refine bY (k:=fun d M'=>d=.cell M5.length/\M'=M5++[[]]) ?_ ?_
 ·rw [BZ,cU]
  exact iW.mpr ⟨NY _,rfl,rfl⟩
 rintro _ _ ⟨rfl,rfl⟩
 generalize M2.length=hc at st0 ⊢
 generalize M3.length+1=e at st0 ⊢
 generalize M3.length=k at st0 ⊢
 generalize M5++[[]]=M6 at st0 ⊢
 generalize M5.length=lc at st0 ⊢
 refine l8 (R:=fun M'=>dI M' p (B+351) hc k e lc m r [] []) ?_ fun M7 st7=>?_
 ·rw [nM,ka,gE,bp,aj (x:=.fn (aU k)) rfl]
  show ah (ae (aa 3) _ _ M6) _
  rw [bp,aj (x:=m.d) rfl]
  show ah (ae (aa 4) _ _ M6) _
  rw [bp,aj (x:=ay r) rfl]
  show ah (ae (av 31 _ _) ai _ M6) _
  rw [bp]
  refine aQ (eZ h.p.toHasP0 37 (many:=6) (p:=p) rfl rfl st0.pen (by omega) (by decide) (by decide)) ?_
  rintro _ M5 ⟨t,rfl,ht,p5,k5⟩
  have st5:=st0.keep k5 p5
  show ah (aq P 39 142 [.fn (aU k),m.d,ay r,nD t] M5) _
  refine aQ (pV h.m h.o h.a h.e h.s h.ends 25 ht hm hr st5.sh) ?_
  rintro _ M6 ⟨rfl,S6⟩
  exact ⟨true,rfl,rfl,st5.sub S6⟩
 rw [aW,nQ,ia,jy]
 show ah (av 31 _ _ _ M7) _
 refine aQ (eZ h.p.toHasP0 37 (many:=9) (p:=p) rfl rfl st7.pen (by omega) (by decide) (by decide)) ?_
 rintro _ M8 ⟨v,rfl,hv,p8,k8⟩
 have st8:=st7.keep k8 p8
 refine ⟨6+(v:Int),rfl,⟨by omega,by omega⟩,?_⟩
 refine eO (ds:=(List.range (6+(v:Int)).toNat).map fun (k:Nat)=>D.int (k:Int)) (fun i Z M'=>∃r1 hs lg y9 y10 y11 y12 y13,Z=[x0,some (.cell p),x2,some m.d,some (ay r),some (.cell hc),some (.fn (aU k)),some (.lst ((hs++[r1]).map ay)),some (.cell lc),y9,y10,y11,y12,y13]/\dI M' p (B+352+4*i) hc k e lc m r1 hs lg/\bo m r1/\(∀x∈hs,bo m x)/\hs.length<=i/\lg.length=i) (fun _ _ _ _=>rfl) ⟨r,[],[],_,_,_,_,_,rfl,st8,hr,(fun x hx=>by cases hx),LP _,rfl⟩ ?_ ?_
 ·rintro i d Z M' hd ⟨r1,hs,lg,y9,y10,y11,y12,y13,rfl,st,hr1,hh,hl,hlg⟩
  have hi:i<15:=by
   have:=(LJ.mp hd).1
   rw [LX,MW] at this
   omega
  refine ⟨_,rfl,?_⟩
  refine aQ (EZ h hm hr1 hh (by omega) (by omega) (by omega) st) ?_
  rintro fl M2 ⟨r2,hs2,lg2,z10,z11,z12,z13,rfl,st2,hr2,hh2,hl2,hlg2⟩
  exact ⟨_,rfl,r2,hs2,lg2,_,_,_,_,_,rfl,st2,hr2,hh2,by omega,by omega⟩
 ·rintro Z M' ⟨r1,hs,lg,y9,y10,y11,y12,y13,rfl,st,hr1,hh,hl,hlg⟩
  rw [d7]
  have ln:lg.length<=14:=by rw [hlg,LX,MW];omega
  refine br (t:=aE _) (bK (eI (x:=.lst []) (y:=.lst []) (w:=false) (aw ?_) rfl rfl)) ?_
  ·rw [jg,A6,aj (x:=.cell lc) rfl]
   refine ⟨rfl,?_⟩
   refine yq (ds:=lg.map fun (q:Nat×List Nat)=>D.tup [.cell q.1,ay q.2]) (fun _=>false) (fun _=>.int 1) (aL (by simp;omega)) st.lgA (fun d hd=>?_) ?_
   ·obtain ⟨q,hq,rfl⟩:=Mz.mp hd
    obtain ⟨_,eq,_⟩:=st.ok q hq
    refine ⟨_,rfl,bK (eI (aj (x:=.cell q.1) rfl) (aj (x:=ay q.2) rfl) ?_),fun z=>by cases z⟩
    refine jY (v:=true) ?_ ?_ ?_
    ·rw [(bf.c eq).vw];exact gQ 63 _
    ·exact gQ 63 _
    ·rw [(bf.c eq).vw];exact (lN _ _).trans (by simp)
   ·rw [List.filter_eq_nil_iff.mpr (fun _ _ z=>by cases z)]
    exact cL.mpr ⟨NY _,rfl,rfl⟩
  ·rw [LX,MW] at st
   exact ⟨st.pen.mono (by omega),_,_,_,_,_,_,_,_,_,_,_,rfl⟩
omit h in
theorem IE (h:vV P)(ns:List Int)(hn:ns.length<=63):∃M,aq P 40 143 [.frz (ns.map D.int)] []=.ok (.bl true) M:=by
 have goal:ah (aq P 40 143 [.frz (ns.map D.int)] []) fun d _=>d=.bl true:=by
  refine aA h.law rfl ?_
  show ah (mC (aq P 39) [some (.frz (ns.map D.int)),none,none,none,none,none,none,none,none,none,none,none,none,none] []) _
  unfold mC
  refine bY (k:=fun d M'=>d=.cell 1/\aS M' 1 0) ?_ ?_
  ·rw [bD (au (aj rfl) bw)]
   exact CV h.p.toHasP0 38 hn
  rintro _ M1 ⟨rfl,p1⟩
  rw [aW,nQ,ia]
  refine ⟨2,rfl,⟨by decide,by decide⟩,?_⟩
  refine eO (ds:=(List.range 2).map fun (k:Nat)=>D.int (k:Int)) (fun i Z M'=>aS M' 1 (1000*i)/\∃y2 y3 y4 y5 y6 y7 y8 y9 y10 y11 y12 y13,Z=[some (.frz (ns.map D.int)),some (.cell 1),y2,y3,y4,y5,y6,y7,y8,y9,y10,y11,y12,y13]) (fun _ _ _ _=>rfl) ⟨p1,_,_,_,_,_,_,_,_,_,_,_,_,rfl⟩ ?_ ?_
  ·rintro i d Z M' hd ⟨hp,y2,y3,y4,y5,y6,y7,y8,y9,y10,y11,y12,y13,rfl⟩
   have hi:i<2:=(LJ.mp hd).1
   refine ⟨_,rfl,?_⟩
   refine aQ (CH h (by omega) hp) ?_
   rintro fl M2 ⟨p2,z3,z4,z5,z6,z7,z8,z9,z10,z11,z12,z13,rfl⟩
   exact ⟨_,rfl,p2.mono (by omega),_,_,_,_,_,_,_,_,_,_,_,_,rfl⟩
  ·rintro Z M' ⟨hp,y2,y3,y4,y5,y6,y7,y8,y9,y10,y11,y12,y13,rfl⟩
   rw [d7]
   exact dq rfl rfl
 obtain ⟨d,M,e,rfl⟩:=iE.mp goal
 exact ⟨M,e⟩
end
end LD
set_option maxHeartbeats 0
namespace K50
open PySem PySem.Spec PyProof.Rows L2 LD
noncomputable def top (i:Nat):Stmt:=PySem.Challenge.pw_leastdeeds_k50_what_a_shop_tells.main.body.getD i (.Pass ⟨0,0,0,0⟩)
noncomputable def q0:Str×Tok:=("leastdeeds.wholes",319)
noncomputable def q1:Str×Tok:=("leastdeeds.machines",330)
noncomputable def q2:Str×Tok:=("leastdeeds.runs",507)
noncomputable def q3:Str×Tok:=("leastdeeds.alike",602)
noncomputable def q4:Str×Tok:=("leastdeeds.shop",618)
noncomputable def q5:Str×Tok:=("law_leastdeeds_k50_what_a_shop_tells",721)
noncomputable def tb:List Ent:=[⟨0,"is_between",top 10,3,["thing","low","high"],120,q0,fb,false,none⟩,
 ⟨1,"is_word",top 18,2,["words","thing"],127,q1,jA,false,none⟩,
 ⟨2,"is_place",top 19,2,["places","thing"],134,q1,iP,false,none⟩,
 ⟨3,"is_cost",top 20,1,["thing"],141,q1,jB,false,none⟩,
 ⟨4,"is_tuple_of",top 21,2,["long","thing"],148,q1,fK,false,none⟩,
 ⟨5,"is_table",top 22,2,["words","thing"],153,q1,iO,false,none⟩,
 ⟨6,"is_double_table",top 23,2,["words","thing"],158,q1,dR,false,none⟩,
 ⟨7,"is_turn",top 24,3,["words","places","parts","at","table","price"],165,q1,fZ,false,none⟩,
 ⟨8,"is_join",top 25,3,["words","places","parts","at","other","table","price"],172,q1,f7,false,none⟩,
 ⟨9,"is_move",top 26,3,["words","places","parts","at","other","price"],179,q1,f6,false,none⟩,
 ⟨10,"is_put",top 27,3,["words","places","parts","at","word","price"],186,q1,gY,false,none⟩,
 ⟨11,"is_deed",top 29,3,["words","places","thing","sort","is_sort"],194,q1,f9,false,none⟩,
 ⟨12,"is_machine",top 30,1,["thing","words","places","deeds"],199,q1,e9,false,none⟩,
 ⟨13,"need_machine",top 31,1,["thing"],206,q1,gX,true,none⟩,
 ⟨15,"beginnings",top 32,1,["machine","words","places","deeds","starts","place"],211,q1,dA,true,none⟩,
 ⟨16,"is_deed_number",top 33,2,["machine","thing"],218,q1,fS,false,none⟩,
 ⟨17,"need_numbers",top 34,2,["machine","row","place","thing"],225,q1,gW,true,none⟩,
 ⟨18,"need_row",top 35,2,["machine","row"],232,q1,kI,true,none⟩,
 ⟨47,"summed_cost",top 36,2,["machine","row"],237,q1,eJ,false,none⟩,
 ⟨20,"turned",top 38,2,["deed","standing","sort","at","table","price"],244,q2,nz,false,none⟩,
 ⟨21,"joined",top 39,2,["deed","standing","sort","at","other","table","price"],251,q2,nE,false,none⟩,
 ⟨22,"moved",top 40,2,["deed","standing","sort","at","other","price"],258,q2,pC,false,none⟩,
 ⟨23,"put_in",top 41,2,["deed","standing","sort","at","word","price"],265,q2,nA,false,none⟩,
 ⟨24,"done",top 43,2,["deed","standing","new_word","at"],273,q2,sY,false,none⟩,
 ⟨25,"all_standing",top 44,3,["machine","row","beginning","standings","number"],280,q2,gZ,false,none⟩,
 ⟨46,"ends_of",top 45,2,["machine","row"],285,q2,gi,false,none⟩,
 ⟨27,"behaviour",top 46,2,["machine","row"],292,q2,hU,true,none⟩,
 ⟨48,"parted",top 48,3,["machine","one","other","one_ends","other_ends","start","one_end","other_end"],299,q3,nB,true,none⟩,
 ⟨129,"__init__",inClass (top 50) 0,3,["self","machine","row"],313,q4,eR,true,some "Shop.__init__"⟩,
 ⟨130,"row",inClass (top 50) 1,1,["self"],320,q4,iR,false,some "Shop.row"⟩,
 ⟨131,"cost",inClass (top 50) 2,1,["self"],327,q4,hZ,false,some "Shop.cost"⟩,
 ⟨132,"behaviour",inClass (top 50) 3,1,["self"],334,q4,eD,false,some "Shop.behaviour"⟩,
 ⟨133,"put",inClass (top 50) 5,3,["self","place","number"],348,q4,iS,true,some "Shop.put"⟩,
 ⟨134,"out",inClass (top 50) 6,2,["self","place"],355,q4,iT,true,some "Shop.out"⟩,
 ⟨135,"back",inClass (top 50) 7,1,["self"],362,q4,h9,true,some "Shop.back"⟩,
 ⟨136,"change",inClass (top 50) 8,2,["self","row"],369,q4,fN,false,some "Shop.change"⟩,
 ⟨137,"give",inClass (top 50) 9,2,["self","row","start"],376,q4,hX,true,some "Shop.give"⟩,
 ⟨28,"_law_spread",top 52,2,["cell","at","primes","one","two","three"],390,q5,fL,false,none⟩,
 ⟨29,"_law_open",top 53,1,["script","cells","k","cell"],397,q5,jI,false,none⟩,
 ⟨30,"_law_anew",top 54,1,["pen"],404,q5,jJ,false,none⟩,
 ⟨31,"_law_take",top 55,2,["pen","many","at","cell","found"],411,q5,mQ,false,none⟩,
 ⟨40,"_law_same",top 56,2,["found","due"],416,q5,dm,false,none⟩,
 ⟨32,"_law_tab",top 57,2,["pen","words","kind","word","other","found"],421,q5,iQ,false,none⟩,
 ⟨33,"_law_deed",top 58,3,["pen","words","places","kind","price","at","other"],426,q5,hV,false,none⟩,
 ⟨34,"_law_machine",top 59,4,["pen","words","places","most","deeds","k","again","deed"],433,q5,fx,false,none⟩,
 ⟨35,"_law_row",top 60,3,["pen","machine","most","kind","many","found"],438,q5,gH,false,none⟩,
 ⟨41,"_law_after",top 61,2,["deed","end","here","own"],445,q5,ji,false,none⟩,
 ⟨42,"_law_begins",top 62,1,["machine"],450,q5,iA,false,none⟩,
 ⟨44,"_law_ends",top 63,2,["machine","row","found","end","number"],457,q5,dH,false,none⟩,
 ⟨89,"_law_price",top 64,2,["machine","row"],462,q5,lO,false,none⟩,
 ⟨138,"_law_change",top 65,3,["pen","machine","rows","way","row","at","number"],469,q5,fM,false,none⟩,
 ⟨139,"_law_do",top 66,2,["shop","told"],476,q5,d8,false,none⟩,
 ⟨140,"_law_parted",top 67,3,["machine","one","other","begin","here","there"],483,q5,iw,false,none⟩,
 ⟨141,"_law_orders",top 68,0,[],490,q5,iz,false,none⟩,
 ⟨142,"_law_right",top 69,4,["shop","machine","row","turn","at","found"],497,q5,eQ,false,none⟩,
 ⟨143,"law",top 70,1,["script","pen","turn","machine","row","handed","shop","rows","log","step","later","told","found","listed"],502,q5,mC,false,none⟩]
noncomputable def rs:Rs:=⟨[Bd,wm,EU,EN,EL,ER,EO,EV,EK,wd,wg,Bg,Bh,Bj,Bi,Jw,ES,Be,Bf,EM,wq],[vT],[A5],[A9,Ba,A8,A7,EH],[A4,EA,EC,ED,EB,Ez,vY]⟩
theorem Ib:A0 rs:=⟨⟨yO,wj,CD,Cz,Cw,CB,CA,CF,Cu,wc,we,yR,yS,yU,yT,ET,CC,yP,yQ,Cy,wo,trivial⟩,⟨HP,trivial⟩,⟨yE,trivial⟩,⟨yL,yM,yK,yJ,Cq,trivial⟩,⟨yD,Ck,Cn,Co,Cm,Cj,vX,trivial⟩⟩
noncomputable def te0:List (Str×En):=List.map (fun x=>(x,En.bl)) ["all","bool","enumerate","int","isinstance","len","list","range","str","sum","tuple","zip"]
noncomputable def te1:List (Str×En):=[("LEAST_WORDS",.int 2),("LONGEST_ROW",.int 40),("MOST_COST",.int 3),("MOST_DEEDS",.int 6),("MOST_PLACES",.int 2),("MOST_WORDS",.int 4),("NEW_WORDS",.dct cv),("SORTS",.dct cu),("NoRow",.xi 0),("NoMachine",.xc 3),("TooLong",.xc 4),("NoPlace",.xc 9)]
noncomputable def te2:List (Str×En):=[("NoDeed",.xc 10),("Nothing",.xc 11),("DeedError",.de),("Shop",.cls 40 129)]
noncomputable def te:List (Str×En):=te0++te1++te2
noncomputable def tbl:kM:=⟨(tb.filter (·.q.isNone)).map (fun e=>(e.x,En.fn e.i e.r))++te,[],[],[("NEW_WORDS",cv),("SORTS",cu)],[("NoRow",0)],[(130,16,27),(154,23,25),(157,15,34),(206,12,29),(209,11,24),(252,12,30),(271,12,14),(287,11,20),(303,12,14),(336,20,30),(350,17,26),(356,14,16)],[],[("back",40,135),("behaviour",40,132),("change",40,136),("cost",40,131),("give",40,137),("out",40,134),("put",40,133),("row",40,130)],rs,tb⟩
noncomputable def Pg:Nat->Option Df:=tbl.Pg
theorem Ic:∀c,tb.map (tbl.rd c)=tb.map fun e=>some (e.b c):=fun c=>by kernel_rfl
theorem tab:vQ tbl:=⟨Ib,Ic,by kernel_rfl,by kernel_rfl,fun _ _ _ _ _ _=>by kernel_rfl,fun _ _ _ _ _ _ _=>by kernel_rfl,fun _ _ _ _ _ _ _ _=>by kernel_rfl,fun _ _ _ _ _ _ _ _ _=>by kernel_rfl,fun _ _ _ _ _ _ _ _ _ _=>by kernel_rfl⟩
noncomputable def fa:Fa:=LD.ux (tb.map (fun e=>(e.i,e.f))++[(940,379)]) [(0,51),(3,63),(4,75),(9,87),(10,99),(11,111)] 31
end K50
namespace K50
open PySem PySem.Spec PyProof.Rows L2 LD
theorem Ak:∀ns:List Int,ns.length<=63->∃M,aq Pg 40 143 [.frz (ns.map D.int)] []=.ok (.bl true) M:=IE (by repeat' (first|rfl|constructor))
end K50
open PySem PySem.W PyProof.Rows K50
set_option maxRecDepth 100000 in
set_option maxHeartbeats 0 in
theorem PySem.Challenge.cw_leastdeeds_k50_what_a_shop_tells_holds : PySem.Challenge.rw_leastdeeds_k50_what_a_shop_tells.Holds := by
 w_on;o_law
 refine PySem.W.holds_open (r:=K50.vi) (q:=K50.kq) (loose:=K50.og) (Xt:=fun s=>PySem.W.xlAt K50.kq [] s&&PySem.W.recOk (PySem.W.RowW.records K50.vi.toRowW) s) (XP:=PySem.W.XL K50.kq []) (Yf:=K50.kH.obs) (Ya:=K50.kH.val) (YP:=K50.kH.says) (N:=7600) K50.IF K50.kH.of K50.kH.keeps (fun s e=>PySem.W.xl_of s (NL.mp e).1) PySem.W.XL.keeps (by rfl) (by rfl) (by rfl) (fun s e=>PySem.W.recFacts_of (NL.mp e).2) (by rfl) (by first|assumption|decide +kernel) (by decide +kernel) ⟨rfl,rfl,rfl,rfl,rfl,by decide +kernel⟩ ?hw ?hc
 case hw=>w_witness2
 refine L2.Cp (l:=PySem.Challenge.rw_leastdeeds_k50_what_a_shop_tells) (n:=63) (k:=84) (x:="script") (CX:=fun w=>LD.fH PySem.Challenge.rw_leastdeeds_k50_what_a_shop_tells.prog w) (K:=K50.kh) (sp:=fun w=>LD.Bn (K50.kh w.params)) rfl (by decide) rfl ⟨rfl,by decide,by decide,rfl⟩ (fun w h Y=>PySem.W.kIn_of Y) ?F (fun w H a ns hl hO hS=>⟨a,ns,rfl,hS,hO,hl,fun _=>rfl⟩) (fun _ _ _ _ _ z=>let ⟨_,_,_,_,_,_,_,_,_,_,q⟩:=z;q)
 case F=>
  intro w mg fa h KX G hmg
  have tk:LD.B8 (K50.kh w.params) K50.tb:=⟨by kernel_rfl,by kernel_rfl,by kernel_rfl⟩
  obtain ⟨m,fd,F⟩:=LD.CK tk KX G (e:=K50.tb[55]) (Nv _) rfl
  have d_NEW_WORDS:=LD.ui (x:="NEW_WORDS") (P:=w.params) (fa:=K50.fa) (fs:=LD.cv) (ad:=266) (es:=#[{hash:=PySem.PyData.keyHash w.params (PySem.Str.ofString "turn"),key:=PySem.Value.str (PySem.Str.ofString "turn") 558,val:=PySem.Value.ref 244},{hash:=PySem.PyData.keyHash w.params (PySem.Str.ofString "join"),key:=PySem.Value.str (PySem.Str.ofString "join") 559,val:=PySem.Value.ref 251},{hash:=PySem.PyData.keyHash w.params (PySem.Str.ofString "move"),key:=PySem.Value.str (PySem.Str.ofString "move") 560,val:=PySem.Value.ref 258},{hash:=PySem.PyData.keyHash w.params (PySem.Str.ofString "put"),key:=PySem.Value.str (PySem.Str.ofString "put") 561,val:=PySem.Value.ref 265}]) (n:=4) KX G (by kernel_rfl) (by kernel_rfl) (by exact LD.fX (LD.fX (LD.fX (LD.fX (LD.xP))))) (by decide +kernel) (by decide) (by exact .cons ⟨rfl,rfl⟩ (.cons ⟨rfl,rfl⟩ (.cons ⟨rfl,rfl⟩ (.cons ⟨rfl,rfl⟩ (.nil)))))
  have d_SORTS:=LD.ui (x:="SORTS") (P:=w.params) (fa:=K50.fa) (fs:=LD.cu) (ad:=187) (es:=#[{hash:=PySem.PyData.keyHash w.params (PySem.Str.ofString "turn"),key:=PySem.Value.str (PySem.Str.ofString "turn") 436,val:=PySem.Value.ref 165},{hash:=PySem.PyData.keyHash w.params (PySem.Str.ofString "join"),key:=PySem.Value.str (PySem.Str.ofString "join") 437,val:=PySem.Value.ref 172},{hash:=PySem.PyData.keyHash w.params (PySem.Str.ofString "move"),key:=PySem.Value.str (PySem.Str.ofString "move") 438,val:=PySem.Value.ref 179},{hash:=PySem.PyData.keyHash w.params (PySem.Str.ofString "put"),key:=PySem.Value.str (PySem.Str.ofString "put") 439,val:=PySem.Value.ref 186}]) (n:=4) KX G (by kernel_rfl) (by kernel_rfl) (by exact LD.fX (LD.fX (LD.fX (LD.fX (LD.xP))))) (by decide +kernel) (by decide) (by exact .cons ⟨rfl,rfl⟩ (.cons ⟨rfl,rfl⟩ (.cons ⟨rfl,rfl⟩ (.cons ⟨rfl,rfl⟩ (.nil)))))
  have i_NoRow:=fun base=>LD.Av (fa:=K50.fa) (w:=w) (c:=0) (x:="NoRow") (qual:="NoRow.__init__") (y:="place") (z:="no deed's number at place ") (pm:="leastdeeds.errors") (t:=194) (st:=LD.inC (K50.top 3)) (C:=51) (D:=31) (fI:=48) (cd:=47) KX G (by kernel_rfl) (by kernel_rfl) rfl (by kernel_rfl) (by kernel_rfl) (by kernel_rfl) (by kernel_rfl) ⟨rfl,rfl,rfl,by decide +kernel,rfl,by decide +kernel,by decide +kernel⟩ rfl (fun _ _=>⟨_,rfl⟩) (by decide +kernel) rfl rfl rfl rfl (fun _ _=>rfl) (fun _ _ _ _ _ _ _ _=>rfl) PySem.Challenge.rw_leastdeeds_k50_what_a_shop_tells.prog base
  have TO:=fun base=>LD.CJ (base:=base) (P:=PySem.Challenge.rw_leastdeeds_k50_what_a_shop_tells.prog) (w:=w) (t:=K50.tbl) (fa:=K50.fa) KX G (by kernel_rfl) (LD.EF (by kernel_rfl)) (LD.Ga (by kernel_rfl)) (LD.AB (by kernel_rfl)) ⟨d_NEW_WORDS,d_SORTS,trivial⟩ ⟨i_NoRow base,trivial⟩
  have tw:LD.AllP (fun q=>LD.B9 K50.fa (K50.kh w.params) mg q.1 q.2.1 q.2.2.1 q.2.2.2) K50.tbl.tw:=trivial
  have xf:LD.AllP (fun f=>LD.B7 K50.fa (K50.kh w.params) f) K50.tbl.xf:=trivial
  have ms:∀q∈K50.tbl.ms,LD.oJ K50.fa (K50.kh w.params) q.1 q.2.1 q.2.2:=LD.Gs (by kernel_rfl)
  have e:=hmg.symm.trans m
  cases e
  exact ⟨fd,fun s v=>by
   obtain ⟨oc,od,kV,doc,pm,an,cdv,ct,osl,rfl,lk,hcd⟩:=F.ex
   exact .of_eq rfl,fun base _ _=>LD.Gy (n:=39) (f:=143) (LD.zd K50.tab tk KX G (TO base) tw.mem xf.mem ms (by kernel_rfl)) K50.Ak rfl F (LD.ot (e:=K50.tb[55]) (L9.mp K50.tab.sc K50.tb[55] (Nv _))).1 rfl fun c n a b d s H E C hr=>LD.rq (e:=K50.tb[55]) K50.tab (TO base) tw.mem xf.mem ms (Nv _) c n a b d s H E C hr⟩
