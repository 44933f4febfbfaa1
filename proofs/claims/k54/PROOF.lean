import PyProof.Rows.All
import Wide.All
import OpenK.AllK
import Wide.FinOn
import Lean
import PyProof.EqAt
import PyProof.EqKinds
import PyProof.TupleCall
import PyProof.StrOps
import PyProof.MeetsStr
import PyProof.StrLawsJoin
import PySem.Challenge.RW_leastdeeds_k54_whole_shops_as_made_anew
set_option Elab.async false
set_option linter.all false
set_option maxRecDepth 100000
set_option autoImplicit true
set_option relaxedAutoImplicit true
set_option maxHeartbeats 0
set_option bootstrap.genMatcherCode false
set_option genSizeOf false
noncomputable section
abbrev tqa:=@PySem.wpAny_bind
abbrev tqb:=@PySem.wpAny_pure
abbrev tqf:=@PySem.wpAny_field
abbrev tqo:=@PySem.wpAny_holding
abbrev tqp:=@PySem.wpAny_truthy_bool
abbrev MF:=@PySem.W.Frag
abbrev MG:=@PySem.Value
abbrev MH:=@List.getElem?_eq_some_iff
abbrev MI:=@PySem.Shared
abbrev MJ:=@PySem.Heap.get?_push_of_some
abbrev MM:=@Bool.and_eq_true
abbrev MN:=@Nat.le_refl
abbrev MO:=@Option.some.inj
abbrev MP:=@List.size_toArray
abbrev MQ:=@List.length_map
abbrev MR:=@Nat.le_trans
abbrev MS:=@PySem.Heap.lt_size
abbrev MV:=@List.mem_cons_of_mem
abbrev MW:=@List.getElem?_set_ne
abbrev MX:=@List.all_eq_true
abbrev M8:=@PySem.Heap.get?_push_size
abbrev M9:=@Nat.lt_of_lt_of_le
abbrev Na:=@PySem.Program
abbrev Nc:=@List.getElem?_eq_getElem
abbrev Nd:=@PySem.World
abbrev Nf:=@List.getElem?_set_self
abbrev Ng:=@Bool.false_ne_true
abbrev Nh:=@List.getElem?_append_left
abbrev Ni:=@List.mem_cons_self
abbrev Nj:=@Option.map_eq_some_iff
abbrev Np:=@List.mem_cons
abbrev Nq:=@List.lookup_cons
abbrev Nv:=@List.getElem?_map
abbrev Nw:=@PyProof.Rows.slot_tuple_getitem
abbrev Nx:=@PySem.Env
abbrev Ny:=@List.all_cons
abbrev Nz:=@Nat.ne_of_lt
abbrev NA:=@beq_eq_false_iff_ne
abbrev NB:=@List.mem_map
abbrev NC:=@List.mem_append
abbrev ND:=@List.length_cons
abbrev NF:=@PySem.OsState
abbrev NG:=@List.length_append
abbrev NH:=@Array.getElem?_eq_some_iff
abbrev NI:=@List.mem_append_right
abbrev NJ:=@PySem.W.kia_one
abbrev NK:=@PySem.W.SharedT
abbrev NL:=@PySem.Around
abbrev NM:=@List.length_range
abbrev NN:=@PyProof.Rows.callWith_type1
abbrev NO:=@PySem.Heap.get?_update_other
abbrev NP:=@List.getElem?_append_right
abbrev NQ:=@List.map_cons
abbrev NR:=@Nat.ne_of_gt
abbrev NS:=@Iff.rfl
abbrev NT:=@List.mem_of_mem_take
abbrev NU:=@List.getD_eq_getElem?_getD
abbrev NV:=@Ne.symm
abbrev NW:=@PySem.W.mg_of
abbrev NX:=@Nat.lt_irrefl
abbrev NY:=@List.mem_singleton
abbrev NZ:=@Int.emod_lt_of_pos
abbrev N0:=@Option.bind_eq_some_iff
abbrev N1:=@List.mem_of_getElem?
abbrev N2:=@PySem.Params
abbrev N3:=@PySem.Obj.data_mapFields
abbrev N4:=@List.take_of_length_le
abbrev N5:=@List.exists_of_findSome?_eq_some
abbrev N6:=@Int.toNat_natCast
abbrev N7:=@Int.emod_nonneg
abbrev N8:=@List.length_take
abbrev N9:=@PySem.Heap.get?_update_self
abbrev Oa:=@Bool.and_eq_true_iff
abbrev Ob:=@Nat.add_sub_cancel_left
abbrev Oc:=@PySem.Comprehension
abbrev Od:=@List.map_append
abbrev Oe:=@List.replicate_succ
abbrev Of:=@Nat.le_add_right
abbrev Og:=@PySem.W.callWith_K
abbrev Oh:=@PySem.W.methodCall_KW
abbrev Oi:=@Nat.le_of_ble_eq_true
abbrev Oj:=@List.getElem?_eq_none
abbrev Ol:=@Option.isNone_iff_eq_none
abbrev Om:=@List.mem_of_find?_eq_some
abbrev Oo:=@Bool.or_eq_true
abbrev Oq:=@List.mem_append_left
abbrev Ot:=@Array.length_toList
abbrev Ou:=@List.take_succ
abbrev Ov:=@List.not_mem_nil
abbrev Ow:=@List.length_eq_zero_iff
abbrev Ox:=@List.getElem_mem
abbrev Oy:=@List.getElem?_replicate
abbrev Oz:=@Nat.le_succ
abbrev OA:=@List.append_nil
abbrev OB:=@Bool.eq_iff_iff
abbrev OC:=@List.reverse_cons
abbrev OD:=@List.flatten_cons
abbrev OE:=@Function.comp_def
abbrev OF:=@Bool.not_eq_true'
abbrev OG:=@PySem.FuncData
abbrev OH:=@List.mem_of_mem_drop
abbrev OI:=@PySem.DictEntry
abbrev OJ:=@PySem.Obj.isFreed_of_fields
abbrev OK:=@PySem.mem_of_lookup
abbrev OL:=@List.getElem?_range
abbrev OM:=@List.filterMap_cons
abbrev ON:=@PySem.Paired
abbrev OO:=@PySem.Heap.size_push
abbrev OP:=@PySem.Heap.get?_none_of_le
abbrev OQ:=@List.map_take
abbrev OR:=@List.nil_append
abbrev OS:=@List.mem_singleton_self
abbrev OT:=@List.getElem?_cons_zero
abbrev OU:=@List.getElem?_cons_succ
abbrev OV:=@List.findIdx?_eq_some_iff_getElem
namespace HD
open PySem PySem.W
noncomputable def gR (tb:String->Option Builtin)(p:Na)(w:Nd)(n0:Nat)(ann:Option MG):Nat->NK->Thread->Option NK
 |0,_,_=>none
 | n + 1, s, t => match through t with
   |true=>some s
   | false => match stepOk n0 ann t with
     |false=>none
     | true => match stepT (denote tb) p w s t with
       |some (s',t')=>gR tb p w n0 ann n s' t'
       |none=>none
theorem pO {tb:String->Option Builtin}{p:Na}{w:Nd}{n0:Nat}{ann:Option MG}:∀{n:Nat}{s s':NK}{t:Thread},gR tb p w n0 ann n s t=some s'->topRun tb p w n0 ann n s.abs t=some s'.abs
 |0,_,_,_,h=>by cases h
 | n + 1, s, s', t, h => by
   unfold gR at h
   unfold topRun
   cases he:through t with
   |true=>rw [he] at h;cases h;rfl
   | false =>
     rw [he] at h
     cases hk:stepOk n0 ann t with
     |false=>rw [hk] at h;cases h
     | true =>
       rw [hk] at h
       cases hs:stepT (denote tb) p w s t with
       |none=>rw [hs] at h;cases h
       |some r=>obtain ⟨s2,t2⟩:=r;rw [hs] at h;rw [stepT_spec hs];exact pO h
noncomputable def treeOf:List Obj->Nat->BT->BT
 |[],_,t=>t
 |o::r,n,t=>treeOf r (n+1) (t.ins n o)
noncomputable def wq (P:N2)(os:NF):NK:=⟨treeOf (boot_heap P).objs.toList 0 .nil,(boot_heap P).objs.toList.length,(boot_heap P).life,#[],boot_drawn,boot_toks,os⟩
theorem boot_abs (P:N2)(os:NF):(wq P os).abs=⟨boot_heap P,#[],boot_drawn,boot_toks,os⟩:=by kernel_rfl
noncomputable def kF (p q:Na)(loose:List Str)(Xt:MI->Bool)(g0:Bool)(h0:Heap){α:Type}(Yf:MI->α)(s:MI):=
 ((staticsOk (importedModules p.main.body) h0 s.heap&&namesBound p s.heap&&gensDone s&&laidKept h0 s.heap),openSeen q loose (importedModules p.main.body) Xt g0 s,Yf s)
end HD
namespace HD
open PySem PySem.W
noncomputable def uS (tb:String->Option Builtin)(p:Na)(w:Nd)(n0:Nat)(ann:Option MG):Nat->NK->Thread->Option (NK×Thread)
 |0,s,t=>some (s,t)
 | n + 1, s, t => match through t with
   |true=>none
   | false => match stepOk n0 ann t with
     |false=>none
     | true => match stepT (denote tb) p w s t with
       |some (s',t')=>uS tb p w n0 ann n s' t'
       |none=>none
noncomputable def kz (tb:String->Option Builtin)(p:Na)(w:Nd)(n0:Nat)(ann:Option MG):Nat->NK->Thread->Option (Flow×NK×Code×Pos)
 |0,_,_=>none
 | n + 1, s, t => match endAt 1 t with
   |some f=>some (f,s,t.code,t.pos)
   | none => match stepOk n0 ann t with
     |false=>none
     | true => match stepT (denote tb) p w s t with
       |some (s',t')=>kz tb p w n0 ann n s' t'
       |none=>none
section
variable {tb:String->Option Builtin}{p:Na}{w:Nd}{n0:Nat}{ann:Option MG}
theorem yF:∀{n:Nat}{s s':NK}{t t':Thread},uS tb p w n0 ann n s t=some (s',t')->topGo tb p w n0 ann n s.abs t=some (s'.abs,t')
 |0,s,s',t,t',h=>by cases h;rfl
 | n + 1, s, s', t, t', h => by
   unfold uS at h
   unfold topGo
   cases he:through t with
   |true=>rw [he] at h;cases h
   | false =>
     rw [he] at h
     cases hk:stepOk n0 ann t with
     |false=>rw [hk] at h;cases h
     | true =>
       rw [hk] at h
       cases hs:stepT (denote tb) p w s t with
       |none=>rw [hs] at h;cases h
       |some q=>obtain ⟨s2,t2⟩:=q;rw [hs] at h;rw [stepT_spec hs];exact yF h
theorem oP:∀{n:Nat}{s s':NK}{t:Thread}{f:Flow}{c:Code}{q:Pos},kz tb p w n0 ann n s t=some (f,s',c,q)->segRun tb p w n0 ann 1 n s.abs t=some (f,s'.abs,c,q)
 |0,_,_,_,_,_,_,h=>by cases h
 | n + 1, s, s', t, f, c, q, h => by
   unfold kz at h
   unfold segRun
   cases he:endAt 1 t with
   |some g=>rw [he] at h;cases h;rfl
   | none =>
     rw [he] at h
     cases hk:stepOk n0 ann t with
     |false=>rw [hk] at h;cases h
     | true =>
       rw [hk] at h
       cases hs:stepT (denote tb) p w s t with
       |none=>rw [hs] at h;cases h
       |some x=>obtain ⟨s2,t2⟩:=x;rw [hs] at h;rw [stepT_spec hs];exact oP h
theorem sY {n3 N:Nat}{s s2:NK}{env:Env}{c:Code}{p' p2 q:Pos}{b:List Stmt}{J:Nat}{α:Type}{f:MI->α}{a:α}
 (h3:kz tb p w n0 ann n3 s (piecesOf (b.take J) env c p' [topFrame q])=some (.next,s2,c,p2))
 (h4:(topRun tb p w n0 ann N s2.abs (restOf (b.drop J) env c p2 [topFrame q])).map f=some a):(topRun tb p w n0 ann (n3+N) s.abs (restOf b env c p' [topFrame q])).map f=some a:=by
 obtain ⟨r,e3,e4⟩:=Nj.mp h4
 have k4:=piece_app (oP h3) e3
 rw [List.take_append_drop] at k4
 rw [k4]
 exact congrArg some e4
theorem yP {N:Nat}{s2:NK}{t:Thread}{p' q:Na}{loose:List Str}{Xt:MI->Bool}{g0:Bool}{h0:Heap}{α:Type}{Yf:MI->α}{a b c}
 (h1:(gR tb p w n0 ann N s2 t).map (fun s=>(kF p' q loose Xt g0 h0 Yf s.abs).1)=some a) (h2:(gR tb p w n0 ann N s2 t).map (fun s=>(kF p' q loose Xt g0 h0 Yf s.abs).2.1)=some b)
 (h3:(gR tb p w n0 ann N s2 t).map (fun s=>(kF p' q loose Xt g0 h0 Yf s.abs).2.2)=some c):(topRun tb p w n0 ann N s2.abs t).map (kF p' q loose Xt g0 h0 Yf)=some (a,b,c):=by
 obtain ⟨r,e3,rfl⟩:=Nj.mp h1
 rw [e3] at h2 h3
 cases h2;cases h3
 rw [pO e3]
 rfl
theorem yQ {n1 n2 N:Nat}{s s':NK}{env:Env}{c:Code}{pos p' q:Pos}{t:Thread}{b:List Stmt}{J:Nat}{α:Type}{f:MI->α}{a:α}
 (h1:(uS tb p w n0 ann n1 s t).map (·.2)=some ⟨denote tb (.body b env),c,pos,[topFrame q]⟩) (h0:endAt 1 (blockOf b env c pos [topFrame q])=some .next)
 (h2:((uS tb p w n0 ann n1 s t).bind fun x=>kz tb p w n0 ann n2 x.1 (piecesOf (b.take J) env c pos [topFrame q]))=some (.next,s',c,p'))
 (h3:(topRun tb p w n0 ann N s'.abs (restOf (b.drop J) env c p' [topFrame q])).map f=some a):(topRun tb p w n0 ann (n1+(1+(n2+N))) s.abs t).map f=some a:=by
 obtain ⟨⟨s1,t1⟩,e1,e2⟩:=Nj.mp h1
 have e2:t1=⟨denote tb (.body b env),c,pos,[topFrame q]⟩:=e2
 subst e2
 rw [e1] at h2
 have h2:kz tb p w n0 ann n2 s1 (piecesOf (b.take J) env c pos [topFrame q])=some (.next,s',c,p'):=h2
 obtain ⟨r,e3,e4⟩:=Nj.mp h3
 have k3:=piece_app (oP h2) e3
 rw [List.take_append_drop] at k3
 have hb:segRun tb p w n0 ann 1 1 s1.abs (blockOf b env c pos [topFrame q])=some (.next,s1.abs,c,pos):=by
  show (match endAt 1 (blockOf b env c pos [topFrame q]) with|some f=>some (f,s1.abs,c,pos)|none=>_)=_
  rw [h0]
 have k2:=piece_block hb k3
 rw [go_top (yF e1) k2]
 exact congrArg some e4
end
theorem tV {p q:Na}{loose:List Str}{Xt:MI->Bool}{α:Type}{Yf:MI->α}{Ya:Nd->α}{N:Nat}{g0:Bool}{m0:Nat}{ann:Option MG}
 (open_:∀w:Nd,(fencedOpening treeTable p w N).map (fun s=>(s.heap,s.gens,s.drawn,s.toks))=some (boot_heap w.params,Array.mk [],boot_drawn,boot_toks))
 (size:∀w:Nd,((boot_heap w.params).isNs mainGlobals&&(Array.mk ([]:List GenState)).size==0,(boot_heap w.params).objs.size,(boot_heap w.params).nsMap mainGlobals "__annotations__")=(true,m0,ann))
 (run:∀(w:Nd) (os:NF),(topRun treeTable p w m0 ann N (wq w.params os).abs (topStub p)).map (kF p q loose Xt g0 (boot_heap w.params) Yf)=some (true,openGood q loose,Ya w)):LeftO p q loose Xt Yf Ya N g0:=fun w=>by
 obtain ⟨⟨h,gs,d,k,os⟩,e,e'⟩:=Nj.mp (open_ w)
 obtain ⟨rfl,rfl,rfl,rfl⟩:h=boot_heap w.params/\gs=Array.mk []/\d=boot_drawn/\k=boot_toks:=by simpa using e'
 obtain ⟨z1,z2,z3⟩:_/\_/\_:=by simpa only [Prod.mk.injEq] using size w
 obtain ⟨s1,r,l⟩:=Nj.mp (run w os)
 obtain ⟨l1,l2,l3⟩:_/\_/\_:=by simpa only [kF,Prod.mk.injEq] using l
 rw [boot_abs] at r
 have t:topFrom treeTable p w N ⟨boot_heap w.params,Array.mk [],boot_drawn,boot_toks,os⟩=some s1:=by
  unfold topFrom
  dsimp only
  rw [z1,z2,z3,r]
  show (match staticsOk (importedModules p.main.body) (boot_heap w.params) s1.heap&&namesBound p s1.heap&&gensDone s1&&laidKept (boot_heap w.params) s1.heap with|true=>_|false=>_)=_
  rw [l1]
 unfold openEnds
 rw [e]
 show (topFrom treeTable p w N _).map _=_
 rw [t]
 exact congrArg some (Prod.ext l2 l3)
end HD
namespace K54
open PySem
abbrev eN (P:N2)(x:Str)(n:Nat)(v:MG):OI:=⟨PyData.keyHash P x,.str x n,v⟩
abbrev gx:String:="law_leastdeeds_k54_whole_shops_as_made_anew"
noncomputable def pd (j:Nat)(s:Stmt):Stmt:=match s with
 |.ClassDef _ _ _ b _ _ _ _ _ _ _=>b.getD j s
 |_=>s
noncomputable def iD (i:Nat):Stmt:=PySem.Challenge.pw_leastdeeds_k54_whole_shops_as_made_anew.main.body.getD i (.Pass ⟨0,0,0,0⟩)
noncomputable def qT (s:Stmt):Arguments:=match s with
 |.FunctionDef _ a _ _ _ _ _ _ _ _=>a
 |_=>⟨[],[],none,[],[],none,[]⟩
noncomputable def qS (s:Stmt):List Stmt:=match s with
 |.FunctionDef _ _ b _ _ _ _ _ _ _=>b
 |_=>[]
noncomputable def oa (s:Stmt):Scope:=match s with
 |.FunctionDef _ _ _ _ _ _ sc _ _ _=>sc
 |_=>{kind:=.function,names:=[],isGenerator:=false,isCoroutine:=false}
noncomputable def o1:Obj:={cls:=.type "tuple" ,data:=.seq #[]}
noncomputable def o2 (a:String)(b:Nat)(c:Int)(d:Nat)(e:Int):Obj:={cls:=.type "code" ,data:=.fields #[.str (Str.ofString a) b ,.str (Str.ofString a) (b+1) ,.str ("/claim/cut.py") (b+2) ,.int c 0 ,.int 0 0 ,.int 0 0 ,.int 0 0 ,.int 0 0 ,.ref d ,.bool false ,.int 181 0 ,.ref (d+1) ,.none ,.none ,.none ,.none ,.int e 0 ,.int c 0 ,.str ("/claim/cut.py") (b+4)]}
noncomputable def o3 (a:Nat)(b:Nat)(c:String)(d:Nat):Obj:={cls:=.type "frame" ,slots:=#[some (.ref a) ,some (.ref 3) ,some (.ref b) ,none ,some (.str (Str.ofString c) d) ,none ,some (.ref 0)]}
noncomputable def o4:Obj:={cls:=.none ,data:=.fields #[]}
noncomputable def o5 (a:String)(b:Nat):Obj:={cls:=.type "tuple" ,data:=.seq #[.str (Str.ofString a) b]}
noncomputable def o6 (a:String)(b:Nat):Obj:={cls:=.none ,data:=.func {name:=Str.ofString a ,qualname:=Str.ofString a ,params:=qT (iD b) ,body:=PySem.FuncBody.stmts (qS (iD b)) ,scope:=oa (iD b) ,globals:=0 ,closure:=[] ,defaults:=.none ,kwdefaults:=.none ,pyModule:=.none ,code:=.none}}
noncomputable def o7 (a:String)(b:Nat)(c:String)(d:Int)(e:Int)(f:Nat)(g:Int)(h:Nat):Obj:={cls:=.type "code" ,data:=.fields #[.str (Str.ofString a) b ,.str (Str.ofString c) (b+1) ,.str ("/claim/cut.py") (b+2) ,.int d 0 ,.int e 0 ,.int 0 0 ,.int 0 0 ,.int 3 0 ,.ref f ,.bool true ,.int 181 0 ,.ref (f+1) ,.none ,.ref (f+2) ,.ref (f+3) ,.ref (f+4) ,.int g 0 ,.int d 0 ,.str ("/claim/cut.py") h]}
noncomputable def o8 (a:String)(b:Nat)(c:String)(d:Nat)(e:Nat):Obj:={cls:=.type "function" ,data:=.func {name:=Str.ofString a ,qualname:=Str.ofString a ,params:=qT (iD b) ,body:=PySem.FuncBody.stmts (qS (iD b)) ,scope:=oa (iD b) ,globals:=3 ,closure:=[] ,defaults:=.none ,kwdefaults:=.none ,pyModule:=.str (Str.ofString c) d ,code:=.ref e}}
noncomputable def o9:Obj:={cls:=.type "builtin_function_or_method" ,data:=.fields #[.builtin "type.__prepare__" ,.type "type"]}
noncomputable def uG (P:N2)(a:Nat)(b:String)(c:Int)(d:Nat):Obj:={cls:=.type "dict" ,data:=.dict #[{hash:=PyData.keyHash P ("__module__") ,key:=.str ("__module__") a ,val:=.str ("leastdeeds.errors") 194} ,{hash:=PyData.keyHash P ("__qualname__") ,key:=.str ("__qualname__") (a+2) ,val:=.str (Str.ofString b) (a+1)} ,{hash:=PyData.keyHash P ("__firstlineno__") ,key:=.str ("__firstlineno__") (a+4) ,val:=.int c (a+3)} ,{hash:=PyData.keyHash P ("__static_attributes__") ,key:=.str ("__static_attributes__") (a+5) ,val:=.ref d}] 4}
noncomputable def Ky (P:N2)(a:Nat)(b:Int)(c:String)(d:Nat)(e:Nat)(f:String)(g:Nat)(h:Nat):Obj:={cls:=.type "dict" ,data:=.dict #[{hash:=PyData.keyHash P ("__module__") ,key:=.str ("__module__") a ,val:=.str ("leastdeeds.errors") 194} ,{hash:=PyData.keyHash P ("__firstlineno__") ,key:=.str ("__firstlineno__") (a+4) ,val:=.int b (a+3)} ,{hash:=PyData.keyHash P (Str.ofString c) ,key:=.str (Str.ofString c) d ,val:=.ref e} ,{hash:=PyData.keyHash P (Str.ofString f) ,key:=.str (Str.ofString f) (d+2) ,val:=.ref g} ,{hash:=PyData.keyHash P ("__doc__") ,key:=.str ("__doc__") (d+3) ,val:=.none}] h}
noncomputable def o12:Obj:={cls:=.type "type" ,data:=.cls {name:="DeedError" ,bases:=[.type "ValueError"] ,mro:=[.ref 31 ,.type "ValueError" ,.type "Exception" ,.type "BaseException" ,.type "object"] ,ns:=30 ,qualname:="DeedError" ,subclasses:=[.ref 51 ,.ref 63 ,.ref 75 ,.ref 87 ,.ref 99 ,.ref 111]} ,slots:=#[some (.ref 22) ,none ,some (.str ("DeedError") 196) ,some (.str ("DeedError") 204) ,some (.builtin "ValueError.__new__") ,some (.bool true)]}
noncomputable def Kx (a:Nat)(b:Nat):Obj:={cls:=.type "getset_descriptor" ,data:=.fields #[.str ("__weakref__") a ,.ref b ,.builtin "ExceptionGroup.__weakref__" ,.none]}
noncomputable def qf (a:Nat):Obj:={cls:=.type "super" ,data:=.fields #[.ref a ,.ref a ,.ref a]}
noncomputable def qe (a:Nat):Obj:={cls:=.type "builtin_function_or_method" ,data:=.fields #[.builtin "object.__init_subclass__" ,.ref a]}
noncomputable def uF:Obj:={cls:=.type "tuple" ,data:=.seq #[.ref 31]}
noncomputable def lB (a:String)(b:Nat)(c:String):Obj:={cls:=.type "tuple" ,data:=.seq #[.str (Str.ofString a) b ,.str (Str.ofString c) (b+1)]}
noncomputable def lA (a:String)(b:String)(c:Nat)(d:Nat):Obj:={cls:=.none ,data:=.func {name:=Str.ofString a ,qualname:=Str.ofString b ,params:=qT (pd c (iD d)) ,body:=PySem.FuncBody.stmts (qS (pd c (iD d))) ,scope:=oa (pd c (iD d)) ,globals:=0 ,closure:=[] ,defaults:=.none ,kwdefaults:=.none ,pyModule:=.none ,code:=.none}}
noncomputable def lu (a:String)(b:String)(c:Nat)(d:Nat)(e:String)(f:Nat)(g:Nat):Obj:={cls:=.type "function" ,data:=.func {name:=Str.ofString a ,qualname:=Str.ofString b ,params:=qT (pd c (iD d)) ,body:=PySem.FuncBody.stmts (qS (pd c (iD d))) ,scope:=oa (pd c (iD d)) ,globals:=3 ,closure:=[] ,defaults:=.none ,kwdefaults:=.none ,pyModule:=.str (Str.ofString e) f ,code:=.ref g}}
noncomputable def uE (a:String)(b:Nat)(c:Nat)(d:Nat)(e:Nat):Obj:={cls:=.type "type" ,data:=.cls {name:=Str.ofString a ,bases:=[.ref 31] ,mro:=[.ref b ,.ref 31 ,.type "ValueError" ,.type "Exception" ,.type "BaseException" ,.type "object"] ,ns:=c ,qualname:=Str.ofString a} ,slots:=#[some (.ref d) ,none ,some (.str (Str.ofString a) e) ,some (.str (Str.ofString a) (e+8)) ,some (.builtin "ValueError.__new__") ,some (.bool true)]}
noncomputable def yg (P:N2)(a:Nat)(b:Int)(c:Nat):Obj:={cls:=.type "dict" ,data:=.dict #[{hash:=PyData.keyHash P ("__module__") ,key:=.str ("__module__") a ,val:=.str ("leastdeeds.errors") 194} ,{hash:=PyData.keyHash P ("__firstlineno__") ,key:=.str ("__firstlineno__") (a+4) ,val:=.int b (a+3)} ,{hash:=PyData.keyHash P ("__static_attributes__") ,key:=.str ("__static_attributes__") (a+5) ,val:=.ref c} ,{hash:=PyData.keyHash P ("__doc__") ,key:=.str ("__doc__") (a+6) ,val:=.none}] 2}
noncomputable def yf (a:String)(b:Nat)(c:String)(d:String):Obj:={cls:=.type "tuple" ,data:=.seq #[.str (Str.ofString a) b ,.str (Str.ofString c) (b+1) ,.str (Str.ofString d) (b+2)]}
noncomputable def mI (a:String)(b:Nat)(c:Int)(d:Int)(e:Nat)(f:Int):Obj:={cls:=.type "code" ,data:=.fields #[.str (Str.ofString a) b ,.str (Str.ofString a) (b+1) ,.str ("/claim/cut.py") (b+2) ,.int c 0 ,.int d 0 ,.int 0 0 ,.int 0 0 ,.int 3 0 ,.ref e ,.bool true ,.int 181 0 ,.ref (e+1) ,.none ,.none ,.none ,.ref (e+2) ,.int f 0 ,.int c 0 ,.str ("/claim/cut.py") (b+4)]}
noncomputable def so (a:String)(b:Nat)(c:String)(d:String)(e:String)(f:String)(g:String):Obj:={cls:=.type "tuple" ,data:=.seq #[.str (Str.ofString a) b ,.str (Str.ofString c) (b+1) ,.str (Str.ofString d) (b+2) ,.str (Str.ofString e) (b+3) ,.str (Str.ofString f) (b+4) ,.str (Str.ofString g) (b+5)]}
noncomputable def G9 (a:String)(b:Nat)(c:String)(d:String)(e:String)(f:String)(g:String)(h:String):Obj:={cls:=.type "tuple" ,data:=.seq #[.str (Str.ofString a) b ,.str (Str.ofString c) (b+1) ,.str (Str.ofString d) (b+2) ,.str (Str.ofString e) (b+3) ,.str (Str.ofString f) (b+4) ,.str (Str.ofString g) (b+5) ,.str (Str.ofString h) (b+6)]}
noncomputable def Kw (P:N2)(a:Nat)(b:Nat):Obj:={cls:=.type "dict" ,data:=.dict #[{hash:=PyData.keyHash P ("turn") ,key:=.str ("turn") a ,val:=.ref b} ,{hash:=PyData.keyHash P ("join") ,key:=.str ("join") (a+1) ,val:=.ref (b+7)} ,{hash:=PyData.keyHash P ("move") ,key:=.str ("move") (a+2) ,val:=.ref (b+14)} ,{hash:=PyData.keyHash P ("put") ,key:=.str ("put") (a+3) ,val:=.ref (b+21)}] 4}
noncomputable def Cc (a:String)(b:Nat)(c:String)(d:String)(e:String)(f:String):Obj:={cls:=.type "tuple" ,data:=.seq #[.str (Str.ofString a) b ,.str (Str.ofString c) (b+1) ,.str (Str.ofString d) (b+2) ,.str (Str.ofString e) (b+3) ,.str (Str.ofString f) (b+4)]}
noncomputable def Cb (a:String)(b:Nat)(c:String)(d:String)(e:String):Obj:={cls:=.type "tuple" ,data:=.seq #[.str (Str.ofString a) b ,.str (Str.ofString c) (b+1) ,.str (Str.ofString d) (b+2) ,.str (Str.ofString e) (b+3)]}
noncomputable def G8 (a:String)(b:Nat)(c:String)(d:String)(e:String)(f:String)(g:String)(h:String)(i:String):Obj:={cls:=.type "tuple" ,data:=.seq #[.str (Str.ofString a) b ,.str (Str.ofString c) (b+1) ,.str (Str.ofString d) (b+2) ,.str (Str.ofString e) (b+3) ,.str (Str.ofString f) (b+4) ,.str (Str.ofString g) (b+5) ,.str (Str.ofString h) (b+6) ,.str (Str.ofString i) (b+7)]}
noncomputable def o30 (P:N2):Obj:={cls:=.type "dict" ,data:=.dict #[{hash:=PyData.keyHash P ("__module__") ,key:=.str ("__module__") 635 ,val:=.str ("leastdeeds.shop") 626} ,{hash:=PyData.keyHash P ("__firstlineno__") ,key:=.str ("__firstlineno__") 639 ,val:=.int 151 638} ,{hash:=PyData.keyHash P ("__init__") ,key:=.str ("__init__") 648 ,val:=.ref 320} ,{hash:=PyData.keyHash P ("row") ,key:=.str ("row") 655 ,val:=.ref 327} ,{hash:=PyData.keyHash P ("cost") ,key:=.str ("cost") 662 ,val:=.ref 334} ,{hash:=PyData.keyHash P ("behaviour") ,key:=.str ("behaviour") 669 ,val:=.ref 341} ,{hash:=PyData.keyHash P ("least") ,key:=.str ("least") 676 ,val:=.ref 348} ,{hash:=PyData.keyHash P ("put") ,key:=.str ("put") 685 ,val:=.ref 355} ,{hash:=PyData.keyHash P ("out") ,key:=.str ("out") 693 ,val:=.ref 362} ,{hash:=PyData.keyHash P ("back") ,key:=.str ("back") 700 ,val:=.ref 369} ,{hash:=PyData.keyHash P ("change") ,key:=.str ("change") 708 ,val:=.ref 376} ,{hash:=PyData.keyHash P ("give") ,key:=.str ("give") 717 ,val:=.ref 383} ,{hash:=PyData.keyHash P ("__static_attributes__") ,key:=.str ("__static_attributes__") 721 ,val:=.ref 384} ,{hash:=PyData.keyHash P ("__dict__") ,key:=.str ("__dict__") 723 ,val:=.ref 387} ,{hash:=PyData.keyHash P ("__weakref__") ,key:=.str ("__weakref__") 725 ,val:=.ref 388} ,{hash:=PyData.keyHash P ("__doc__") ,key:=.str ("__doc__") 726 ,val:=.none}] 4}
noncomputable def o31:Obj:={cls:=.type "type" ,data:=.cls {name:="Shop" ,bases:=[.type "object"] ,mro:=[.ref 386 ,.type "object"] ,ns:=385 ,qualname:="Shop"} ,slots:=#[none ,none ,some (.str ("Shop") 628) ,some (.str ("Shop") 636) ,some (.builtin "object.__new__") ,some (.bool true)]}
noncomputable def KH (P:N2):List OI:=[eN P "__doc__" 166 (.none),eN P "__package__" 167 (.none),eN P "__loader__" 168 (.builtin "__main__.__loader__#opaque"),eN P "__spec__" 169 (.none),eN P "__annotations__" 170 (.ref 6),eN P "__builtins__" 171 (.ref 4),eN P "__file__" 173 (.str "/claim/cut.py" 172),eN P "__cached__" 174 (.none),eN P "_wall" 193 (.ref 21),eN P "DeedError" 213 (.ref 31),eN P "NoRow" 238 (.ref 51),eN P "NoMachine" 254 (.ref 63),eN P "TooLong" 270 (.ref 75),eN P "NoPlace" 286 (.ref 87),eN P "NoDeed" 302 (.ref 99),eN P "Nothing" 318 (.ref 111)]
noncomputable def KG (P:N2):List OI:=KH P++[eN P "is_between" 329 (.ref 120),eN P "LEAST_WORDS" 333 (.int 2 332),eN P "MOST_WORDS" 335 (.int 4 334),eN P "MOST_PLACES" 337 (.int 2 336),eN P "MOST_DEEDS" 339 (.int 6 338),eN P "MOST_COST" 341 (.int 3 340),eN P "LONGEST_ROW" 343 (.int 40 342),eN P "is_word" 351 (.ref 127),eN P "is_place" 359 (.ref 134),eN P "is_cost" 366 (.ref 141),eN P "is_tuple_of" 374 (.ref 148),eN P "is_table" 380 (.ref 153),eN P "is_double_table" 386 (.ref 158),eN P "is_turn" 398 (.ref 165),eN P "is_join" 411 (.ref 172),eN P "is_move" 423 (.ref 179),eN P "is_put" 435 (.ref 186),eN P "SORTS" 444 (.ref 187),eN P "is_deed" 455 (.ref 194),eN P "is_machine" 461 (.ref 199),eN P "need_machine" 468 (.ref 206),eN P "beginnings" 474 (.ref 211),eN P "is_deed_number" 482 (.ref 218),eN P "need_numbers" 492 (.ref 225),eN P "need_row" 500 (.ref 232),eN P "summed_cost" 506 (.ref 237),eN P "cost" 514 (.ref 244),eN P "turned" 528 (.ref 251),eN P "joined" 541 (.ref 258),eN P "moved" 553 (.ref 265),eN P "put_in" 565 (.ref 272),eN P "NEW_WORDS" 574 (.ref 273),eN P "done" 584 (.ref 280),eN P "all_standing" 595 (.ref 287),eN P "ends_of" 601 (.ref 292),eN P "behaviour" 609 (.ref 299),eN P "parted" 625 (.ref 306),eN P "Shop" 728 (.ref 386)]
noncomputable def KD (P:N2):List OI:=KG P++[eN P "_law_spread" 742 (.ref 397),eN P "_law_open" 752 (.ref 404),eN P "_law_anew" 759 (.ref 411),eN P "_law_take" 770 (.ref 418),eN P "_law_same" 776 (.ref 423),eN P "_law_tab" 782 (.ref 428),eN P "_law_deed" 788 (.ref 433),eN P "_law_machine" 802 (.ref 440),eN P "_law_row" 808 (.ref 445),eN P "_law_change" 821 (.ref 452),eN P "_law_do" 829 (.ref 459),eN P "_law_orders" 835 (.ref 466),eN P "_law_look_by" 845 (.ref 473),eN P "_law_ends_there" 852 (.ref 480),eN P "_law_step_right" 866 (.ref 487),eN P "_law_home" 877 (.ref 494)]
noncomputable def kg3 (P:N2):List OI:=KD P++[eN P "law" 894 (.ref 501)]
noncomputable def KN (P:N2):List Obj:=[o1,
 {cls:=.none,data:=.fields #[.int 1 0,.int 0 0,.ref 20,.int 5 0,.int 0 0,.ref 27,.int 7 0,.int 0 0,.ref 40,.int 12 0,.int 0 0,.ref 59,.int 14 0,.int 0 0,.ref 71,.int 16 0,.int 0 0,.ref 83,.int 18 0,.int 0 0,.ref 95,.int 20 0,.int 0 0,.ref 107]},
 o2 "<module>" 182 1 11 185,
 o3 13 3 "__main__" 164,
 o1,
 o4,
 o5 "k" 190,
 o1,
 o6 "_wall" 0,
 o7 "_wall" 187 "_wall" 1 1 15 191 192,
 o8 "_wall" 0 "__main__" 164 20,
 {cls:=.type "tuple",data:=.seq #[.type "ValueError"]},
 o9,
 uG P 203 "DeedError" 5 29,
 o1,
 o4,
 o2 "DeedError" 198 5 25 201,
 o3 27 24 "leastdeeds.errors" 194,
 o1,
 Ky P 203 5 "__static_attributes__" 208 29 "__weakref__" 32 3,
 o12,
 Kx 209 31,
 qf 31,
 qe 31,
 uF,
 o9,
 {cls:=.type "dict",data:=.dict #[eN P "__module__" 221 (.str "leastdeeds.errors" 194),eN P "__qualname__" 223 (.str "NoRow" 222),eN P "__firstlineno__" 225 (.int 7 224),eN P "__init__" 233 (.ref 48),eN P "__static_attributes__" 235 (.ref 49)] 5},
 o1,
 {cls:=.none,data:=.fields #[.int 9 0,.int 4 0,.ref 47]},
 o2 "NoRow" 216 7 38 219,
 o3 40 37 "leastdeeds.errors" 194,
 o1,
 o4,
 lB "self" 229 "place",
 o1,
 lA "__init__" "NoRow.__init__" 0 3,
 o7 "__init__" 226 "NoRow.__init__" 9 2 42 231 232,
 lu "__init__" "NoRow.__init__" 0 3 "leastdeeds.errors" 194 47,
 o5 "place" 234,
 Ky P 221 7 "__init__" 233 48 "__static_attributes__" 49 2,
 uE "NoRow" 51 50 35 214,
 qf 51,
 qe 51,
 uF,
 o9,
 uG P 246 "NoMachine" 12 61,
 o1,
 o4,
 o2 "NoMachine" 241 12 57 244,
 o3 59 56 "leastdeeds.errors" 194,
 o1,
 yg P 246 12 61,
 uE "NoMachine" 63 62 54 239,
 qf 63,
 qe 63,
 uF,
 o9,
 uG P 262 "TooLong" 14 73,
 o1,
 o4,
 o2 "TooLong" 257 14 69 260,
 o3 71 68 "leastdeeds.errors" 194,
 o1,
 yg P 262 14 73,
 uE "TooLong" 75 74 66 255,
 qf 75,
 qe 75,
 uF,
 o9,
 uG P 278 "NoPlace" 16 85,
 o1,
 o4,
 o2 "NoPlace" 273 16 81 276,
 o3 83 80 "leastdeeds.errors" 194,
 o1,
 yg P 278 16 85,
 uE "NoPlace" 87 86 78 271,
 qf 87,
 qe 87,
 uF,
 o9,
 uG P 294 "NoDeed" 18 97,
 o1,
 o4,
 o2 "NoDeed" 289 18 93 292,
 o3 95 92 "leastdeeds.errors" 194,
 o1,
 yg P 294 18 97,
 uE "NoDeed" 99 98 90 287,
 qf 99,
 qe 99,
 uF,
 o9,
 uG P 310 "Nothing" 20 109,
 o1,
 o4,
 o2 "Nothing" 305 20 105 308,
 o3 107 104 "leastdeeds.errors" 194,
 o1,
 yg P 310 20 109,
 uE "Nothing" 111 110 102 303,
 qf 111,
 qe 111]
noncomputable def KJ (P:N2):List Obj:=((KN P).set 1 ({cls:=.none,data:=.fields #[.int 1 0,.int 0 0,.ref 20,.int 5 0,.int 0 0,.ref 27,.int 7 0,.int 0 0,.ref 40,.int 12 0,.int 0 0,.ref 59,.int 14 0,.int 0 0,.ref 71,.int 16 0,.int 0 0,.ref 83,.int 18 0,.int 0 0,.ref 95,.int 20 0,.int 0 0,.ref 107,.int 23 0,.int 0 0,.ref 119,.int 34 0,.int 0 0,.ref 126,.int 36 0,.int 0 0,.ref 133,.int 38 0,.int 0 0,.ref 140,.int 40 0,.int 0 0,.ref 147,.int 42 0,.int 0 0,.ref 152,.int 44 0,.int 0 0,.ref 157,.int 46 0,.int 0 0,.ref 164,.int 51 0,.int 0 0,.ref 171,.int 58 0,.int 0 0,.ref 178,.int 63 0,.int 0 0,.ref 185,.int 69 0,.int 0 0,.ref 193,.int 77 0,.int 0 0,.ref 198,.int 86 0,.int 0 0,.ref 205,.int 89 0,.int 0 0,.ref 210,.int 96 0,.int 0 0,.ref 217,.int 98 0,.int 0 0,.ref 224,.int 104 0,.int 0 0,.ref 231,.int 109 0,.int 0 0,.ref 236,.int 111 0,.int 0 0,.ref 243,.int 115 0,.int 0 0,.ref 250,.int 118 0,.int 0 0,.ref 257,.int 121 0,.int 0 0,.ref 264,.int 124 0,.int 0 0,.ref 271,.int 128 0,.int 0 0,.ref 279,.int 132 0,.int 0 0,.ref 286,.int 137 0,.int 0 0,.ref 291,.int 139 0,.int 0 0,.ref 298,.int 143 0,.int 0 0,.ref 305,.int 151 0,.int 0 0,.ref 312]}))++[o1,
 o4,
 yf "thing" 324 "low" "high",
 o1,
 o6 "is_between" 10,
 o7 "is_between" 321 "is_between" 23 3 114 327 328,
 o8 "is_between" 10 "leastdeeds.wholes" 319 119,
 o1,
 o4,
 lB "words" 347 "thing",
 o1,
 o6 "is_word" 18,
 o7 "is_word" 344 "is_word" 34 2 121 349 350,
 o8 "is_word" 18 "leastdeeds.machines" 330 126,
 o1,
 o4,
 lB "places" 355 "thing",
 o1,
 o6 "is_place" 19,
 o7 "is_place" 352 "is_place" 36 2 128 357 358,
 o8 "is_place" 19 "leastdeeds.machines" 330 133,
 o1,
 o4,
 o5 "thing" 363,
 o1,
 o6 "is_cost" 20,
 o7 "is_cost" 360 "is_cost" 38 1 135 364 365,
 o8 "is_cost" 20 "leastdeeds.machines" 330 140,
 o1,
 o4,
 lB "long" 370 "thing",
 o1,
 o6 "is_tuple_of" 21,
 o7 "is_tuple_of" 367 "is_tuple_of" 40 2 142 372 373,
 o8 "is_tuple_of" 21 "leastdeeds.machines" 330 147,
 o1,
 o4,
 o6 "is_table" 22,
 mI "is_table" 375 42 2 149 378,
 o8 "is_table" 22 "leastdeeds.machines" 330 152,
 o1,
 o4,
 o6 "is_double_table" 23,
 mI "is_double_table" 381 44 2 154 384,
 o8 "is_double_table" 23 "leastdeeds.machines" 330 157,
 o1,
 o4,
 so "words" 390 "places" "parts" "at" "table" "price",
 o1,
 o6 "is_turn" 24,
 o7 "is_turn" 387 "is_turn" 46 3 159 396 397,
 o8 "is_turn" 24 "leastdeeds.machines" 330 164,
 o1,
 o4,
 G9 "words" 402 "places" "parts" "at" "other" "table" "price",
 o1,
 o6 "is_join" 25,
 o7 "is_join" 399 "is_join" 51 3 166 409 410,
 o8 "is_join" 25 "leastdeeds.machines" 330 171,
 o1,
 o4,
 so "words" 415 "places" "parts" "at" "other" "price",
 o1,
 o6 "is_move" 26,
 o7 "is_move" 412 "is_move" 58 3 173 421 422,
 o8 "is_move" 26 "leastdeeds.machines" 330 178,
 o1,
 o4,
 so "words" 427 "places" "parts" "at" "word" "price",
 o1,
 o6 "is_put" 27,
 o7 "is_put" 424 "is_put" 63 3 180 433 434,
 o8 "is_put" 27 "leastdeeds.machines" 330 185,
 Kw P 436 165,
 o1,
 o4,
 Cc "words" 448 "places" "thing" "sort" "is_sort",
 o1,
 o6 "is_deed" 29,
 o7 "is_deed" 445 "is_deed" 69 3 188 453 454,
 o8 "is_deed" 29 "leastdeeds.machines" 330 193,
 o1,
 o4,
 o6 "is_machine" 30,
 mI "is_machine" 456 77 1 195 459,
 o8 "is_machine" 30 "leastdeeds.machines" 330 198,
 o1,
 o4,
 o5 "thing" 465,
 o1,
 o6 "need_machine" 31,
 o7 "need_machine" 462 "need_machine" 86 1 200 466 467,
 o8 "need_machine" 31 "leastdeeds.machines" 330 205,
 o1,
 o4,
 o6 "beginnings" 32,
 mI "beginnings" 469 89 1 207 472,
 o8 "beginnings" 32 "leastdeeds.machines" 330 210,
 o1,
 o4,
 lB "machine" 478 "thing",
 o1,
 o6 "is_deed_number" 33,
 o7 "is_deed_number" 475 "is_deed_number" 96 2 212 480 481,
 o8 "is_deed_number" 33 "leastdeeds.machines" 330 217,
 o1,
 o4,
 Cb "machine" 486 "row" "place" "thing",
 o1,
 o6 "need_numbers" 34,
 o7 "need_numbers" 483 "need_numbers" 98 2 219 490 491,
 o8 "need_numbers" 34 "leastdeeds.machines" 330 224,
 o1,
 o4,
 lB "machine" 496 "row",
 o1,
 o6 "need_row" 35,
 o7 "need_row" 493 "need_row" 104 2 226 498 499,
 o8 "need_row" 35 "leastdeeds.machines" 330 231,
 o1,
 o4,
 o6 "summed_cost" 36,
 mI "summed_cost" 501 109 2 233 504,
 o8 "summed_cost" 36 "leastdeeds.machines" 330 236,
 o1,
 o4,
 lB "machine" 510 "row",
 o1,
 o6 "cost" 37,
 o7 "cost" 507 "cost" 111 2 238 512 513,
 o8 "cost" 37 "leastdeeds.machines" 330 243,
 o1,
 o4,
 so "deed" 520 "standing" "sort" "at" "table" "price",
 o1,
 o6 "turned" 39,
 o7 "turned" 517 "turned" 115 2 245 526 527,
 o8 "turned" 39 "leastdeeds.runs" 515 250,
 o1,
 o4,
 G9 "deed" 532 "standing" "sort" "at" "other" "table" "price",
 o1,
 o6 "joined" 40,
 o7 "joined" 529 "joined" 118 2 252 539 540,
 o8 "joined" 40 "leastdeeds.runs" 515 257,
 o1,
 o4,
 so "deed" 545 "standing" "sort" "at" "other" "price",
 o1,
 o6 "moved" 41,
 o7 "moved" 542 "moved" 121 2 259 551 552,
 o8 "moved" 41 "leastdeeds.runs" 515 264,
 o1,
 o4,
 so "deed" 557 "standing" "sort" "at" "word" "price",
 o1,
 o6 "put_in" 42,
 o7 "put_in" 554 "put_in" 124 2 266 563 564,
 o8 "put_in" 42 "leastdeeds.runs" 515 271,
 Kw P 566 251,
 o1,
 o4,
 Cb "deed" 578 "standing" "new_word" "at",
 o1,
 o6 "done" 44,
 o7 "done" 575 "done" 128 2 274 582 583,
 o8 "done" 44 "leastdeeds.runs" 515 279,
 o1,
 o4,
 Cc "machine" 588 "row" "beginning" "standings" "number",
 o1,
 o6 "all_standing" 45,
 o7 "all_standing" 585 "all_standing" 132 3 281 593 594,
 o8 "all_standing" 45 "leastdeeds.runs" 515 286,
 o1,
 o4,
 o6 "ends_of" 46,
 mI "ends_of" 596 137 2 288 599,
 o8 "ends_of" 46 "leastdeeds.runs" 515 291,
 o1,
 o4,
 lB "machine" 605 "row",
 o1,
 o6 "behaviour" 47,
 o7 "behaviour" 602 "behaviour" 139 2 293 607 608,
 o8 "behaviour" 47 "leastdeeds.runs" 515 298,
 o1,
 o4,
 G8 "machine" 615 "one" "other" "one_ends" "other_ends" "start" "one_end" "other_end",
 o1,
 o6 "parted" 49,
 o7 "parted" 612 "parted" 143 3 300 623 624,
 o8 "parted" 49 "leastdeeds.alike" 610 305,
 o1,
 o9,
 {cls:=.type "dict",data:=.dict #[eN P "__module__" 635 (.str "leastdeeds.shop" 626),eN P "__qualname__" 637 (.str "Shop" 636),eN P "__firstlineno__" 639 (.int 151 638),eN P "__init__" 648 (.ref 320),eN P "row" 655 (.ref 327),eN P "cost" 662 (.ref 334),eN P "behaviour" 669 (.ref 341),eN P "least" 676 (.ref 348),eN P "put" 685 (.ref 355),eN P "out" 693 (.ref 362),eN P "back" 700 (.ref 369),eN P "change" 708 (.ref 376),eN P "give" 717 (.ref 383),eN P "__static_attributes__" 721 (.ref 384)] 14},
 o1,
 {cls:=.none,data:=.fields #[.int 153 0,.int 4 0,.ref 319,.int 159 0,.int 4 0,.ref 326,.int 162 0,.int 4 0,.ref 333,.int 165 0,.int 4 0,.ref 340,.int 168 0,.int 4 0,.ref 347,.int 171 0,.int 4 0,.ref 354,.int 180 0,.int 4 0,.ref 361,.int 185 0,.int 4 0,.ref 368,.int 190 0,.int 4 0,.ref 375,.int 194 0,.int 4 0,.ref 382]},
 o2 "Shop" 630 151 310 633,
 o3 312 309 "leastdeeds.shop" 626,
 o1,
 o4,
 yf "self" 643 "machine" "row",
 o1,
 lA "__init__" "Shop.__init__" 0 51,
 o7 "__init__" 640 "Shop.__init__" 153 3 314 646 647,
 lu "__init__" "Shop.__init__" 0 51 "leastdeeds.shop" 626 319,
 o1,
 o4,
 o5 "self" 652,
 o1,
 lA "row" "Shop.row" 1 51,
 o7 "row" 649 "Shop.row" 159 1 321 653 654,
 lu "row" "Shop.row" 1 51 "leastdeeds.shop" 626 326,
 o1,
 o4,
 o5 "self" 659,
 o1,
 lA "cost" "Shop.cost" 2 51,
 o7 "cost" 656 "Shop.cost" 162 1 328 660 661,
 lu "cost" "Shop.cost" 2 51 "leastdeeds.shop" 626 333,
 o1,
 o4,
 o5 "self" 666,
 o1,
 lA "behaviour" "Shop.behaviour" 3 51,
 o7 "behaviour" 663 "Shop.behaviour" 165 1 335 667 668,
 lu "behaviour" "Shop.behaviour" 3 51 "leastdeeds.shop" 626 340,
 o1,
 o4,
 o5 "self" 673,
 o1,
 lA "least" "Shop.least" 4 51,
 o7 "least" 670 "Shop.least" 168 1 342 674 675,
 lu "least" "Shop.least" 4 51 "leastdeeds.shop" 626 347,
 o1,
 o4,
 yf "self" 680 "place" "number",
 o1,
 lA "put" "Shop.put" 5 51,
 o7 "put" 677 "Shop.put" 171 3 349 683 684,
 lu "put" "Shop.put" 5 51 "leastdeeds.shop" 626 354,
 o1,
 o4,
 lB "self" 689 "place",
 o1,
 lA "out" "Shop.out" 6 51,
 o7 "out" 686 "Shop.out" 180 2 356 691 692,
 lu "out" "Shop.out" 6 51 "leastdeeds.shop" 626 361,
 o1,
 o4,
 o5 "self" 697,
 o1,
 lA "back" "Shop.back" 7 51,
 o7 "back" 694 "Shop.back" 185 1 363 698 699,
 lu "back" "Shop.back" 7 51 "leastdeeds.shop" 626 368,
 o1,
 o4,
 lB "self" 704 "row",
 o1,
 lA "change" "Shop.change" 8 51,
 o7 "change" 701 "Shop.change" 190 2 370 706 707,
 lu "change" "Shop.change" 8 51 "leastdeeds.shop" 626 375,
 o1,
 o4,
 yf "self" 712 "row" "start",
 o1,
 lA "give" "Shop.give" 9 51,
 o7 "give" 709 "Shop.give" 194 2 377 715 716,
 lu "give" "Shop.give" 9 51 "leastdeeds.shop" 626 382,
 yf "earlier" 718 "machine" "standing",
 o30 P,
 o31,
 {cls:=.type "getset_descriptor",data:=.fields #[.str "__dict__" 722,.ref 386,.builtin "function.__dict__",.builtin "function.__dict__#set"]},
 Kx 724 386,
 qf 386,
 qe 386]
noncomputable def KI (P:N2):List Obj:=((KJ P).set 1 ({cls:=.none,data:=.fields #[.int 1 0,.int 0 0,.ref 20,.int 5 0,.int 0 0,.ref 27,.int 7 0,.int 0 0,.ref 40,.int 12 0,.int 0 0,.ref 59,.int 14 0,.int 0 0,.ref 71,.int 16 0,.int 0 0,.ref 83,.int 18 0,.int 0 0,.ref 95,.int 20 0,.int 0 0,.ref 107,.int 23 0,.int 0 0,.ref 119,.int 34 0,.int 0 0,.ref 126,.int 36 0,.int 0 0,.ref 133,.int 38 0,.int 0 0,.ref 140,.int 40 0,.int 0 0,.ref 147,.int 42 0,.int 0 0,.ref 152,.int 44 0,.int 0 0,.ref 157,.int 46 0,.int 0 0,.ref 164,.int 51 0,.int 0 0,.ref 171,.int 58 0,.int 0 0,.ref 178,.int 63 0,.int 0 0,.ref 185,.int 69 0,.int 0 0,.ref 193,.int 77 0,.int 0 0,.ref 198,.int 86 0,.int 0 0,.ref 205,.int 89 0,.int 0 0,.ref 210,.int 96 0,.int 0 0,.ref 217,.int 98 0,.int 0 0,.ref 224,.int 104 0,.int 0 0,.ref 231,.int 109 0,.int 0 0,.ref 236,.int 111 0,.int 0 0,.ref 243,.int 115 0,.int 0 0,.ref 250,.int 118 0,.int 0 0,.ref 257,.int 121 0,.int 0 0,.ref 264,.int 124 0,.int 0 0,.ref 271,.int 128 0,.int 0 0,.ref 279,.int 132 0,.int 0 0,.ref 286,.int 137 0,.int 0 0,.ref 291,.int 139 0,.int 0 0,.ref 298,.int 143 0,.int 0 0,.ref 305,.int 151 0,.int 0 0,.ref 312,.int 199 0,.int 0 0,.ref 396,.int 208 0,.int 0 0,.ref 403,.int 213 0,.int 0 0,.ref 410,.int 216 0,.int 0 0,.ref 417,.int 229 0,.int 0 0,.ref 422,.int 243 0,.int 0 0,.ref 427,.int 259 0,.int 0 0,.ref 432,.int 271 0,.int 0 0,.ref 439,.int 282 0,.int 0 0,.ref 444,.int 289 0,.int 0 0,.ref 451,.int 300 0,.int 0 0,.ref 458,.int 304 0,.int 0 0,.ref 465,.int 306 0,.int 0 0,.ref 472,.int 316 0,.int 0 0,.ref 479,.int 322 0,.int 0 0,.ref 486,.int 330 0,.int 0 0,.ref 493]}))++[o1,
 o4,
 so "cell" 734 "at" "primes" "one" "two" "three",
 o1,
 o6 "_law_spread" 53,
 o7 "_law_spread" 731 "_law_spread" 199 2 391 740 741,
 o8 "_law_spread" 53 gx 729 396,
 o1,
 o4,
 Cb "script" 746 "cells" "k" "cell",
 o1,
 o6 "_law_open" 54,
 o7 "_law_open" 743 "_law_open" 208 1 398 750 751,
 o8 "_law_open" 54 gx 729 403,
 o1,
 o4,
 o5 "pen" 756,
 o1,
 o6 "_law_anew" 55,
 o7 "_law_anew" 753 "_law_anew" 213 1 405 757 758,
 o8 "_law_anew" 55 gx 729 410,
 o1,
 o4,
 Cc "pen" 763 "many" "at" "cell" "found",
 o1,
 o6 "_law_take" 56,
 o7 "_law_take" 760 "_law_take" 216 2 412 768 769,
 o8 "_law_take" 56 gx 729 417,
 o1,
 o4,
 o6 "_law_same" 57,
 mI "_law_same" 771 229 2 419 774,
 o8 "_law_same" 57 gx 729 422,
 o1,
 o4,
 o6 "_law_tab" 58,
 mI "_law_tab" 777 243 2 424 780,
 o8 "_law_tab" 58 gx 729 427,
 o1,
 o4,
 o6 "_law_deed" 59,
 mI "_law_deed" 783 259 3 429 786,
 o8 "_law_deed" 59 gx 729 432,
 o1,
 o4,
 G8 "pen" 792 "words" "places" "most" "deeds" "k" "again" "deed",
 o1,
 o6 "_law_machine" 60,
 o7 "_law_machine" 789 "_law_machine" 271 4 434 800 801,
 o8 "_law_machine" 60 gx 729 439,
 o1,
 o4,
 o6 "_law_row" 61,
 mI "_law_row" 803 282 3 441 806,
 o8 "_law_row" 61 gx 729 444,
 o1,
 o4,
 G9 "pen" 812 "machine" "rows" "way" "row" "at" "number",
 o1,
 o6 "_law_change" 62,
 o7 "_law_change" 809 "_law_change" 289 3 446 819 820,
 o8 "_law_change" 62 gx 729 451,
 o1,
 o4,
 lB "shop" 825 "told",
 o1,
 o6 "_law_do" 63,
 o7 "_law_do" 822 "_law_do" 300 2 453 827 828,
 o8 "_law_do" 63 gx 729 458,
 o1,
 o4,
 o1,
 o1,
 o6 "_law_orders" 64,
 o7 "_law_orders" 830 "_law_orders" 304 0 460 833 834,
 o8 "_law_orders" 64 gx 729 465,
 o1,
 o4,
 Cb "shop" 839 "turn" "found" "at",
 o1,
 o6 "_law_look_by" 65,
 o7 "_law_look_by" 836 "_law_look_by" 306 2 467 843 844,
 o8 "_law_look_by" 65 gx 729 472,
 o1,
 o4,
 o5 "shop" 849,
 o1,
 o6 "_law_ends_there" 66,
 o7 "_law_ends_there" 846 "_law_ends_there" 316 1 474 850 851,
 o8 "_law_ends_there" 66 gx 729 479,
 o1,
 o4,
 G8 "shop" 856 "machine" "ahead" "told" "behind" "turn" "found" "anew",
 o1,
 o6 "_law_step_right" 67,
 o7 "_law_step_right" 853 "_law_step_right" 322 6 481 864 865,
 o8 "_law_step_right" 67 gx 729 486,
 o1,
 o4,
 Cc "shop" 870 "machine" "rows" "turn" "k",
 o1,
 o6 "_law_home" 68,
 o7 "_law_home" 867 "_law_home" 330 4 488 875 876,
 o8 "_law_home" 68 gx 729 493]
noncomputable def kh:N2->MF:=fun P=>[(2,{cls:=.none,data:=.dict #[]}),
 (3,{cls:=.type "dict",data:=.dict (eN P "__name__" 165 (.str gx 729)::kg3 P).toArray 72}),
 (500,o7 "law" 878 "law" 335 1 495 892 893),
 (501,o8 "law" 69 gx 729 500)]++List.map (fun a=>(a,(KI P).getD (a-11) o1)) [20,21,30,31,47,48,50,51,62,63,74,75,86,87,98,99,110,111,119,120,126,127,133,134,140,141,147,148,152,153,157,158,164,165,171,172,178,179,185,186,187,193,194,198,199,205,206,210,211,217,218,224,225,231,232,236,237,243,244,250,251,257,258,264,265,271,272,273,279,280,286,287,291,292,298,299,305,306,319,320,326,327,333,334,340,341,354,355,361,362,368,369,375,376,382,383,385,386,396,397,403,404,410,411,417,418,422,423,427,428,432,433,439,440,444,445,451,452,458,459,465,466,472,473,479,480,486,487,493,494]
noncomputable def Hy:List Addr:=[2,3,500,501]++[20,21,30,31,47,48,50,51,62,63,74,75,86,87,98,99,110,111,119,120,126,127,133,134,140,141,147,148,152,153,157,158,164,165,171,172,178,179,185,186,187,193,194,198,199,205,206,210,211,217,218,224,225,231,232,236,237,243,244,250,251,257,258,264,265,271,272,273,279,280,286,287,291,292,298,299,305,306,319,320,326,327,333,334,340,341,354,355,361,362,368,369,375,376,382,383,385,386,396,397,403,404,410,411,417,418,422,423,427,428,432,433,439,440,444,445,451,452,458,459,465,466,472,473,479,480,486,487,493,494]
theorem LA:∀P,Hy=(kh P).map (·.1):=fun _=>by kernel_rfl
noncomputable def kq:Na:=PySem.W.view PySem.Challenge.pw_leastdeeds_k54_whole_shops_as_made_anew [0,2,3,4,5,6,7,8,10,12,13,14,15,16,17,18,19,20,21,22,23,24,25,26,27,28,29,30,31,32,33,34,35,36,37,39,40,41,42,43,44,45,46,47,49,51,53,54,55,56,57,58,59,60,61,62,63,64,65,66,67,68,69]
abbrev kH:PySem.W.Hook:=PySem.W.kHook kh Hy LA
noncomputable def n9:List Str:=["SORTS","NEW_WORDS"]
abbrev vR:=PySem.Challenge.rw_leastdeeds_k54_whole_shops_as_made_anew.row
abbrev kX:MI->Bool:=fun s=>PySem.W.xlAt kq [] s&&PySem.W.recOk (PySem.W.RowW.records vR.toRowW) s
noncomputable def Cw (P:N2)(os:NF):NK:=⟨HD.treeOf ((((PySem.W.boot_heap P).objs.toList.set 3 ({cls:=.type "dict",data:=.dict (eN P "__name__" 165 (.str "leastdeeds.errors" 194)::KH P).toArray 17})))++KN P) 0 .nil,114,{},#[],{},319,os⟩
noncomputable def Cu (P:N2)(os:NF):NK:=⟨HD.treeOf ((((PySem.W.boot_heap P).objs.toList.set 3 ({cls:=.type "dict",data:=.dict (eN P "__name__" 165 (.str "leastdeeds.shop" 626)::KG P).toArray 55})))++KJ P) 0 .nil,391,{},#[],{},729,os⟩
noncomputable def Ct (P:N2)(os:NF):NK:=⟨HD.treeOf ((((PySem.W.boot_heap P).objs.toList.set 3 ({cls:=.type "dict",data:=.dict (eN P "__name__" 165 (.str gx 729)::KD P).toArray 71})))++KI P) 0 .nil,495,{},#[],{},878,os⟩
noncomputable def kE:Env:={scope:=PySem.Challenge.pw_leastdeeds_k54_whole_shops_as_made_anew.main.scope,locals:=mainNs,globals:=mainNs,cells:=[],code:=.ref 13,frame:=some 14}
noncomputable def kP (w:Nd)(os:NF):=HD.uS treeTable PySem.Challenge.pw_leastdeeds_k54_whole_shops_as_made_anew w 11 (some (.ref 6)) 12 (HD.wq w.params os) (PySem.W.topStub PySem.Challenge.pw_leastdeeds_k54_whole_shops_as_made_anew)
noncomputable def Cp (w:Nd)(os:NF):=(kP w os).bind fun x=>HD.kz treeTable PySem.Challenge.pw_leastdeeds_k54_whole_shops_as_made_anew w 11 (some (.ref 6)) 1535 x.1 (PySem.W.piecesOf ((PySem.W.behindTheImports PySem.Challenge.pw_leastdeeds_k54_whole_shops_as_made_anew).take 9) kE (.body (PySem.W.behindTheImports PySem.Challenge.pw_leastdeeds_k54_whole_shops_as_made_anew) kE) ⟨0,0,0,0⟩ [PySem.W.topFrame ⟨0,0,0,0⟩])
noncomputable def Cm (w:Nd)(os:NF):Option (Flow×NK×Code×Pos):=some (.next,Cw w.params os,(.body (PySem.W.behindTheImports PySem.Challenge.pw_leastdeeds_k54_whole_shops_as_made_anew) kE),⟨20,0,21,8⟩)
noncomputable def Co (w:Nd)(os:NF):=HD.kz treeTable PySem.Challenge.pw_leastdeeds_k54_whole_shops_as_made_anew w 11 (some (.ref 6)) 1653 (Cw w.params os) (PySem.W.piecesOf (((PySem.W.behindTheImports PySem.Challenge.pw_leastdeeds_k54_whole_shops_as_made_anew).drop 9).take 43) kE (.body (PySem.W.behindTheImports PySem.Challenge.pw_leastdeeds_k54_whole_shops_as_made_anew) kE) ⟨20,0,21,8⟩ [PySem.W.topFrame ⟨0,0,0,0⟩])
noncomputable def Ck (w:Nd)(os:NF):Option (Flow×NK×Code×Pos):=some (.next,Cu w.params os,(.body (PySem.W.behindTheImports PySem.Challenge.pw_leastdeeds_k54_whole_shops_as_made_anew) kE),⟨151,0,197,20⟩)
noncomputable def Cn (w:Nd)(os:NF):=HD.kz treeTable PySem.Challenge.pw_leastdeeds_k54_whole_shops_as_made_anew w 11 (some (.ref 6)) 501 (Cu w.params os) (PySem.W.piecesOf ((((PySem.W.behindTheImports PySem.Challenge.pw_leastdeeds_k54_whole_shops_as_made_anew).drop 9).drop 43).take 17) kE (.body (PySem.W.behindTheImports PySem.Challenge.pw_leastdeeds_k54_whole_shops_as_made_anew) kE) ⟨151,0,197,20⟩ [PySem.W.topFrame ⟨0,0,0,0⟩])
noncomputable def Cj (w:Nd)(os:NF):Option (Flow×NK×Code×Pos):=some (.next,Ct w.params os,(.body (PySem.W.behindTheImports PySem.Challenge.pw_leastdeeds_k54_whole_shops_as_made_anew) kE),⟨330,0,334,84⟩)
noncomputable def kR (w:Nd)(os:NF):=HD.gR treeTable PySem.Challenge.pw_leastdeeds_k54_whole_shops_as_made_anew w 11 (some (.ref 6)) 3874 (Ct w.params os) (PySem.W.restOf ((((PySem.W.behindTheImports PySem.Challenge.pw_leastdeeds_k54_whole_shops_as_made_anew).drop 9).drop 43).drop 17) kE (.body (PySem.W.behindTheImports PySem.Challenge.pw_leastdeeds_k54_whole_shops_as_made_anew) kE) ⟨330,0,334,84⟩ [PySem.W.topFrame ⟨0,0,0,0⟩])
abbrev Ht (P:N2)(s:NK):=HD.kF PySem.Challenge.pw_leastdeeds_k54_whole_shops_as_made_anew kq n9 kX true (PySem.W.boot_heap P) (fun s=>Hy.map s.heap.get?) s.abs
noncomputable def Cs (w:Nd)(os:NF):=(kR w os).map fun s=>(Ht w.params s).1
noncomputable def Cr (w:Nd)(os:NF):=(kR w os).map fun s=>(Ht w.params s).2.1
noncomputable def Cq (w:Nd)(os:NF):=(kR w os).map fun s=>(Ht w.params s).2.2
noncomputable def CA (w:Nd):=some true
noncomputable def Cz (w:Nd):=some (PySem.W.openGood kq n9)
noncomputable def Cy (w:Nd):=some ((kh w.params).map fun p=>some p.2)
noncomputable def _root_.PySem.W.Fast.tw11412557310667705667:Na:=PySem.Challenge.pw_leastdeeds_k54_whole_shops_as_made_anew
theorem _root_.PySem.W.Fast.te11412557310667705667:PySem.Challenge.pw_leastdeeds_k54_whole_shops_as_made_anew=PySem.W.Fast.tw11412557310667705667:=rfl
noncomputable def _root_.PySem.W.Fast.tw15619686379024810262:N2->MF:=K54.kh
theorem _root_.PySem.W.Fast.te15619686379024810262:K54.kh=PySem.W.Fast.tw15619686379024810262:=rfl
noncomputable def _root_.PySem.W.Fast.tw16068286142283443487:N2->NF->NK:=K54.Cw
theorem _root_.PySem.W.Fast.te16068286142283443487:K54.Cw=PySem.W.Fast.tw16068286142283443487:=rfl
noncomputable def _root_.PySem.W.Fast.tw5007265945656297085:N2->NF->NK:=K54.Cu
theorem _root_.PySem.W.Fast.te5007265945656297085:K54.Cu=PySem.W.Fast.tw5007265945656297085:=rfl
noncomputable def _root_.PySem.W.Fast.tw5292658227871879322:N2->NF->NK:=K54.Ct
theorem _root_.PySem.W.Fast.te5292658227871879322:K54.Ct=PySem.W.Fast.tw5292658227871879322:=rfl
theorem LL:Cs=Cs:=rfl
name_quick kq1_54 for Cs by LL
theorem LK:Cr=Cr:=rfl
name_quick kq2_54 for Cr by LK
theorem LN:Cz=Cz:=rfl
name_quick kg2_54 for Cz by LN
theorem LJ:Cq=Cq:=rfl
name_quick kq3_54 for Cq by LJ
theorem LM:Cy=Cy:=rfl
name_quick kg3_54 for Cy by LM
theorem LI:Cp=Cp:=rfl
name_quick kua54 for Cp by LI
theorem LF:Cm=Cm:=rfl
name_quick kva54 for Cm by LF
theorem LH:Co=Co:=rfl
name_quick kub54 for Co by LH
theorem LC:Ck=Ck:=rfl
name_quick kvb54 for Ck by LC
theorem LG:Cn=Cn:=rfl
name_quick kuc54 for Cn by LG
theorem LB:Cj=Cj:=rfl
name_quick kvc54 for Cj by LB
theorem yx:∀(w:Nd) (os:NF),PySem.W.Fast.kua54 (w.withFollow "special-get-raises" false) os=PySem.W.Fast.kva54 (w.withFollow "special-get-raises" false) os:=fun w os=>by kernel_rfl
theorem A0:∀(w:Nd) (os:NF),PySem.W.Fast.kua54 (w.withFollow "special-get-raises" true) os=PySem.W.Fast.kva54 (w.withFollow "special-get-raises" true) os:=fun w os=>by kernel_rfl
theorem ka0:∀(w:Nd) (os:NF),Cp w os=Cm w os:=fun w os=>by
 rw [PySem.W.Fast.kua54_eq,PySem.W.Fast.kva54_eq]
 exact PySem.W.byRow2 "special-get-raises" (P:=fun w=>PySem.W.Fast.kua54 w os=PySem.W.Fast.kva54 w os) (fun w=>yx w os) (fun w=>A0 w os) w
theorem yw:∀(w:Nd) (os:NF),PySem.W.Fast.kub54 (w.withFollow "special-get-raises" false) os=PySem.W.Fast.kvb54 (w.withFollow "special-get-raises" false) os:=fun w os=>by kernel_rfl
theorem AZ:∀(w:Nd) (os:NF),PySem.W.Fast.kub54 (w.withFollow "special-get-raises" true) os=PySem.W.Fast.kvb54 (w.withFollow "special-get-raises" true) os:=fun w os=>by kernel_rfl
theorem ka1:∀(w:Nd) (os:NF),Co w os=Ck w os:=fun w os=>by
 rw [PySem.W.Fast.kub54_eq,PySem.W.Fast.kvb54_eq]
 exact PySem.W.byRow2 "special-get-raises" (P:=fun w=>PySem.W.Fast.kub54 w os=PySem.W.Fast.kvb54 w os) (fun w=>yw w os) (fun w=>AZ w os) w
theorem yv:∀(w:Nd) (os:NF),PySem.W.Fast.kuc54 (w.withFollow "special-get-raises" false) os=PySem.W.Fast.kvc54 (w.withFollow "special-get-raises" false) os:=fun w os=>by kernel_rfl
theorem AY:∀(w:Nd) (os:NF),PySem.W.Fast.kuc54 (w.withFollow "special-get-raises" true) os=PySem.W.Fast.kvc54 (w.withFollow "special-get-raises" true) os:=fun w os=>by kernel_rfl
theorem ka2:∀(w:Nd) (os:NF),Cn w os=Cj w os:=fun w os=>by
 rw [PySem.W.Fast.kuc54_eq,PySem.W.Fast.kvc54_eq]
 exact PySem.W.byRow2 "special-get-raises" (P:=fun w=>PySem.W.Fast.kuc54 w os=PySem.W.Fast.kvc54 w os) (fun w=>yv w os) (fun w=>AY w os) w
theorem yt:∀(w:Nd) (os:NF),PySem.W.Fast.kq1_54 (w.withFollow "special-get-raises" false) os=CA (w.withFollow "special-get-raises" false):=fun w os=>by kernel_rfl
theorem AX:∀(w:Nd) (os:NF),PySem.W.Fast.kq1_54 (w.withFollow "special-get-raises" true) os=CA (w.withFollow "special-get-raises" true):=fun w os=>by kernel_rfl
theorem kl1:∀(w:Nd) (os:NF),Cs w os=CA w:=fun w os=>by
 rw [PySem.W.Fast.kq1_54_eq]
 exact PySem.W.byRow2 "special-get-raises" (P:=fun w=>PySem.W.Fast.kq1_54 w os=CA w) (fun w=>yt w os) (fun w=>AX w os) w
theorem yr:∀(w:Nd) (os:NF),PySem.W.Fast.kq2_54 (w.withFollow "special-get-raises" false) os=PySem.W.Fast.kg2_54 (w.withFollow "special-get-raises" false):=fun w os=>by kernel_rfl
theorem AW:∀(w:Nd) (os:NF),PySem.W.Fast.kq2_54 (w.withFollow "special-get-raises" true) os=PySem.W.Fast.kg2_54 (w.withFollow "special-get-raises" true):=fun w os=>by kernel_rfl
theorem kl2:∀(w:Nd) (os:NF),Cr w os=Cz w:=fun w os=>by
 rw [PySem.W.Fast.kq2_54_eq,PySem.W.Fast.kg2_54_eq]
 exact PySem.W.byRow2 "special-get-raises" (P:=fun w=>PySem.W.Fast.kq2_54 w os=PySem.W.Fast.kg2_54 w) (fun w=>yr w os) (fun w=>AW w os) w
theorem yq:∀(w:Nd) (os:NF),PySem.W.Fast.kq3_54 (w.withFollow "special-get-raises" false) os=PySem.W.Fast.kg3_54 (w.withFollow "special-get-raises" false):=fun w os=>by kernel_rfl
theorem AV:∀(w:Nd) (os:NF),PySem.W.Fast.kq3_54 (w.withFollow "special-get-raises" true) os=PySem.W.Fast.kg3_54 (w.withFollow "special-get-raises" true):=fun w os=>by kernel_rfl
theorem kl3:∀(w:Nd) (os:NF),Cq w os=Cy w:=fun w os=>by
 rw [PySem.W.Fast.kq3_54_eq,PySem.W.Fast.kg3_54_eq]
 exact PySem.W.byRow2 "special-get-raises" (P:=fun w=>PySem.W.Fast.kq3_54 w os=PySem.W.Fast.kg3_54 w) (fun w=>yq w os) (fun w=>AV w os) w
theorem kp:∀(w:Nd) (os:NF),(kP w os).map (·.2)=some ⟨denote treeTable (.body (PySem.W.behindTheImports PySem.Challenge.pw_leastdeeds_k54_whole_shops_as_made_anew) kE),(.body (PySem.W.behindTheImports PySem.Challenge.pw_leastdeeds_k54_whole_shops_as_made_anew) kE),⟨0,0,0,0⟩,[PySem.W.topFrame ⟨0,0,0,0⟩]⟩:=fun w os=>by kernel_rfl
theorem JC:PySem.W.LeftO vR.prog kq n9 kX kH.obs kH.val 7576:=HD.tV (m0:=11) (ann:=some (.ref 6)) (PySem.W.boot_open (by rfl) (by decide) (fun _=>rfl)) (fun w=>by kernel_rfl) fun w os=>HD.yQ (J:=9) (kp w os) (by kernel_rfl) (ka0 w os) (HD.sY (J:=43) (ka1 w os) (HD.sY (J:=17) (ka2 w os) (HD.yP (kl1 w os) (kl2 w os) (kl3 w os))))
end K54
namespace L2
open PySem PySem.Spec PyProof.Rows
abbrev Key:=Sum Int Str
noncomputable def qR:Key->MG->Bool
 |.inl k,v=>Value.isInt k v
 |.inr x,v=>Value.isStrOf x v
noncomputable def Lz (w:Nd):Key->Int
 |.inl k=>hashInt k
 |.inr x=>hashStr w x
theorem cL:∀{k:Key}{v:MG},qR k v=true->(∃i t,k=Sum.inl i/\v=Value.int i t)\/(∃x t,k=Sum.inr x/\v=Value.str x t)
 | .inl i, v, h => by
   obtain ⟨t,e⟩:=Value.isInt_shape (k:=i) (v:=v) h
   exact .inl ⟨i,t,rfl,e⟩
 | .inr x, v, h => by
   obtain ⟨t,e⟩:=Value.isStrOf_shape (x:=x) (v:=v) h
   exact .inr ⟨x,t,rfl,e⟩
theorem jB (x:Str)(t:Tok):qR (.inr x) (.str x t)=true:=by simp [qR,Value.isStrOf]
theorem Hx (a b:Int):decide ((Sum.inl a:Key)=Sum.inl b)=(a==b):=by
 by_cases e:a=b
 ·subst e;simp
 ·have h:¬ (Sum.inl a:Key)=Sum.inl b:=fun q=>e (Sum.inl.inj q)
  rw [decide_eq_false h]
  exact (NA.mpr e).symm
theorem Hu (a b:Str):decide ((Sum.inr a:Key)=Sum.inr b)=decide (a=b):=by
 by_cases e:a=b
 ·subst e;simp
 ·have h:¬ (Sum.inr a:Key)=Sum.inr b:=fun q=>e (Sum.inr.inj q)
  rw [decide_eq_false h,decide_eq_false e]
theorem Hw (a:Int)(b:Str):decide ((Sum.inl a:Key)=Sum.inr b)=false:=decide_eq_false (fun q=>nomatch q)
theorem Hv (a:Str)(b:Int):decide ((Sum.inr a:Key)=Sum.inl b)=false:=decide_eq_false (fun q=>nomatch q)
noncomputable def j0 (prog:Na)(w:Nd):PySem.KeyKind prog w Key where
 is:=qR
 hash:=Lz w
 inj:=fun v a b ha hb=>by
  rcases cL ha with ⟨i,t,rfl,rfl⟩|⟨x,t,rfl,rfl⟩
  ·rcases cL hb with ⟨j,u,rfl,e⟩|⟨y,u,rfl,e⟩
   ·injection e with e1 _;rw [e1]
   ·exact nomatch e
  ·rcases cL hb with ⟨j,u,rfl,e⟩|⟨y,u,rfl,e⟩
   ·exact nomatch e
   ·injection e with e1 _;rw [e1]
 byValue:=fun k v h=>by
  rcases cL h with ⟨i,t,rfl,rfl⟩|⟨x,t,rfl,rfl⟩<;>rfl
 pyHash:=fun hv h=>by
  rcases cL hv with ⟨i,t,rfl,rfl⟩|⟨x,t,rfl,rfl⟩
  ·exact wpAny_pyHash_int h
  ·exact wpAny_pyHash_str h
 eqBool:=fun hu hv h=>by
  rcases cL hu with ⟨i,t,rfl,rfl⟩|⟨x,t,rfl,rfl⟩
  ·rcases cL hv with ⟨j,u,rfl,rfl⟩|⟨y,u,rfl,rfl⟩
   ·rw [Hx] at h;exact wpAny_eqBool_int h
   ·rw [Hw] at h;exact SeqAt.EqAt.int_str i t y u _ _ _ _ h
  ·rcases cL hv with ⟨j,u,rfl,rfl⟩|⟨y,u,rfl,rfl⟩
   ·rw [Hv] at h;exact SeqAt.EqAt.str_int x t j u _ _ _ _ h
   ·rw [Hu] at h;exact wpAny_eqBool_str h
 «strs»:=fun k x t v h=>by
  rcases cL h with ⟨i,u,rfl,e⟩|⟨y,u,rfl,e⟩
  ·exact nomatch e
  ·injection e with e1 _
   subst e1
   cases v<;>rfl
end L2
namespace L2
open PySem PySem.Spec PyProof.Rows
inductive V where
 |non|bl (b:Bool)|int (i:Int)|str (x:Str)|byt (b:Array UInt8)|flt (b:UInt64)|ref (a:Addr)|ty (n:String)
 deriving DecidableEq
noncomputable def RelV:V->MG->Prop
 |.non,u=>u=Value.none
 |.bl b,u=>u=Value.bool b
 |.int i,u=>∃t,u=Value.int i t
 |.str x,u=>∃t,u=Value.str x t
 |.byt b,u=>∃t,u=Value.bytes b t
 |.flt b,u=>∃t,u=Value.float b t
 |.ref a,u=>u=Value.ref a
 |.ty n,u=>u=Value.type n
abbrev Vals:List V->List MG->Prop:=ON RelV
theorem Vals.length {xs:List V}{us:List MG}(r:Vals xs us):xs.length=us.length:=Paired.length r
theorem Vals.get:∀{xs:List V}{us:List MG}{i:Nat}{x:V},Vals xs us->xs[i]?=some x->∃u,us[i]?=some u/\RelV x u
 |_,_,_,_,.nil,e=>by simp at e
 |_,_,0,_,.cons r _,e=>by simp at e;subst e;exact ⟨_,rfl,r⟩
 | _, _, i + 1, x, .cons _ t, e => by
   obtain ⟨u,h1,h2⟩:=Vals.get (i:=i) (x:=x) t (by simpa using e)
   exact ⟨u,by simpa using h1,h2⟩
theorem Vals.set {x:V}{u:MG}(r:RelV x u):∀{xs:List V}{us:List MG} (i:Nat),Vals xs us->Vals (xs.set i x) (us.set i u)
 |_,_,_,.nil=>.nil
 |_,_,0,.cons _ t=>.cons r t
 |_,_,i+1,.cons q t=>.cons q (Vals.set r i t)
theorem Vals.append:∀{xs ys:List V}{us ws:List MG},Vals xs us->Vals ys ws->Vals (xs++ys) (us++ws)
 |_,_,_,_,.nil,s=>s
 |_,_,_,_,.cons r t,s=>.cons r (Vals.append t s)
theorem Vals.take:∀{xs:List V}{us:List MG} (n:Nat),Vals xs us->Vals (xs.take n) (us.take n)
 |_,_,0,_=>.nil
 |_,_,_+1,.nil=>.nil
 |_,_,n+1,.cons r t=>.cons r (Vals.take n t)
theorem Vals.drop:∀{xs:List V}{us:List MG} (n:Nat),Vals xs us->Vals (xs.drop n) (us.drop n)
 |_,_,0,r=>r
 |_,_,_+1,.nil=>.nil
 |_,_,n+1,.cons _ t=>Vals.drop n t
noncomputable def jQ:Option V->Option MG->Prop
 |some v,some u=>RelV v u
 |none,none=>True
 |_,_=>False
noncomputable def KV {κ:Type}:List (κ×V)->List (κ×MG)->Prop:=ON fun (p:κ×V) (q:κ×MG)=>p.1=q.1/\RelV p.2 q.2
noncomputable def kV:Key->V
 |.inl i=>.int i
 |.inr x=>.str x
inductive HO where
 |lst (xs:List V)
 |tup (xs:List V)
 |dK (kvs:List (Key×V))|dT (kvs:List (List Key×V))
 |set (S:Int->Bool) (n:Nat)
 |ins (C dx:Addr) (fs:List (Str×V))
 |own (x:Addr)
 |xd (fs:List (Str×V))
 |met (f x:Addr)
 |rng (lo hi:Int)
 |frz (o:Obj) (u:HO)
 |tbl (ps:Array MG)
 |ext (φ:Heap->Prop)
abbrev Hp:=Addr->Option HO
noncomputable def upd (H:Hp)(a:Addr)(o:HO):Hp:=fun b=>if b=a then some o else H b
theorem bt {H:Hp}{a:Addr}{o:HO}:upd H a o a=some o:=by unfold upd;rw [if_pos rfl]
theorem ax {H:Hp}{a b:Addr}{o:HO}(h:b≠a):upd H a o b=H b:=by unfold upd;rw [if_neg h]
theorem aP {H:Hp}{a b:Addr}{o:HO}(h:H a=some o)(h':H b=none):a≠b:=by
 intro e;subst e;rw [h] at h';cases h'
section
variable (P:Na)(w:Nd)
noncomputable def b9 (H:Hp)(h:Heap)(a:Addr):HO->Prop
 |.lst xs=>xs.length<=sizeLine/\∃(its:List MG) (n:Nat),Vals xs its/\h.get? a=some {cls:=.type "list",data:=.seq its.toArray n}
 |.tup xs=>xs.length<=sizeLine/\∃its:List MG,Vals xs its/\IsTup h a its.toArray
 |.dK kvs=>kvs.length<=sizeLine/\(a==sysModules)=false/\∃vs,KV kvs vs/\h.DictOf (j0 P w) a vs
 |.dT kvs=>kvs.length<=sizeLine/\(a==sysModules)=false/\∃xs:List (List Key×Addr×MG),
  ON (fun (p:List Key×V) (q:List Key×Addr×MG)=>p.1=q.1/\H q.2.1=some (.tup (p.1.map kV))/\RelV p.2 q.2.2) kvs xs/\
  ∃o es ep,h.get? a=some o/\o.ExactDict/\o.data=.dict es ep/\es.toList=xs.map (entryOfKey (tupleKind (j0 P w)))/\(xs.map (·.1)).Nodup
 |.set S n=>h.SetOf (intKind P w) a S n
 |.ins C dx fs=>H dx=some (.own a)/\fs.length<=1000/\dx≠a/\h.get? a=some (PySem.W.instObj C dx)/\
  ∃mA,h.Ns1 dx mA/\(∀f,jQ (fs.lookup f) (mA f))/\PySem.Within mA (fs.map (·.1))
 |.own _=>∃o,h.get? a=some o
 |.xd fs=>∃mA,h.Ns1 a mA/\∀f,jQ (fs.lookup f) (mA f)
 |.rng lo hi=>∃t u v,h.get? a=some {cls:=.type "range",data:=.fields #[.int lo t,.int hi u,.int 1 v]}
 |.frz o u=>h.get? a=some o/\b9 H h a u
 |.tbl ps=>h.get? a=some {cls:=.none,data:=.fields ps}
 |.met f x=>h.get? a=some (PySem.W.methodObj (.ref f) (.ref x))
 |.ext φ=>φ h/\(∃o,h.get? a=some o)/\∀h1 h2:Heap,φ h1->(∀o,h1.get? a=some o->h2.get? a=some o)->φ h2
noncomputable def dN (H:Hp)(h:Heap):Prop:=∀a o,H a=some o->b9 P w H h a o
end
section
variable {P:Na}{w:Nd}{H H':Hp}{h h':Heap}{a:Addr}{o:HO}
theorem b9.lt (x:b9 P w H h a o):a<h.objs.size:=by
 cases o with
 |lst xs=>obtain ⟨_,_,_,_,e⟩:=x;exact MS e
 |tup xs=>obtain ⟨_,_,_,p⟩:=x;exact p.lt
 |dK kvs=>obtain ⟨_,_,_,_,o,_,_,e,_⟩:=x;exact MS e
 |dT kvs=>obtain ⟨_,_,_,_,o,_,_,e,_⟩:=x;exact MS e
 |set S n=>obtain ⟨o,_,_,_,e,_⟩:=x;exact MS e
 |ins C dx fs=>obtain ⟨_,_,_,e,_⟩:=x;exact MS e
 |own y=>obtain ⟨_,e⟩:=x;exact MS e
 |xd fs=>obtain ⟨_,⟨_,_,_,e,_⟩,_⟩:=x;exact MS e
 |rng lo hi=>obtain ⟨_,_,_,e⟩:=x;exact MS e
 |frz ob u=>obtain ⟨e,_⟩:=x;exact MS e
 |tbl ps=>exact MS (show h.get? a=some _ from x)
 |met f y=>exact MS (show h.get? a=some _ from x)
 |ext φ=>obtain ⟨_,⟨_,e⟩,_⟩:=x;exact MS e
theorem ON.mapP {α β:Type}{F G:α->β->Prop}:∀{l₁:List α}{l₂:List β},ON F l₁ l₂->(∀a b,F a b->G a b)->ON G l₁ l₂
 |_,_,.nil,_=>.nil
 |_,_,.cons r t,f=>.cons (f _ _ r) (ON.mapP t f)
theorem b9.stay (x:b9 P w H h a o)(k:∀b u,(b=a\/H b=some (.own a))->h.get? b=some u->h'.get? b=some u)
 (ho:∀b,H b=some (.own a)->H' b=some (.own a)) (ht:∀b xs,H b=some (.tup xs)->H' b=some (.tup xs)):b9 P w H' h' a o:=by
 induction o with
 |lst xs=>obtain ⟨z,its,n,r,e⟩:=x;exact ⟨z,its,n,r,k _ _ (.inl rfl) e⟩
 |tup xs=>obtain ⟨z,its,r,ob,e,c⟩:=x;exact ⟨z,its,r,ob,k _ _ (.inl rfl) e,c⟩
 |dK kvs=>obtain ⟨z,y,vs,r,ob,es,ep,e,c⟩:=x;exact ⟨z,y,vs,r,ob,es,ep,k _ _ (.inl rfl) e,c⟩
 | dT kvs =>
   obtain ⟨z,y,xs,r,ob,es,ep,e,c⟩:=x
   exact ⟨z,y,xs,ON.mapP r fun p q z=>⟨z.1,ht _ _ z.2.1,z.2.2⟩,ob,es,ep,k _ _ (.inl rfl) e,c⟩
 |set S n=>obtain ⟨ob,es,ep,t,e,c⟩:=x;exact ⟨ob,es,ep,t,k _ _ (.inl rfl) e,c⟩
 | ins C dx fs =>
   obtain ⟨d,z,ne,e,mA,⟨od,es,ep,e2,c⟩,r⟩:=x
   exact ⟨ho _ d,z,ne,k _ _ (.inl rfl) e,mA,⟨od,es,ep,k _ _ (.inr d) e2,c⟩,r⟩
 |own y=>obtain ⟨ob,e⟩:=x;exact ⟨ob,k _ _ (.inl rfl) e⟩
 |xd fs=>obtain ⟨mA,⟨od,es,ep,e,c⟩,r⟩:=x;exact ⟨mA,⟨od,es,ep,k _ _ (.inl rfl) e,c⟩,r⟩
 |rng lo hi=>obtain ⟨t,u,v,e⟩:=x;exact ⟨t,u,v,k _ _ (.inl rfl) e⟩
 |frz ob u ih=>obtain ⟨e,q⟩:=x;exact ⟨k _ _ (.inl rfl) e,ih q⟩
 | tbl ps =>
   have e:h.get? a=some {cls:=.none,data:=.fields ps}:=x
   show h'.get? a=some {cls:=.none,data:=.fields ps}
   exact k a _ (.inl rfl) e
 | met f y =>
   have e:h.get? a=some (PySem.W.methodObj (.ref f) (.ref y)):=x
   show h'.get? a=some (PySem.W.methodObj (.ref f) (.ref y))
   exact k a _ (.inl rfl) e
 |ext φ=>obtain ⟨p,⟨o,e⟩,st⟩:=x;exact ⟨st _ _ p fun o q=>k _ _ (.inl rfl) q,⟨o,k _ _ (.inl rfl) e⟩,st⟩
theorem dN.lt (x:dN P w H h)(e:H a=some o):a<h.objs.size:=(x a o e).lt
theorem dN.fresh (x:dN P w H h)(e:h.objs.size<=a):H a=none:=by
 cases q:H a with
 |none=>rfl
 |some u=>exact absurd (M9 (x.lt q) e) (NX _)
theorem dN.kept (x:dN P w H h)(k:∀b u,h.get? b=some u->h'.get? b=some u):dN P w H h':=fun a o e=>
 (x a o e).stay (fun b u _ q=>k b u q) (fun _ q=>q) fun _ _ q=>q
theorem dN.laid (x:dN P w H h)(k:∀b u,h.get? b=some u->h'.get? b=some u)(hp:h.objs.size<=a)(new:b9 P w (upd H a o) h' a o):dN P w (upd H a o) h':=fun b u e=>by
 have hn:=x.fresh hp
 by_cases hb:b=a
 ·subst hb;rw [bt] at e;cases e;exact new
 ·rw [ax hb] at e
  exact (x b u e).stay (fun c v _ q=>k c v q) (fun c q=>by rw [ax (aP q hn)];exact q) fun c xs q=>by rw [ax (aP q hn)];exact q
end
noncomputable def Rd (H:Hp)(a:Addr)(u:HO):Prop:=H a=some u\/∃o,H a=some (.frz o u)
theorem Rd.ok {P:Na}{w:Nd}{H:Hp}{h:Heap}{a:Addr}{u:HO}(r:Rd H a u)(x:dN P w H h):b9 P w H h a u:=by
 rcases r with r|⟨o,r⟩
 ·exact x a u r
 ·obtain ⟨_,q⟩:=x a _ r
  exact q
noncomputable def CY:Option HO->Prop
 |some (.lst _)=>True
 |some (.dK _)=>True
 |some (.dT _)=>True
 |some (.set _ _)=>True
 |some (.ins _ _ _)=>True
 |some (.ext _)=>True
 |_=>False
section
variable {P:Na}{w:Nd}{H:Hp}{h h':Heap}{x e:Addr}{o':HO}
theorem dN.write (ok:dN P w H h)(mu:CY (H x))(he:e=x\/H e=some (.own x))(k:∀b u,b≠e->h.get? b=some u->h'.get? b=some u)(heo:∃u,h'.get? e=some u)
 (new:b9 P w (upd H x o') h' x o'):dN P w (upd H x o') h':=fun b u q=>by
 have nown:∀c y,H c=some (.own y)->c≠x:=fun c y r z=>by subst z;rw [r] at mu;exact mu
 have ntup:∀c xs,H c=some (.tup xs)->c≠x:=fun c xs r z=>by subst z;rw [r] at mu;exact mu
 by_cases hb:b=x
 ·subst hb;rw [bt] at q;cases q;exact new
 ·rw [ax hb] at q
  by_cases hbe:b=e
  ·have q':H b=some (.own x):=by
    rcases he with z|z
    ·exact absurd (hbe.trans z) hb
    ·rw [hbe];exact z
   rw [q] at q';cases q'
   obtain ⟨v,hv⟩:=heo
   exact ⟨v,by rw [hbe];exact hv⟩
  ·refine (ok b u q).stay (fun c v hc r=>k c v ?_ r) (fun c r=>by rw [ax (nown c b r)];exact r) fun c xs r=>by rw [ax (ntup c xs r)];exact r
   rcases hc with rfl|hc
   ·exact hbe
   ·rintro rfl
    rcases he with z|z
    ·exact nown c b hc z
    ·rw [hc] at z;cases z;exact hb rfl
end
structure Un (fs ex:List Addr) (H H':Hp) (h h':Heap):Prop where
 keep:∀b o,h.get? b=some o->H b=none->b∉fs->b∉ex->h'.get? b=some o
 slot:∀b o,h.get? b=some o->H b=none->b∈fs->b∉ex->∃sl,h'.get? b=some {o with slots:=sl}
 free:∀b o,h.get? b=some o->H b=none->b∉ex->H' b=none
 there:∀b o,h.get? b=some o->b∉ex->∃o',h'.get? b=some o'
 tups:∀b xs,H b=some (.tup xs)->H' b=some (.tup xs)
 frzs:∀b o u,H b=some (.frz o u)->H' b=some (.frz o u)
 tbls:∀b ps,H b=some (.tbl ps)->∃more,H' b=some (.tbl (ps++more))
section
variable {fs fs' ex ex':List Addr}{H H1 H2:Hp}{h h1 h2 h':Heap}{a x e:Addr}{o:HO}
theorem Un.any (u:Un fs ex H H1 h h1){b:Addr}{ob:Obj}(q:h.get? b=some ob)(n:H b=none)(hx:b∉ex):∃sl,h1.get? b=some {ob with slots:=sl}:=by
 by_cases hb:b∈fs
 ·exact u.slot b ob q n hb hx
 ·exact ⟨ob.slots,u.keep b ob q n hb hx⟩
theorem Un.kept (k:∀b u,h.get? b=some u->h'.get? b=some u):Un fs ex H H h h':=
 ⟨fun b ob q _ _ _=>k b ob q,fun b ob q _ _ _=>⟨ob.slots,k b ob q⟩,fun _ _ _ n _=>n,fun b ob q _=>⟨ob,k b ob q⟩,fun _ _ q=>q,fun _ _ _ q=>q,fun _ ps q=>⟨#[],by rw [q];simp⟩⟩
theorem Un.refl:Un fs ex H H h h:=Un.kept fun _ _ q=>q
theorem Un.laid (k:∀b u,h.get? b=some u->h'.get? b=some u)(hp:h.objs.size<=a)(hn:H a=none):Un fs ex H (upd H a o) h h' where
 keep:=fun b u q _ _ _=>k b u q
 slot:=fun b u q _ _ _=>⟨u.slots,k b u q⟩
 free:=fun b u q n _=>by rw [ax (Nz (M9 (MS q) hp))];exact n
 there:=fun b u q _=>⟨u,k b u q⟩
 tups:=fun b xs q=>by rw [ax (aP q hn)];exact q
 frzs:=fun b u xs q=>by rw [ax (aP q hn)];exact q
 tbls:=fun b ps q=>⟨#[],by rw [ax (aP q hn),q];simp⟩
theorem Un.write (mu:CY (H x))(he:e=x\/H e=some (.own x))(k:∀b u,b≠e->h.get? b=some u->h'.get? b=some u)(heo:∃u,h'.get? e=some u):Un fs ex H (upd H x o) h h':=by
 have hx:∀b,H b=none->b≠x:=fun b n z=>by subst z;rw [n] at mu;exact mu
 have hb:∀b,H b=none->b≠e:=fun b n z=>by
  subst z
  rcases he with r|r
  ·exact hx b n r
  ·rw [n] at r;cases r
 have hm:∀b u,H b=some u->¬ CY (some u)->b≠x:=fun b u q nm z=>by subst z;rw [q] at mu;exact nm mu
 refine ⟨fun b u q n _ _=>k b u (hb b n) q,fun b u q n _ _=>⟨u.slots,k b u (hb b n) q⟩,fun b u q n _=>by rw [ax (hx b n)];exact n,fun b u q _=>?_,
  fun b xs q=>by rw [ax (hm b _ q fun z=>z)];exact q,fun b u xs q=>by rw [ax (hm b _ q fun z=>z)];exact q,fun b ps q=>⟨#[],by rw [ax (hm b _ q fun z=>z),q];simp⟩⟩
 by_cases hbe:b=e
 ·subst hbe;exact heo
 ·exact ⟨u,k b u hbe q⟩
end
noncomputable def BY (h:Heap)(H:Hp):List Addr:=(List.range h.objs.size).filter fun a=>(H a).isSome
noncomputable def kI (h:Heap)(H:Hp):Heap:=PySem.W.hideAll h (BY h H)
theorem yD (h:Heap)(H:Hp):(kI h H).objs.size=h.objs.size:=PySem.W.hideAll_size _ _
theorem A8 {h:Heap}{H:Hp}{b:Addr}{o:Obj}(e:h.get? b=some o)(n:H b=none):(kI h H).get? b=some o:=
 PySem.W.hideAll_get _ e fun hm=>by
  have q:(H b).isSome=true:=(List.mem_filter.mp hm).2
  rw [n] at q;simp at q
theorem Ew {h:Heap}{H:Hp}{b:Addr}{o:Obj}(e:(kI h H).get? b=some o):h.get? b=some o/\H b=none:=by
 have e':h.get? b=some o:=PySem.W.of_hideAll (BY h H) e
 refine ⟨e',?_⟩
 cases q:H b with
 |none=>rfl
 | some x =>
   have hm:b∈BY h H:=List.mem_filter.mpr ⟨List.mem_range.mpr (MS e'),by simp [q]⟩
   have z:(kI h H).get? b=none:=PySem.W.hideAll_none (BY h H) hm
   rw [z] at e;cases e
end L2
namespace L2
open PySem PySem.Spec PyProof.Rows
structure Mod (K:MF) (mg:Str->Option MG) (base:Heap):Prop where
 kin:K.In base
 glob:base.Ns mainGlobals mg
 blt:∃mb,base.Ns builtinsNs mb/\∀x:Str,x≠"__name__"->mb x=bootBuiltins x
 nolimit:base.NoLimit
structure Cx where
 prog:Na
 w:Nd
 K:MF
 mg:Str->Option MG
 base:Heap
 A:NL
 N:List Str
 s₀:MI
 H₀:Hp
 env:Env
 outer:List Env
 stack:List Env
 ex:List Addr
 fn:Str->Bool
 calm:Bool
 pn:List (Addr×Obj)
 xe:MG->MI->Prop
noncomputable def eU (l:List Env):List Addr:=l.filterMap (·.frame)
abbrev Cx.fs (X:Cx):List Addr:=eU X.outer
noncomputable def qB (sc:Scope)(x:Str):Prop:=sc.names.lookup x=some .local\/sc.names.lookup x=some .cell\/sc.names.lookup x=some .free
noncomputable def Loc (sc:Scope)(x:Str):Prop:=sc.names.lookup x=some .local\/sc.names.lookup x=some .cell
noncomputable def Look (env:Env)(h:Heap)(m:Str->Option MG)(x:Str)(u:MG):Prop:=
 (env.kindOf x=some .local/\m x=some u)\/((env.kindOf x=some .cell\/env.kindOf x=some .free)/\∃c,env.cells.lookup x=some c/\h.IsCell c (some u))
structure Cx.Ok (X:Cx):Prop where
 mod:Mod X.K X.mg X.base
 kind:X.env.scope.kind=.function
 glob:X.env.globals=mainGlobals
 blt:X.env.builtins=builtinsNs
 above:X.s₀.heap.objs.size<=X.env.locals
 inj:∀x y c,X.env.cells.lookup x=some c->X.env.cells.lookup y=some c->x=y
 has:∀x,(X.env.kindOf x=some .cell\/X.env.kindOf x=some .free)->∃c,X.env.cells.lookup x=some c
 cab:∀x c,X.fn x=true->X.env.cells.lookup x=some c->X.s₀.heap.objs.size<=c
 hd:X.calm=true->X.A.handled=none
 frames:X.A.frames=some X.stack
 stk:X.stack=X.outer\/(X.stack=X.env::X.outer/\X.env.frame=some X.env.locals)
 exf:∀b∈X.ex,b≠X.env.locals/\∀x c,X.env.cells.lookup x=some c->c≠b
 bs:∀b o,X.base.get? b=some o->X.s₀.heap.get? b=some o/\X.H₀ b=none
 bsz:X.base.objs.size<=X.s₀.heap.objs.size
 noex:∀b o,X.base.get? b=some o->b∉X.ex
 exfs:∀b∈X.ex,b∉X.fs
 funs:X.s₀.heap.FunFrames X.base X.outer
 frf:∀b∈X.fs,X.H₀ b=none
structure Inv (X:Cx) (pins:List (Addr×Obj)) (σ:List (Option V)) (H:Hp) (s:MI):Prop where
 ok:X.Ok
 os:s.os=X.s₀.os
 bare:AllBare s.gens
 base:Un X.fs X.ex X.H₀ H X.s₀.heap s.heap
 loc:∃m,s.heap.Ns X.env.locals m/\∀(i:Nat) (x:Str) (v:V),X.N[i]?=some x->σ[i]?=some (some v)->qB X.env.scope x->∃u,RelV v u/\Look X.env s.heap m x u
 cell:∀x c,X.env.cells.lookup x=some c->∃v,s.heap.IsCell c v
 free:H X.env.locals=none
 freeC:∀x c,X.env.cells.lookup x=some c->H c=none
 pin:∀p∈X.pn++pins,s.heap.get? p.1=some p.2/\H p.1=none/\p.1≠X.env.locals/\p.1∉X.fs/\∀v,p.2.data≠.cell v
 hok:dN X.prog X.w H s.heap
 len:σ.length=X.N.length
section
variable {X:Cx}{pins:List (Addr×Obj)}{σ:List (Option V)}{H H':Hp}{s:MI}{h':Heap}
theorem Cx.Ok.nofr (ok:X.Ok){b:Addr}{o:Obj}(e:X.base.get? b=some o):b∉X.fs:=fun hb=>by
 have:=(ok.funs.mem hb).1
 rw [e] at this;cases this
theorem Inv.bs (I:Inv X pins σ H s):∀b o,X.base.get? b=some o->s.heap.get? b=some o/\H b=none:=fun b o e=>
 ⟨I.base.keep b o (I.ok.bs b o e).1 (I.ok.bs b o e).2 (I.ok.nofr e) (I.ok.noex b o e),I.base.free b o (I.ok.bs b o e).1 (I.ok.bs b o e).2 (I.ok.noex b o e)⟩
theorem Inv.bk (I:Inv X pins σ H s):∀b o,X.base.get? b=some o->s.heap.get? b=some o:=fun b o e=>(I.bs b o e).1
theorem Inv.mod (I:Inv X pins σ H s):Mod X.K X.mg X.base:=I.ok.mod
theorem Inv.kIn (I:Inv X pins σ H s):X.K.In s.heap:=I.ok.mod.kin.keeps I.bk
theorem Inv.lt (I:Inv X pins σ H s):X.env.locals<s.heap.objs.size:=let ⟨_,hn,_⟩:=I.loc;hn.lt
theorem Inv.sz (I:Inv X pins σ H s):X.s₀.heap.objs.size<=s.heap.objs.size:=MR I.ok.above (Nat.le_of_lt I.lt)
theorem Inv.nofs (I:Inv X pins σ H s){a:Addr}(h:s.heap.objs.size<=a):a∉X.fs:=fun hb=>by
 obtain ⟨_,o,ho,_⟩:=I.ok.funs.mem hb
 exact absurd (M9 (MS ho) (MR I.sz h)) (NX _)
theorem Inv.cne (I:Inv X pins σ H s):∀x c,X.env.cells.lookup x=some c->c≠X.env.locals:=fun x c e z=>by
 obtain ⟨v,o,ho,hd⟩:=I.cell x c e
 obtain ⟨m,⟨o',es,ep,ho',hd',_⟩,_⟩:=I.loc
 rw [z,ho'] at ho;cases ho;rw [hd'] at hd;cases hd
theorem Inv.funs (I:Inv X pins σ H s):s.heap.FunFrames X.base X.outer:=by
 have all:∀(l:List Env),(∀b∈eU l,b∈X.fs)->X.s₀.heap.FunFrames X.base l->s.heap.FunFrames X.base l:=by
  intro l
  induction l with
  |nil=>intro _ _;trivial
  | cons env r ih =>
    intro hs hl
    obtain ⟨hk,⟨L,o,hf,hn,ho,hd⟩,hr⟩:=hl
    have hL:L∈X.fs:=hs L (by unfold eU;rw [OM,hf];exact Ni)
    obtain ⟨sl,e⟩:=I.base.slot L o ho (I.ok.frf L hL) hL fun z=>I.ok.exfs L z hL
    exact ⟨hk,⟨L,_,hf,hn,e,hd⟩,ih (fun b hb=>hs b (by unfold eU;rw [OM,hf];exact MV _ hb)) hr⟩
 exact all X.outer (fun _ hb=>hb) I.ok.funs
theorem Inv.stack (I:Inv X pins σ H s):s.heap.FunFrames X.base X.stack:=by
 rcases I.ok.stk with e|⟨e,hf⟩
 ·rw [e];exact I.funs
 ·rw [e]
  obtain ⟨m,hn,_⟩:=I.loc
  refine .cons (by rw [I.ok.kind];decide) hf hn ?_ I.funs
  exact OP (MR I.ok.bsz I.ok.above)
theorem Inv.stkSub (I:Inv X pins σ H s):∀b∈eU X.stack,b∈X.env.locals::X.fs:=fun b hb=>by
 rcases I.ok.stk with e|⟨e,hf⟩
 ·rw [e] at hb;exact MV _ hb
 ·rw [e] at hb
  unfold eU at hb
  rw [OM,hf] at hb
  exact hb
theorem Inv.stkFree (I:Inv X pins σ H s):∀b∈eU X.stack,H b=none:=fun b hb=>by
 rcases Np.mp (I.stkSub b hb) with e|hb
 ·rw [e];exact I.free
 ·obtain ⟨_,o,ho,_⟩:=I.ok.funs.mem hb
  exact I.base.free b o ho (I.ok.frf b hb) fun z=>I.ok.exfs b z hb
theorem Inv.step {g':Array GenState}{t':Nat}{d':Drawn}{ch:List Addr}(I:Inv X pins σ H s)
 (hch:∀b∈ch,(b∈X.ex\/X.s₀.heap.objs.size<=b)/\b≠X.env.locals/\(∀x c,X.env.cells.lookup x=some c->c≠b)/\∀p∈X.pn++pins,p.1≠b)
 (keep:∀b o,b≠X.env.locals->b∉X.fs->b∉ch->s.heap.get? b=some o->H b=none->h'.get? b=some o)
 (slot:∀b o,b≠X.env.locals->b∈X.fs->b∉ch->s.heap.get? b=some o->H b=none->∃sl,h'.get? b=some {o with slots:=sl}) (free:∀b o,b∉ch->s.heap.get? b=some o->H b=none->H' b=none)
 (there:∀b o,b∉ch->s.heap.get? b=some o->∃o',h'.get? b=some o')
 (tups:∀b xs,H b=some (.tup xs)->H' b=some (.tup xs)) (frzs:∀b o u,H b=some (.frz o u)->H' b=some (.frz o u)) (tbls:∀b ps,H b=some (.tbl ps)->∃more,H' b=some (.tbl (ps++more)))
 (ns:∀m,s.heap.Ns X.env.locals m->h'.Ns X.env.locals m) (hok:dN X.prog X.w H' h') (hg:AllBare g') :
 Inv X pins σ H' {s with heap:=h',gens:=g',drawn:=d',toks:=t'}:=by
 have neL:∀b o,X.s₀.heap.get? b=some o->b≠X.env.locals:=fun b o e=>Nz (M9 (MS e) I.ok.above)
 have neC:∀b o,X.s₀.heap.get? b=some o->b∉X.ex->b∉ch:=fun b o e hx hb=>by
  rcases (hch b hb).1 with z|z
  ·exact hx z
  ·exact absurd (M9 (MS e) z) (NX _)
 have cellK:∀x c,X.env.cells.lookup x=some c->∀v,s.heap.IsCell c v->h'.IsCell c v:=fun x c e v ⟨o,ho,hd⟩=>by
  have nch:c∉ch:=fun z=>(hch c z).2.2.1 x c e rfl
  by_cases hc:c∈X.fs
  ·obtain ⟨sl,q⟩:=slot c o (I.cne x c e) hc nch ho (I.freeC x c e)
   exact ⟨_,q,hd⟩
  ·exact ⟨o,keep c o (I.cne x c e) hc nch ho (I.freeC x c e),hd⟩
 refine ⟨I.ok,I.os,hg,⟨fun b o e n hb hx=>?_,fun b o e n hb hx=>?_,fun b o e n hx=>?_,fun b o e hx=>?_,fun b xs e=>tups b xs (I.base.tups b xs e),fun b o xs e=>frzs b o xs (I.base.frzs b o xs e),fun b ps e=>?_⟩,?_,fun x c e=>?_,?_,fun x c e=>?_,fun p hp=>?_,hok,I.len⟩
 ·exact keep b o (neL b o e) hb (neC b o e hx) (I.base.keep b o e n hb hx) (I.base.free b o e n hx)
 ·obtain ⟨sl,e1⟩:=I.base.slot b o e n hb hx
  obtain ⟨sl',e2⟩:=slot b _ (neL b o e) hb (neC b o e hx) e1 (I.base.free b o e n hx)
  exact ⟨sl',e2⟩
 ·obtain ⟨o',e1⟩:=I.base.there b o e hx
  exact free b o' (neC b o e hx) e1 (I.base.free b o e n hx)
 ·obtain ⟨o',e1⟩:=I.base.there b o e hx
  exact there b o' (neC b o e hx) e1
 ·obtain ⟨m1,e1⟩:=I.base.tbls b ps e
  obtain ⟨m2,e2⟩:=tbls b _ e1
  exact ⟨m1++m2,by rw [e2,Array.append_assoc]⟩
 ·obtain ⟨m,hn,hl⟩:=I.loc
  refine ⟨m,ns m hn,fun i x v e1 e2 e3=>?_⟩
  obtain ⟨u,r,l⟩:=hl i x v e1 e2 e3
  refine ⟨u,r,?_⟩
  rcases l with l|⟨k,c,e,z⟩
  ·exact .inl l
  ·exact .inr ⟨k,c,e,cellK x c e _ z⟩
 ·obtain ⟨v,z⟩:=I.cell x c e
  exact ⟨v,cellK x c e v z⟩
 ·obtain ⟨m,⟨o,_,_,ho,_⟩,_⟩:=I.loc
  exact free _ o (fun z=>(hch _ z).2.1 rfl) ho I.free
 ·obtain ⟨v,o,ho,hd⟩:=I.cell x c e
  exact free c o (fun z=>(hch c z).2.2.1 x c e rfl) ho (I.freeC x c e)
 ·obtain ⟨e,n,ne,nf,d⟩:=I.pin p hp
  have nch:p.1∉ch:=fun z=>(hch p.1 z).2.2.2 p hp rfl
  exact ⟨keep p.1 p.2 ne nf nch e n,free p.1 p.2 nch e n,ne,nf,d⟩
theorem Inv.un {t':Nat}(I:Inv X pins σ H s)(u:Un X.fs [] H H' s.heap h')(hok:dN X.prog X.w H' h'):Inv X pins σ H' {s with heap:=h',toks:=t'}:=by
 obtain ⟨m,⟨o,es,ep,ho,r⟩,_⟩:=id I.loc
 obtain ⟨sl,hL⟩:=u.any ho I.free (by simp)
 exact I.step (g':=s.gens) (d':=s.drawn) (ch:=[]) (fun _ z=>nomatch z) (fun b o _ hb _ e n=>u.keep b o e n hb (by simp)) (fun b o _ hb _ e n=>u.slot b o e n hb (by simp)) (fun b o _ e n=>u.free b o e n (by simp)) (fun b o _ e=>u.there b o e (by simp)) u.tups u.frzs u.tbls (fun m' hm=>by
  obtain ⟨o',es',ep',ho',r'⟩:=hm
  rw [ho] at ho';cases ho'
  exact ⟨_,es',ep',hL,r'⟩) hok I.bare
theorem Inv.call {g':Array GenState}{t':Nat}{d':Drawn}{ch:List Addr}(I:Inv X pins σ H s)(u:Un (eU X.stack) ch H H' s.heap h')(hok:dN X.prog X.w H' h')(hg:AllBare g')
 (hch:∀b∈ch,(b∈X.ex\/X.s₀.heap.objs.size<=b)/\b≠X.env.locals/\(∀x c,X.env.cells.lookup x=some c->c≠b)/\∀p∈X.pn++pins,p.1≠b) :
 Inv X pins σ H' {s with heap:=h',gens:=g',drawn:=d',toks:=t'}:=by
 obtain ⟨m,⟨o,es,ep,ho,r⟩,_⟩:=id I.loc
 obtain ⟨sl,hL⟩:=u.any ho I.free fun z=>(hch _ z).2.1 rfl
 exact I.step (ch:=ch) hch (fun b o hL hb hc e n=>u.keep b o e n (fun z=>(Np.mp (I.stkSub b z)).elim hL hb) hc) (fun b o _ _ hc e n=>u.any e n hc) (fun b o hc e n=>u.free b o e n hc) (fun b o hc e=>u.there b o e hc) u.tups u.frzs u.tbls (fun m' hm=>by
  obtain ⟨o',es',ep',ho',r'⟩:=hm
  rw [ho] at ho';cases ho'
  exact ⟨_,es',ep',hL,r'⟩) hok hg
theorem Inv.turned {t':Nat}{it:Addr}(I:Inv X pins σ H s)(k:∀b o,b≠it->s.heap.get? b=some o->h'.get? b=some o)(hn:H it=none)(hL:it≠X.env.locals)
 (h1:it∈X.ex\/X.s₀.heap.objs.size<=it) (h2:∀x c,X.env.cells.lookup x=some c->c≠it) (h3:∀p∈X.pn++pins,p.1≠it):Inv X pins σ H {s with heap:=h',toks:=t'}:=by
 have nit:∀b u,H b=some u->b≠it:=fun b u e z=>by rw [z,hn] at e;cases e
 refine I.step (g':=s.gens) (d':=s.drawn) (ch:=[it]) (fun b hb=>?_) (fun b o _ _ hc e _=>k b o (fun z=>hc (by simp [z])) e) (fun b o _ _ hc e _=>⟨o.slots,k b o (fun z=>hc (by simp [z])) e⟩) (fun _ _ _ _ n=>n)
  (fun b o hc e=>⟨o,k b o (fun z=>hc (by simp [z])) e⟩) (fun _ _ e=>e) (fun _ _ _ e=>e) (fun b ps e=>⟨#[],by rw [e];simp⟩) (fun m hm=>?_) (fun b u e=>?_) I.bare
 ·have e:b=it:=by simpa using hb
  subst e
  exact ⟨h1,hL,h2,h3⟩
 ·obtain ⟨o,es,ep,ho,r⟩:=hm
  exact ⟨o,es,ep,k _ o (NV hL) ho,r⟩
 ·refine (I.hok b u e).stay (fun c v hc q=>k c v ?_ q) (fun _ q=>q) fun _ _ q=>q
  rcases hc with z|z
  ·rw [z];exact nit b u e
  ·exact nit c _ z
theorem Inv.tok (I:Inv X pins σ H s)(t:Nat):Inv X pins σ H {s with toks:=t}:=I.un (h':=s.heap) (t':=t) Un.refl I.hok
theorem Inv.kept {t':Nat}(I:Inv X pins σ H s)(k:∀b u,s.heap.get? b=some u->h'.get? b=some u):Inv X pins σ H {s with heap:=h',toks:=t'}:=I.un (Un.kept k) (I.hok.kept k)
theorem Inv.laid {a:Addr}{o:HO}{t':Nat}(I:Inv X pins σ H s)(k:∀b u,s.heap.get? b=some u->h'.get? b=some u)(hp:s.heap.objs.size<=a)(new:b9 X.prog X.w (upd H a o) h' a o) :
 Inv X pins σ (upd H a o) {s with heap:=h',toks:=t'}:=I.un (Un.laid k hp (I.hok.fresh hp)) (I.hok.laid k hp new)
theorem Inv.write {x e:Addr}{o:HO}{t':Nat}(I:Inv X pins σ H s)(mu:CY (H x))(he:e=x\/H e=some (.own x))(k:∀b u,b≠e->s.heap.get? b=some u->h'.get? b=some u)(heo:∃u,h'.get? e=some u)
 (new:b9 X.prog X.w (upd H x o) h' x o):Inv X pins σ (upd H x o) {s with heap:=h',toks:=t'}:=I.un (Un.write mu he k heo) (I.hok.write mu he k heo new)
theorem Inv.pins_of {pins':List (Addr×Obj)}(I:Inv X pins σ H s)(h:∀p∈pins',s.heap.get? p.1=some p.2/\H p.1=none/\p.1≠X.env.locals/\p.1∉X.fs/\∀v,p.2.data≠.cell v):Inv X pins' σ H s:=
 ⟨I.ok,I.os,I.bare,I.base,I.loc,I.cell,I.free,I.freeC,fun p hp=>(NC.mp hp).elim (fun z=>I.pin p (Oq _ z)) (h p),I.hok,I.len⟩
theorem sv {N:List Str}(hN:N.Nodup){i j:Nat}{x:Str}(a:N[i]?=some x)(b:N[j]?=some x):i=j:=by
 obtain ⟨h1,e1⟩:=MH.mp a
 obtain ⟨h2,e2⟩:=MH.mp b
 exact (List.getElem_inj hN).mp (e1.trans e2.symm)
theorem pR {M:Model}{A:NL}{E:MG->MI->Prop}{i:Nat}{x:Str}{v:V}{u:MG}{Q:Unit->MI->Prop}(I:Inv X pins σ H s)(hN:X.N.Nodup)(hi:X.N[i]?=some x)(hx:Loc X.env.scope x)(r:RelV v u)
 (h:∀s',Inv X pins (σ.set i (some v)) H s'->(∃a,Heap.SameBut a s.heap s'.heap/\(a=X.env.locals\/X.env.cells.lookup x=some a))->Q () s') (hf:X.fn x=true\/X.env.scope.names.lookup x=some .local:=by first|exact .inl rfl|exact .inr rfl|assumption):wpAny M A (storeName X.env x u) Q E s:=by
 obtain ⟨m,hn,hl⟩:=id I.loc
 have hcls:(X.env.scope.kind==.class||(X.env.scope.kind==.module&&X.env.locals != X.env.globals))=false:=by rw [I.ok.kind];rfl
 have hiσ:i<σ.length:=by rw [I.len];exact (MH.mp hi).1
 have cne:=I.cne
 have tracked:∀{a:Addr}{h':Heap},(∃o,s.heap.get? a=some o/\H a=none)->Heap.SameBut a s.heap h'->dN X.prog X.w H h':=fun {a h'} ha hs b ob e=>by
  obtain ⟨_,_,hfree⟩:=ha
  refine (I.hok b ob e).stay (fun c w' hc q=>(hs.2 c ?_).trans q) (fun _ q=>q) fun _ _ q=>q
  rintro rfl
  rcases hc with rfl|hc
  ·rw [hfree] at e;cases e
  ·rw [hfree] at hc;cases hc
 rcases hx with hk|hk
 ·refine wpAny_storeName_local hk hn (fun h' hn' hs=>?_) hcls
  obtain ⟨oL,_,_,hoL,_⟩:=id hn
  refine h _ ⟨I.ok,I.os,I.bare,⟨fun b o e n hb hx=>?_,fun b o e n hb hx=>?_,I.base.free,fun b o e hx=>?_,I.base.tups,I.base.frzs,I.base.tbls⟩,⟨_,hn',fun j y v' e1 e2 e3=>?_⟩,fun y c e=>?_,I.free,I.freeC,fun p hp=>?_,tracked ⟨oL,hoL,I.free⟩ hs,by simpa using I.len⟩ ⟨_,hs,.inl rfl⟩
  ·exact (hs.2 b (Nz (M9 (MS e) I.ok.above))).trans (I.base.keep b o e n hb hx)
  ·obtain ⟨sl,e1⟩:=I.base.slot b o e n hb hx
   exact ⟨sl,(hs.2 b (Nz (M9 (MS e) I.ok.above))).trans e1⟩
  ·obtain ⟨o',e1⟩:=I.base.there b o e hx
   exact ⟨o',(hs.2 b (Nz (M9 (MS e) I.ok.above))).trans e1⟩
  ·by_cases hj:j=i
   ·subst hj
    rw [hi] at e1;cases e1
    rw [Nf hiσ] at e2
    cases e2
    exact ⟨u,r,.inl ⟨hk,by simp⟩⟩
   ·rw [MW (NV hj)] at e2
    obtain ⟨u',r',q⟩:=hl j y v' e1 e2 e3
    refine ⟨u',r',?_⟩
    rcases q with ⟨k,e⟩|⟨k,c,e,z⟩
    ·refine .inl ⟨k,?_⟩
     have:y≠x:=fun e=>hj (sv hN e1 (e ▸ hi))
     simp [this,e]
    ·exact .inr ⟨k,c,e,z.sameBut hs (cne y c e)⟩
  ·obtain ⟨w',z⟩:=I.cell y c e
   exact ⟨w',z.sameBut hs (cne y c e)⟩
  ·obtain ⟨e,n,ne,nf,d⟩:=I.pin p hp
   exact ⟨(hs.2 p.1 ne).trans e,n,ne,nf,d⟩
 ·have hfn:X.fn x=true:=by
   rcases hf with z|z
   ·exact z
   ·rw [z] at hk;cases hk
  obtain ⟨c,hc⟩:=I.ok.has x (.inl hk)
  obtain ⟨w',z⟩:=I.cell x c hc
  refine wpAny_storeName_cell I.ok.kind hk hc z (fun h' hc' hs=>?_)
  obtain ⟨oc,hoc,hocd⟩:=id z
  refine h {s with heap:=h'} ⟨I.ok,I.os,I.bare,⟨fun b o e n hb hx=>?_,fun b o e n hb hx=>?_,I.base.free,fun b o e hx=>?_,I.base.tups,I.base.frzs,I.base.tbls⟩,⟨m,hn.sameBut hs (NV (cne x c hc)),fun j y v' e1 e2 e3=>?_⟩,fun y c' e=>?_,I.free,I.freeC,fun p hp=>?_,tracked ⟨oc,hoc,I.freeC x c hc⟩ hs,by simpa using I.len⟩ ⟨c,hs,.inr hc⟩
  ·exact (hs.2 b (Nz (M9 (MS e) (I.ok.cab x c hfn hc)))).trans (I.base.keep b o e n hb hx)
  ·obtain ⟨sl,e1⟩:=I.base.slot b o e n hb hx
   exact ⟨sl,(hs.2 b (Nz (M9 (MS e) (I.ok.cab x c hfn hc)))).trans e1⟩
  ·obtain ⟨o',e1⟩:=I.base.there b o e hx
   exact ⟨o',(hs.2 b (Nz (M9 (MS e) (I.ok.cab x c hfn hc)))).trans e1⟩
  ·by_cases hj:j=i
   ·subst hj
    rw [hi] at e1;cases e1
    rw [Nf hiσ] at e2
    cases e2
    exact ⟨u,r,.inr ⟨.inl hk,c,hc,hc'⟩⟩
   ·rw [MW (NV hj)] at e2
    obtain ⟨u',r',q⟩:=hl j y v' e1 e2 e3
    refine ⟨u',r',?_⟩
    rcases q with q|⟨k,c',e,z'⟩
    ·exact .inl q
    ·refine .inr ⟨k,c',e,z'.sameBut hs ?_⟩
     rintro rfl
     exact hj (sv hN e1 (I.ok.inj _ _ _ e hc ▸ hi))
  ·by_cases hcc:c'=c
   ·subst hcc;exact ⟨_,hc'⟩
   ·obtain ⟨w2,z2⟩:=I.cell y c' e
    exact ⟨w2,z2.sameBut hs hcc⟩
  ·obtain ⟨e,n,ne,nf,d⟩:=I.pin p hp
   refine ⟨(hs.2 p.1 ?_).trans e,n,ne,nf,d⟩
   intro q
   rw [q,hoc] at e
   have q':oc=p.2:=MO e
   exact d w' (by rw [<- q'];exact hocd)
theorem zP {M:Model}{A:NL}{E:MG->MI->Prop}{i:Nat}{x:Str}{v:V}{u:MG}{Q:Unit->MI->Prop}(I:Inv X pins σ H s)(hN:X.N.Nodup)(hi:X.N[i]?=some x)(hx:Loc X.env.scope x)(r:RelV v u)
 (h:∀s',Inv X pins (σ.set i (some v)) H s'->Q () s') (hf:X.fn x=true\/X.env.scope.names.lookup x=some .local:=by first|exact .inl rfl|exact .inr rfl|assumption):wpAny M A (storeName X.env x u) Q E s:=
 pR I hN hi hx r (fun s' I' _=>h s' I') hf
theorem Inv.call' {s':MI}{ch:List Addr}(I:Inv X pins σ H s)(ho:s'.os=s.os)(u:Un (eU X.stack) ch H H' s.heap s'.heap)(hok:dN X.prog X.w H' s'.heap)(hg:AllBare s'.gens)
 (hch:∀b∈ch,(b∈X.ex\/X.s₀.heap.objs.size<=b)/\b≠X.env.locals/\(∀x c,X.env.cells.lookup x=some c->c≠b)/\∀p∈X.pn++pins,p.1≠b):Inv X pins σ H' s':=by
 obtain ⟨h',g',d',t',o'⟩:=s'
 have e:o'=s.os:=ho
 subst e
 exact I.call (g':=g') (t':=t') (d':=d') u hok hg hch
end
abbrev XK:=MG->Option Addr->Hp->Prop
abbrev St:=List (Option V)
abbrev VK:=V->Hp->Prop
abbrev TE:=St->Hp->VK->Prop
abbrev TT:=St->Hp->(Bool->Hp->Prop)->Prop
abbrev TA:=St->Hp->(List V->Hp->Prop)->Prop
structure Ends where
 nx:St->Hp->Prop
 rt:VK
 bk:St->Hp->Prop:=fun _ _=>False
 ct:St->Hp->Prop:=fun _ _=>False
abbrev TS:=Ends->St->Hp->Prop
noncomputable def EP (X:Cx)(pins:List (Addr×Obj))(σ:St)(Q:VK)(u:MG)(s':MI):Prop:=∃v H',Inv X pins σ H' s'/\RelV v u/\Q v H'
noncomputable def TP (X:Cx)(pins:List (Addr×Obj))(σ:St)(Q:Bool->Hp->Prop)(b:Bool)(s':MI):Prop:=∃H',Inv X pins σ H' s'/\Q b H'
noncomputable def AP (X:Cx)(pins:List (Addr×Obj))(σ:St)(Q:List V->Hp->Prop)(us:List MG)(s':MI):Prop:=∃vs H',Inv X pins σ H' s'/\Vals vs us/\Q vs H'
noncomputable def SP (X:Cx)(pins:List (Addr×Obj))(D:Ends)(f:Flow)(s':MI):Prop:=
 match f with
 |.next=>∃σ' H',Inv X pins σ' H' s'/\D.nx σ' H'
 |.brk=>∃σ' H',Inv X pins σ' H' s'/\D.bk σ' H'
 |.cont=>∃σ' H',Inv X pins σ' H' s'/\D.ct σ' H'
 |.ret u=>∃v σ' H',Inv X pins σ' H' s'/\RelV v u/\D.rt v H'
noncomputable def PE (X:Cx)(e:Expr)(t:TE):Prop:=
 ∀(pins:List (Addr×Obj)) (s:MI) (σ:St) (H:Hp) (Q:VK),Inv X pins σ H s->t σ H Q->wpAny (model X.prog X.w) X.A (eval e X.env) (EP X pins σ Q) X.xe s
noncomputable def PT (X:Cx)(e:Expr)(t:TT):Prop:=
 ∀(pins:List (Addr×Obj)) (s:MI) (σ:St) (H:Hp) (Q:Bool->Hp->Prop),Inv X pins σ H s->t σ H Q->wpAny (model X.prog X.w) X.A (isTrue e X.env (eval e X.env)) (TP X pins σ Q) X.xe s
noncomputable def PW (X:Cx)(e:Expr)(t:TT):Prop:=
 ∀(whole:Sem MG) (pins:List (Addr×Obj)) (s:MI) (σ:St) (H:Hp) (Q:Bool->Hp->Prop),Inv X pins σ H s->t σ H Q->wpAny (model X.prog X.w) X.A (isTrue e X.env whole) (TP X pins σ Q) X.xe s
theorem PW.pt {X:Cx}{e:Expr}{t:TT}(h:PW X e t):PT X e t:=h _
noncomputable def PA (X:Cx)(es:List Expr)(t:TA):Prop:=
 ∀(pos:Pos) (pins:List (Addr×Obj)) (s:MI) (σ:St) (H:Hp) (Q:List V->Hp->Prop),Inv X pins σ H s->t σ H Q->wpAny (model X.prog X.w) X.A (spliced (backTo pos (starEach es X.env))) (AP X pins σ Q) X.xe s
noncomputable def PS (X:Cx)(st:Stmt)(t:TS):Prop:=
 ∀(pins:List (Addr×Obj)) (s:MI) (σ:St) (H:Hp) (D:Ends),Inv X pins σ H s->t D σ H->wpAny (model X.prog X.w) X.A (exec st X.env) (SP X pins D) X.xe s
noncomputable def lU (X:Cx)(st:List Stmt)(t:TS):Prop:=
 ∀(pins:List (Addr×Obj)) (s:MI) (σ:St) (H:Hp) (D:Ends),Inv X pins σ H s->t D σ H->wpAny (model X.prog X.w) X.A (execs st X.env) (SP X pins D) X.xe s
theorem aN {α:Type}{t:Sem α}{Q Q':α->MI->Prop}{M:Model}{A:NL}{E:MG->MI->Prop}{s:MI}(h:wpAny M A t Q E s)(hQ:∀a s,Q a s->Q' a s):wpAny M A t Q' E s:=wpAny_mono h hQ fun _ _ x=>x
end L2
namespace L2
open PySem PySem.Spec PyProof.Rows
section
variable {X:Cx}
theorem bin {a b:Expr}{ta tb:TE}(ha:PE X a ta)(hb:PE X b tb){pins:List (Addr×Obj)}{s:MI}{σ:St}{H:Hp}{R:V->V->Hp->Prop}(I:Inv X pins σ H s)(h:ta σ H fun x H1=>tb σ H1 fun y H2=>R x y H2)
 {α:Type}{Q:α->MI->Prop}{f:MG->MG->Sem α}
 (hf:∀v u s2 x y H2,Inv X pins σ H2 s2->RelV x v->RelV y u->R x y H2->wpAny (model X.prog X.w) X.A (f v u) Q X.xe s2) :
 wpAny (model X.prog X.w) X.A (eval a X.env) (fun v s₁=>wpAny (model X.prog X.w) X.A (eval b X.env) (fun u s₂=>wpAny (model X.prog X.w) X.A (f v u) Q X.xe s₂) X.xe s₁) X.xe s:=by
 refine aN (ha pins s σ H _ I h) fun v s1 ⟨x,H1,I1,r1,q1⟩=>?_
 refine aN (hb pins s1 σ H1 _ I1 q1) fun u s2 ⟨y,H2,I2,r2,q2⟩=>?_
 exact hf v u s2 x y H2 I2 r1 r2 q2
noncomputable def zM (i:Nat):TE:=fun σ H Q=>∃v,σ[i]?=some (some v)/\Q v H
noncomputable def tC (v:V):TE:=fun _ H Q=>Q v H
theorem nV {i:Nat}{x:Str}{pos:Pos}(hN:X.N[i]?=some x)(hv:qB X.env.scope x)(hd:(x==("__debug__":Str))=false:=by decide)(hcd:(x==("__classdict__":Str))=false:=by decide):PE X (.Name x pos) (zM i):=by
 intro pins s σ H Q I h
 obtain ⟨v,e,h⟩:=h
 obtain ⟨m,hn,hl⟩:=I.loc
 obtain ⟨u,r,l⟩:=hl i x v hN e hv
 have fin:EP X pins σ Q u s:=⟨v,H,I,r,h⟩
 rcases l with ⟨hk,hm⟩|⟨hk,c,hc,hcell⟩
 ·exact wpAny_Name (wpAny_loadName_local I.ok.kind hk hn hm fin) hd
 ·rcases hk with hk|hk
  ·exact wpAny_Name (wpAny_loadName_cell I.ok.kind hk hc hcell fin) hd
  ·exact wpAny_Name (wpAny_loadName_free I.ok.kind hk hc hcell fin hcd) hd
theorem xO {i j pos}:PE X (.Constant (.int i) j pos) (tC (.int i)):=fun _ _ _ H _ I h=>wpAny_Constant_int ⟨.int i,H,I.tok _,⟨_,rfl⟩,h⟩
theorem Jr {b j pos}:PE X (.Constant (.bool b) j pos) (tC (.bl b)):=fun _ _ _ H _ I h=>Constant_bool ⟨.bl b,H,I,rfl,h⟩
theorem GL {j pos}:PE X (.Constant .none j pos) (tC .non):=fun _ _ _ H _ I h=>Constant_none ⟨.non,H,I,rfl,h⟩
theorem GH {x j pos}:PE X (.Constant (.str x) j pos) (tC (.str x)):=fun _ _ _ H _ I h=>Calls.Constant_str ⟨.str x,H,I.tok _,⟨_,rfl⟩,h⟩
noncomputable def Gl (X:Cx)(x:Str):Prop:=X.env.kindOf x=some .globalImplicit
theorem fj {E:MG->MI->Prop}{pins:List (Addr×Obj)}{s:MI}{σ:St}{H:Hp}{x:Str}{u:MG}{pos:Pos}{Q:MG->MI->Prop}(I:Inv X pins σ H s)(hg:Gl X x)(hm:X.mg x=some u)(h:Q u s)
 (hd:(x==("__debug__":Str))=false:=by decide):wpAny (model X.prog X.w) X.A (eval (.Name x pos) X.env) Q E s:=
 Calls.Name_function_global I.ok.kind hg (Calls.loadGlobal_global (by rw [I.ok.glob];exact I.mod.glob.keeps I.bk) hm h) hd
theorem fD {E:MG->MI->Prop}{pins:List (Addr×Obj)}{s:MI}{σ:St}{H:Hp}{x:Str}{u:MG}{pos:Pos}{Q:MG->MI->Prop}(I:Inv X pins σ H s)(hg:Gl X x)(hm:X.mg x=none)(hv:bootBuiltins x=some u)(h:Q u s)
 (hn:x≠"__name__":=by decide) (hd:(x==("__debug__":Str))=false:=by decide):wpAny (model X.prog X.w) X.A (eval (.Name x pos) X.env) Q E s:=by
 obtain ⟨mb,h1,h2⟩:=I.mod.blt
 exact Calls.Name_function_global I.ok.kind hg (Calls.loadGlobal_builtin (by rw [I.ok.glob];exact I.mod.glob.keeps I.bk) hm (by rw [I.ok.blt];exact h1.keeps I.bk) ((h2 x hn).trans hv) h) hd
theorem jY {x:Str}{v:V}{u:MG}{pos:Pos}(hg:Gl X x)(hm:X.mg x=some u)(r:RelV v u)(hd:(x==("__debug__":Str))=false:=by decide):PE X (.Name x pos) (tC v):=
 fun _ _ _ H _ I h=>fj I hg hm ⟨v,H,I,r,h⟩ hd
theorem Eo {x:Str}{v:V}{u:MG}{pos:Pos}(hg:Gl X x)(hm:X.mg x=none)(hv:bootBuiltins x=some u)(r:RelV v u)(hn:x≠"__name__":=by decide)(hd:(x==("__debug__":Str))=false:=by decide):PE X (.Name x pos) (tC v):=
 fun _ _ _ H _ I h=>fD I hg hm hv ⟨v,H,I,r,h⟩ hn hd
variable {a b:Expr}{ta tb:TE}{pos:Pos}
variable {tA tB':TT}{rest:List Expr}
noncomputable def jd (t u:TT):TT:=fun σ H Q=>t σ H fun c H1=>if c=true then u σ H1 Q else Q false H1
noncomputable def gj (t u:TT):TT:=fun σ H Q=>t σ H fun c H1=>if c=true then Q true H1 else u σ H1 Q
noncomputable def bH (t:TT):TT:=fun σ H Q=>t σ H fun c H1=>Q (!c) H1
theorem Eb (ha:PT X a tA):PW X (.BoolOp .And [a] pos) tA:=by
 intro wh pins s σ H Q I h
 refine isTrue_and (aN (ha pins s σ H Q I h) fun c s1 e=>?_)
 cases c with
 |true=>exact isTrue_and_nil e
 |false=>exact e
theorem Gu (ha:PT X a tA):PW X (.BoolOp .Or [a] pos) tA:=by
 intro wh pins s σ H Q I h
 refine isTrue_or (aN (ha pins s σ H Q I h) fun c s1 e=>?_)
 cases c with
 |false=>exact isTrue_or_nil e
 |true=>exact e
theorem Gv (ha:PT X a tA)(hb:PW X (.BoolOp .And (b::rest) pos) tB'):PW X (.BoolOp .And (a::b::rest) pos) (jd tA tB'):=by
 intro wh pins s σ H Q I h
 refine isTrue_and (aN (ha pins s σ H _ I h) fun c s1 ⟨H1,I1,q1⟩=>?_)
 cases c with
 |true=>exact hb wh pins s1 σ H1 Q I1 q1
 |false=>exact ⟨H1,I1,q1⟩
theorem Jk (ha:PT X a tA)(hb:PW X (.BoolOp .Or (b::rest) pos) tB'):PW X (.BoolOp .Or (a::b::rest) pos) (gj tA tB'):=by
 intro wh pins s σ H Q I h
 refine isTrue_or (aN (ha pins s σ H _ I h) fun c s1 ⟨H1,I1,q1⟩=>?_)
 cases c with
 |true=>exact ⟨H1,I1,q1⟩
 |false=>exact hb wh pins s1 σ H1 Q I1 q1
theorem Gw (ha:PT X a tA):PT X (.UnaryOp .Not a pos) (bH tA):=by
 intro pins s σ H Q I h
 exact isTrue_not (ha pins s σ H (fun c H1=>Q (!c) H1) I h)
noncomputable def Jc (ta tb:TE):TE:=fun σ H Q=>ta σ H fun x H1=>∃c,x=.bl c/\if c=true then tb σ H1 Q else Q (.bl false) H1
noncomputable def K8 (ta tb:TE):TE:=fun σ H Q=>ta σ H fun x H1=>∃c,x=.bl c/\if c=true then Q (.bl true) H1 else tb σ H1 Q
noncomputable def I8 (ta:TE):TE:=fun σ H Q=>ta σ H fun x H1=>∃c,x=.bl c/\Q (.bl (!c)) H1
theorem GJ {op}{t:TE}(h:PE X a t):PE X (.BoolOp op [a] pos) t:=fun pins s σ H Q I hw=>BoolOp_one (h pins s σ H Q I hw)
theorem GQ (ha:PE X a ta)(hb:PE X (.BoolOp .And (b::rest) pos) tb):PE X (.BoolOp .And (a::b::rest) pos) (Jc ta tb):=by
 intro pins s σ H Q I h
 refine BoolOp_and (aN (ha pins s σ H _ I h) fun v s1 ⟨x,H1,I1,r1,q1⟩=>?_)
 obtain ⟨c,rfl,q1⟩:=q1
 cases r1
 refine tqp ?_
 cases c with
 |true=>exact hb pins s1 σ H1 Q I1 q1
 |false=>exact ⟨.bl false,H1,I1,rfl,q1⟩
theorem Jm (ha:PE X a ta)(hb:PE X (.BoolOp .Or (b::rest) pos) tb):PE X (.BoolOp .Or (a::b::rest) pos) (K8 ta tb):=by
 intro pins s σ H Q I h
 refine BoolOp_or (aN (ha pins s σ H _ I h) fun v s1 ⟨x,H1,I1,r1,q1⟩=>?_)
 obtain ⟨c,rfl,q1⟩:=q1
 cases r1
 refine tqp ?_
 cases c with
 |false=>exact hb pins s1 σ H1 Q I1 q1
 |true=>exact ⟨.bl true,H1,I1,rfl,q1⟩
theorem GK (ha:PE X a ta):PE X (.UnaryOp .Not a pos) (I8 ta):=by
 intro pins s σ H Q I h
 refine UnaryOp_ (aN (ha pins s σ H _ I h) fun v s1 ⟨x,H1,I1,r1,q1⟩=>?_)
 obtain ⟨c,rfl,q1⟩:=q1
 cases r1
 exact not_of (tqp ⟨.bl (!c),H1,I1,rfl,q1⟩)
noncomputable def tIf (t:TT)(ta tb:TE):TE:=fun σ H Q=>t σ H fun c H1=>if c=true then ta σ H1 Q else tb σ H1 Q
theorem sd {c:Expr}(hc:PT X c tA)(ha:PE X a ta)(hb:PE X b tb):PE X (.IfExp c a b pos) (tIf tA ta tb):=by
 intro pins s σ H Q I h
 refine wpAny_IfExp (aN (hc pins s σ H _ I h) fun d s1 ⟨H1,I1,q1⟩=>?_)
 cases d with
 |true=>exact ha pins s1 σ H1 Q I1 q1
 |false=>exact hb pins s1 σ H1 Q I1 q1
end
end L2
namespace L2
open PySem PySem.Spec PyProof.Rows
noncomputable def bV (K:MF)(H:Hp)(a:Addr)(xs:List V):Prop:=
 Rd H a (.lst xs)\/
  ∃(o:Obj) (its:Array MG) (n:Nat),K.lookup a=some o/\o.cls=.type "list"/\o.dict=none/\o.data=.seq its n/\its.size<=sizeLine/\Vals xs its.toList
noncomputable def di (K:MF)(H:Hp)(a:Addr)(xs:List V):Prop:=
 Rd H a (.tup xs)\/
  ∃(o:Obj) (its:Array MG) (n:Nat),K.lookup a=some o/\o.cls=.type "tuple"/\o.data=.seq its n/\its.size<=sizeLine/\Vals xs its.toList
noncomputable def Md:MG->Option V
 |.none=>some .non
 |.bool b=>some (.bl b)
 |.int i _=>some (.int i)
 |.str x _=>some (.str x)
 |.bytes b _=>some (.byt b)
 |.float b _=>some (.flt b)
 |.ref a=>some (.ref a)
 |.type n=>some (.ty n)
 |_=>none
theorem RelV.abs {x:V}{u:MG}(r:RelV x u):Md u=some x:=by
 cases x with
 |non=>cases r;rfl
 |bl _=>cases r;rfl
 |int _=>obtain ⟨t,rfl⟩:=r;rfl
 |str _=>obtain ⟨t,rfl⟩:=r;rfl
 |byt _=>obtain ⟨t,rfl⟩:=r;rfl
 |flt _=>obtain ⟨t,rfl⟩:=r;rfl
 |ref _=>cases r;rfl
 |ty _=>cases r;rfl
theorem RelV.inj {x y:V}{u:MG}(r:RelV x u)(q:RelV y u):x=y:=MO (r.abs.symm.trans q.abs)
theorem Vals.inj:∀{xs ys:List V}{us:List MG},Vals xs us->Vals ys us->xs=ys
 |_,_,_,.nil,.nil=>rfl
 |_,_,_,.cons r t,.cons r' t'=>by rw [r.inj r',Vals.inj t t']
section
variable {X:Cx}{pins:List (Addr×Obj)}{σ:St}{H:Hp}{s:MI}{a:Addr}{xs ys:List V}
theorem bV.of {K:MF}(h:H a=some (.lst xs)):bV K H a xs:=.inl (.inl h)
theorem di.of {K:MF}(h:H a=some (.tup xs)):di K H a xs:=.inl (.inl h)
theorem Inv.list (I:Inv X pins σ H s)(h:bV X.K H a xs):∃its:List MG,Vals xs its/\PlainL s.heap a its.toArray/\xs.length<=sizeLine:=by
 rcases h with h|⟨o,its,n,hk,hc,hd,hs,hz,r⟩
 ·obtain ⟨z,its,n,r,e⟩:=h.ok I.hok
  exact ⟨its,r,⟨_,n,e,rfl,rfl,rfl⟩,z⟩
 ·refine ⟨its.toList,r,⟨o,n,I.kIn a o hk,hc,hd,by simpa using hs⟩,?_⟩
  have e:=r.length
  simp only [Ot] at e
  omega
theorem Inv.tuple (I:Inv X pins σ H s)(h:di X.K H a xs):∃its:List MG,Vals xs its/\IsTup s.heap a its.toArray/\xs.length<=sizeLine:=by
 rcases h with h|⟨o,its,n,hk,hc,hs,hz,r⟩
 ·obtain ⟨z,its,r,p⟩:=h.ok I.hok
  exact ⟨its,r,p,z⟩
 ·refine ⟨its.toList,r,⟨o,I.kIn a o hk,hc,n,by simpa using hs⟩,?_⟩
  have e:=r.length
  simp only [Ot] at e
  omega
theorem Inv.list_inj (I:Inv X pins σ H s)(h:bV X.K H a xs)(h':bV X.K H a ys):xs=ys:=by
 obtain ⟨its,r,⟨o,n,e,_,_,d⟩,_⟩:=I.list h
 obtain ⟨its',r',⟨o',n',e',_,_,d'⟩,_⟩:=I.list h'
 rw [e] at e';cases e'
 rw [d] at d'
 injection d' with d1 _
 have:its=its':=by simpa using congrArg Array.toList d1
 subst this
 exact r.inj r'
theorem Inv.tuple_inj (I:Inv X pins σ H s)(h:di X.K H a xs)(h':di X.K H a ys):xs=ys:=by
 obtain ⟨its,r,⟨o,e,_,n,d⟩,_⟩:=I.tuple h
 obtain ⟨its',r',⟨o',e',_,n',d'⟩,_⟩:=I.tuple h'
 rw [e] at e';cases e'
 rw [d] at d'
 injection d' with d1 _
 have:its=its':=by simpa using congrArg Array.toList d1
 subst this
 exact r.inj r'
end
section
variable {X:Cx}{st:Stmt}{rest:List Stmt}{t u:TS}{e:Expr}{te:TE}{pos:Pos}
noncomputable def B0:TS:=fun D σ H=>D.nx σ H
noncomputable def K1 (t u:TS):TS:=fun D σ H=>t {D with nx:=u D} σ H
theorem uz:lU X [] B0:=fun _ _ σ H _ I h=>wpAny_execs_nil ⟨σ,H,I,h⟩
theorem m8 (h1:PS X st t)(h2:lU X rest u):lU X (st::rest) (K1 t u):=by
 intro pins s σ H D I h
 refine wpAny_execs_cons (aN (h1 pins s σ H {D with nx:=u D} I h) fun f s1 q=>?_)
 cases f with
 | next =>
   obtain ⟨σ',H',I',q⟩:=q
   exact h2 pins s1 σ' H' D I' q
 |ret v=>exact q
 |brk=>exact q
 |cont=>exact q
theorem Ef:PS X (.Pass pos) B0:=fun _ _ σ H _ I h=>wpAny_Pass ⟨σ,H,I,h⟩
theorem Inv.quiet {pins:List (Addr×Obj)}{σ:St}{H:Hp}{s:MI}(I:Inv X pins σ H s):interactive X.env=false:=by simp [interactive,I.ok.kind]
noncomputable def Ja (te:TE):TS:=fun D σ H=>te σ H fun _ H1=>D.nx σ H1
theorem l7 (he:PE X e te)(hs:swapsWith e none pos.line X.env=pure false:=by rfl):PS X (.Expr e pos) (Ja te):=by
 intro pins s σ H D I h
 exact wpAny_Expr_any (aN (he pins s σ H _ I h) fun v s1 ⟨x,H1,I1,r1,q1⟩=>⟨σ,H1,I1,q1⟩) I.quiet hs
noncomputable def K5 (te:TE):TS:=fun D σ H=>te σ H D.rt
theorem xI (he:PE X e te):PS X (.Return (some e) pos) (K5 te):=by
 intro pins s σ H D I h
 exact wpAny_Return_some (aN (he pins s σ H _ I h) fun v s1 ⟨x,H1,I1,r1,q1⟩=>⟨x,σ,H1,I1,r1,q1⟩)
noncomputable def IZ:TS:=fun D _ H=>D.rt .non H
theorem Ee:PS X (.Return none pos) IZ:=fun _ _ σ H _ I h=>wpAny_Return_none ⟨.non,σ,H,I,rfl,h⟩
noncomputable def Lb (c:TT)(t u:TS):TS:=fun D σ H=>c σ H fun b H1=>if b=true then t D σ H1 else u D σ H1
theorem Jl {c:Expr}{a b:List Stmt}{tc:TT}(hc:PT X c tc)(ha:lU X a t)(hb:lU X b u):PS X (.If c a b pos) (Lb tc t u):=by
 intro pins s σ H D I h
 refine wpAny_If (aN (hc pins s σ H _ I h) fun d s1 ⟨H1,I1,q1⟩=>?_)
 cases d with
 |true=>exact ha pins s1 σ H1 D I1 q1
 |false=>exact hb pins s1 σ H1 D I1 q1
end
abbrev TG:=V->St->Hp->(St->Hp->Prop)->Prop
abbrev oG:=List V->St->Hp->(St->Hp->Prop)->Prop
noncomputable def PG (X:Cx)(target:Expr)(t:TG):Prop:=
 ∀(pins:List (Addr×Obj)) (s:MI) (σ:St) (H:Hp) (v:V) (u:MG) (Q:St->Hp->Prop),Inv X pins σ H s->RelV v u->t v σ H Q->
  wpAny (model X.prog X.w) X.A (assign target X.env u) (fun _ s'=>∃σ' H',Inv X pins σ' H' s'/\Q σ' H') X.xe s
noncomputable def tQ (X:Cx)(ts:List Expr)(t:oG):Prop:=
 ∀(pins:List (Addr×Obj)) (s:MI) (σ:St) (H:Hp) (vs:List V) (us:List MG) (Q:St->Hp->Prop),Inv X pins σ H s->Vals vs us->t vs σ H Q->
  wpAny (model X.prog X.w) X.A (assignInOrder ((assignEach ts X.env).map (·.2)) us) (fun _ s'=>∃σ' H',Inv X pins σ' H' s'/\Q σ' H') X.xe s
abbrev BA:=V->V->V->Hp->(Hp->Prop)->Prop
noncomputable def IG (X:Cx)(t:BA):Prop:=
 ∀(pins:List (Addr×Obj)) (s:MI) (σ:St) (H:Hp) (o i v:V) (ov iv u:MG) (Q:Hp->Prop),Inv X pins σ H s->RelV o ov->RelV i iv->RelV v u->t o i v H Q->
  wpAny (model X.prog X.w) X.A (setItem ov iv u) (fun _ s'=>∃H',Inv X pins σ H' s'/\Q H') X.xe s
section
variable {X:Cx}{pos:Pos}
noncomputable def JG (i:Nat):TG:=fun v σ H Q=>Q (σ.set i (some v)) H
theorem uC {i:Nat}{x:Str}(hN:X.N.Nodup)(hi:X.N[i]?=some x)(hx:Loc X.env.scope x)(hf:X.fn x=true\/X.env.scope.names.lookup x=some .local:=by first|exact .inl rfl|exact .inr rfl|assumption):PG X (.Name x pos) (JG i):=by
 intro pins s σ H v u Q I r h
 exact wpAny_assign_Name (zP I hN hi hx r (fun s' I'=>⟨_,H,I',h⟩) hf)
noncomputable def ah:oG:=fun vs σ H Q=>vs=[]/\Q σ H
noncomputable def ae (t:TG)(u:oG):oG:=fun vs σ H Q=>∃v r,vs=v::r/\t v σ H fun σ' H'=>u r σ' H' Q
theorem Ej:tQ X [] ah:=by
 intro pins s σ H vs us Q I r h
 obtain ⟨e,h⟩:=h
 subst e
 cases r
 exact assignInOrder_nil ⟨σ,H,I,h⟩
theorem Ax {e:Expr}{es:List Expr}{t:TG}{u:oG}(h1:PG X e t)(h2:tQ X es u)
 (hs:(assignEach (e::es) X.env).map (·.2)=assign e X.env::(assignEach es X.env).map (·.2):=by rfl):tQ X (e::es) (ae t u):=by
 intro pins s σ H vs us Q I r h
 obtain ⟨v,vr,e1,h⟩:=h
 subst e1
 cases r with
 | cons r rr =>
   rw [hs]
   refine assignInOrder_cons (aN (h1 pins s σ H _ _ _ I r h) fun _ s1 ⟨σ1,H1,I1,q1⟩=>?_)
   exact h2 pins s1 σ1 H1 _ _ Q I1 rr q1
noncomputable def cJ (K:MF)(n:Nat)(t:oG):TG:=fun v σ H Q=>∃a xs,v=.ref a/\di K H a xs/\xs.length=n/\t xs σ H Q
theorem GD {es:List Expr}{k:Nat}{t:oG}{n:Nat}(hc:X.calm=true)(h:tQ X es t)
 (hn:(assignEach es X.env).length=n:=by rfl) (hst:(assignEach es X.env).findIdx? (·.1)=none:=by rfl):PG X (.Tuple es k pos) (cJ X.K n t):=by
 intro pins s σ H v u Q I r hw
 obtain ⟨a,xs,e1,hq,hl,hw⟩:=hw
 subst e1
 cases r
 obtain ⟨its,rv,ht,hz⟩:=I.tuple hq
 refine assign_Tuple_tuple (I.ok.hd hc) ht (by simp [hn,<- hl,rv.length]) hst fun h' hx=>?_
 have I1:Inv X pins σ H {s with heap:=h'}:=I.kept (t':=s.toks) fun b o e=>hx b o (Nz (MS e)) e
 exact h pins _ σ H xs _ Q I1 (by simpa using rv) hw
noncomputable def LR (to ti:TE)(t:BA):TG:=fun v σ H Q=>to σ H fun o H1=>ti σ H1 fun i H2=>t o i v H2 fun H3=>Q σ H3
theorem GF {o i:Expr}{to ti:TE}{t:BA}(ho:PE X o to)(hi:PE X i ti)(hs:IG X t)
 (ha:∀v,assign (.Subscript o i pos) X.env v=(do
  let ov <- holding [v] (eval o X.env)
  let iv <- holding [v,ov] (eval i X.env)
  standAt pos
  holding [v,ov,iv] (setItem ov iv v)
  release [v,ov,iv] []):=by intro _;rfl):PG X (.Subscript o i pos) (LR to ti t):=by
 intro pins s σ H v u Q I r h
 rw [ha]
 refine tqa (tqo (aN (ho pins s σ H _ I h) fun ov s1 ⟨x,H1,I1,r1,q1⟩=>?_))
 refine tqa (tqo (aN (hi pins s1 σ H1 _ I1 q1) fun iv s2 ⟨y,H2,I2,r2,q2⟩=>?_))
 refine tqa (wpAny_standAt (tqa (tqo (aN (hs pins s2 σ H2 x y v ov iv u _ I2 r1 r2 r q2) fun _ s3 ⟨H3,I3,q3⟩=>?_))))
 exact wpAny_release ⟨σ,H3,I3,q3⟩
noncomputable def Lf (te:TE)(g:TG):TS:=fun D σ H=>te σ H fun x H1=>g x σ H1 D.nx
theorem rY {tg e:Expr}{te:TE}{g:TG}(he:PE X e te)(hg:PG X tg g)(hs:swapsWithSole [tg] e pos.line X.env=pure false:=by rfl)(hw:swappedStores [tg] e X.env=pure none:=by rfl)
 (h1:(assignEach [tg] X.env).map (·.2)=[assign tg X.env]:=by rfl):PS X (.Assign [tg] e pos) (Lf te g):=by
 intro pins s σ H D I h
 refine wpAny_Assign_stores (aN (he pins s σ H _ I h) fun v s1 ⟨x,H1,I1,r1,q1⟩=>?_) hs hw
 rw [h1]
 exact aN (hg pins s1 σ H1 x v _ I1 r1 q1) fun _ s2 q=>q
end
structure It where
 go:Nat->Hp->Prop
 yld:Nat->Hp->V->Hp->Prop
 stop:Nat->Hp->Prop
noncomputable def fA (X:Cx)(pins:List (Addr×Obj))(H:Hp)(b:Addr):Prop:=
 H b=none/\b≠X.env.locals/\b∉X.fs/\(b∈X.ex\/X.s₀.heap.objs.size<=b)/\(∀x c,X.env.cells.lookup x=some c->c≠b)/\∀p∈X.pn++pins,p.1≠b
theorem Inv.fpOk {X:Cx}{pins:List (Addr×Obj)}{σ:St}{H H':Hp}{s:MI}{b:Addr}(I:Inv X pins σ H s)(hb:s.heap.objs.size<=b)(hn:H' b=none):fA X pins H' b:=by
 refine ⟨hn,NR (M9 I.lt hb),I.nofs hb,.inr (MR I.sz hb),fun x c e z=>?_,fun p hp z=>?_⟩
 ·obtain ⟨v,q⟩:=I.cell x c e
  exact absurd (M9 q.lt (by rw [z];exact hb)) (NX _)
 ·exact absurd (M9 (MS (I.pin p hp).1) (by rw [z];exact hb)) (NX _)
structure Turn (P:Na) (w:Nd) (K:MF) (tg:Expr) (J:It) (fp:List Addr) (it:Addr) (tn:Nat->Heap->Prop):Prop where
 mem:it∈fp
 obj:∀i h,tn i h->∀b∈fp,∃o,h.get? b=some o/\∀v,o.data≠.cell v
 keep:∀i h h',tn i h->(∀b∈fp,∀o,h.get? b=some o->h'.get? b=some o)->tn i h'
 item:∀(X:Cx),X.prog=P->X.w=w->X.K=K->X.calm=true->∀(i:Nat) (pins:List (Addr×Obj)) (s:MI) (σ:St) (H:Hp) (E:MG->MI->Prop),Inv X pins σ H s->(∀b∈fp,fA X pins H b)->tn i s.heap->J.go i H->
  wpAny (model P w) X.A (pyNext (.ref it)) (fun r s1=>∃u,r=some u/\
   wpAny (model P w) X.A (letOwnedTupleGo tg (.ref it) u) (fun _ s2=>∃x H',Inv X pins σ H' s2/\RelV x u/\J.yld i H x H'/\tn (i+1) s2.heap/\∀b∈fp,H' b=none) E s1) E s
 done:∀(X:Cx),X.prog=P->X.w=w->X.K=K->X.calm=true->∀(i:Nat) (pins:List (Addr×Obj)) (s:MI) (σ:St) (H:Hp) (E:MG->MI->Prop),Inv X pins σ H s->(∀b∈fp,fA X pins H b)->tn i s.heap->J.stop i H->
  wpAny (model P w) X.A (pyNext (.ref it)) (fun r s1=>r=none/\Inv X pins σ H s1) E s
 self:∀(A:NL) (i:Nat) (s:MI) (Q:MG->MI->Prop) (E:MG->MI->Prop),tn i s.heap->Q (.ref it) s->wpAny (model P w) A (pyIter (.ref it)) Q E s
abbrev TI:=St->Hp->(It->Hp->Prop)->Prop
noncomputable def ze (X:Cx)(pins:List (Addr×Obj))(σ:St)(tg:Expr)(R:It->Hp->Prop)(itv:MG)(s2:MI):Prop:=
 ∃(it:Addr) (fp:List Addr) (tn:Nat->Heap->Prop) (J:It) (H':Hp),itv=.ref it/\Inv X pins σ H' s2/\Turn X.prog X.w X.K tg J fp it tn/\tn 0 s2.heap/\(∀b∈fp,fA X pins H' b)/\R J H'
noncomputable def PI (X:Cx)(tg iter:Expr)(wi:TI):Prop:=
 ∀(pins:List (Addr×Obj)) (s:MI) (σ:St) (H:Hp) (R:It->Hp->Prop),Inv X pins σ H s->wi σ H R->
  wpAny (model X.prog X.w) X.A (eval iter X.env) (fun v s1=>wpAny (model X.prog X.w) X.A (pyIter v) (ze X pins σ tg R) X.xe s1) X.xe s
theorem om {M:Model}{A:NL}{E:MG->MI->Prop}{s:MI}{tg:Expr}{it:Addr}{u:MG}{o:Obj}{n:String}{vs:Array MG}{Q:Unit->MI->Prop}(ho:s.heap.get? it=some o)(hc:o.cls=.type n)(hd:o.data=.fields vs)
 (hn:["enumerate","zip","dict_itemiterator","dict_reverseitemiterator","odict_iterator","itertools.zip_longest","itertools.pairwise"].contains n=false) (hQ:Q () s):wpAny M A (letOwnedTupleGo tg (.ref it) u) Q E s:=by
 unfold letOwnedTupleGo
 cases tg<;>first
  |exact tqb hQ
  |(cases u<;>first
   |exact tqb hQ
   | (refine tqa (wpAny_load ho ?_)
      rw [hc,hd]
      show wpAny M A (if (["enumerate","zip","dict_itemiterator","dict_reverseitemiterator","odict_iterator","itertools.zip_longest","itertools.pairwise"].contains n&&vs[0]?==some (rawInt _))=true then _ else _) Q E s
      rw [if_neg (by intro h;rw [hn,Bool.false_and] at h;cases h)]
      exact tqb hQ))
noncomputable def IJ (K:MF)(a:Addr):It:=
 ⟨fun i H=>∃xs x,bV K H a xs/\xs[i]?=some x,fun i H x H'=>H'=H/\∀xs,bV K H a xs->xs[i]?=some x,fun i H=>∃xs,bV K H a xs/\xs.length<=i⟩
noncomputable def IH (K:MF)(a:Addr):It:=
 ⟨fun i H=>∃xs x,di K H a xs/\xs[i]?=some x,fun i H x H'=>H'=H/\∀xs,di K H a xs->xs[i]?=some x,fun i H=>∃xs,di K H a xs/\xs.length<=i⟩
noncomputable def C1 (lo:Int)(n:Nat):It:=⟨fun i _=>i<n,fun i H x H'=>H'=H/\x=.int (lo+i),fun i _=>n<=i⟩
theorem w8 {P:Na}{w:Nd}{K:MF}{tg:Expr}(a it:Addr):Turn P w K tg (IJ K a) [it] it (fun i h=>h.IsListIter it a i) where
 mem:=by simp
 obj:=fun i h st b hb=>by
  have e:b=it:=by simpa using hb
  subst e
  obtain ⟨o,e,c,d⟩:=st
  exact ⟨o,e,fun v z=>by rw [d] at z;cases z⟩
 keep:=fun i h h' st k=>st.at fun o e=>k it (by simp) o e
 item:=by
  intro X hP hw hK hc i pins s σ H E I hf st hg
  subst hP hw hK
  obtain ⟨xs,x,hq,hx⟩:=hg
  obtain ⟨its,rv,p,hz⟩:=I.list hq
  obtain ⟨u,hu,ru⟩:=rv.get hx
  obtain ⟨f0,f1,f2,f3,f4,f5⟩:=hf it (by simp)
  refine wpAny_pyNext_list_item st p.isList (x:=u) (by simpa using hu) fun h' st' sb=>?_
  have I1:Inv X pins σ H {s with heap:=h'}:=I.turned (t':=s.toks) (fun b o hb e=>(sb.2 b hb).trans e) f0 f1 f3 f4 f5
  obtain ⟨o,e,c,d⟩:=id st'
  exact ⟨u,rfl,om (s:={s with heap:=h'}) e c d (by decide) ⟨x,H,I1,ru,⟨rfl,fun ys hy=>by rw [I.list_inj hy hq];exact hx⟩,st',fun b hb=>(hf b hb).1⟩⟩
 done:=by
  intro X hP hw hK hc i pins s σ H E I hf st hg
  subst hP hw hK
  obtain ⟨xs,hq,hx⟩:=hg
  obtain ⟨its,rv,p,hz⟩:=I.list hq
  obtain ⟨f0,f1,f2,f3,f4,f5⟩:=hf it (by simp)
  have hl:=rv.length
  exact wpAny_pyNext_list_end (I.ok.hd hc) st p.isList (by simp;omega) fun h' eb=>⟨rfl,I.turned (t':=s.toks) (fun b o hb e=>eb b o hb e) f0 f1 f3 f4 f5⟩
 self:=fun _ _ _ _ _ st h=>wpAny_pyIter_listiter st h
theorem va {P:Na}{w:Nd}{K:MF}{tg:Expr}(a it:Addr):Turn P w K tg (IH K a) [it] it (fun i h=>h.IsTupleIter it a i) where
 mem:=by simp
 obj:=fun i h st b hb=>by
  have e:b=it:=by simpa using hb
  subst e
  obtain ⟨o,e,c,d⟩:=st
  exact ⟨o,e,fun v z=>by rw [d] at z;cases z⟩
 keep:=fun i h h' st k=>st.at fun o e=>k it (by simp) o e
 item:=by
  intro X hP hw hK hc i pins s σ H E I hf st hg
  subst hP hw hK
  obtain ⟨xs,x,hq,hx⟩:=hg
  obtain ⟨its,rv,p,hz⟩:=I.tuple hq
  obtain ⟨u,hu,ru⟩:=rv.get hx
  obtain ⟨f0,f1,f2,f3,f4,f5⟩:=hf it (by simp)
  refine wpAny_pyNext_tuple_item st (show s.heap.IsTuple a its.toArray from p) (x:=u) (by simpa using hu) fun h' st' sb=>?_
  have I1:Inv X pins σ H {s with heap:=h'}:=I.turned (t':=s.toks) (fun b o hb e=>(sb.2 b hb).trans e) f0 f1 f3 f4 f5
  obtain ⟨o,e,c,d⟩:=id st'
  exact ⟨u,rfl,om (s:={s with heap:=h'}) e c d (by decide) ⟨x,H,I1,ru,⟨rfl,fun ys hy=>by rw [I.tuple_inj hy hq];exact hx⟩,st',fun b hb=>(hf b hb).1⟩⟩
 done:=by
  intro X hP hw hK hc i pins s σ H E I hf st hg
  subst hP hw hK
  obtain ⟨xs,hq,hx⟩:=hg
  obtain ⟨its,rv,p,hz⟩:=I.tuple hq
  obtain ⟨f0,f1,f2,f3,f4,f5⟩:=hf it (by simp)
  have hl:=rv.length
  exact wpAny_pyNext_tuple_end (I.ok.hd hc) st (show s.heap.IsTuple a its.toArray from p) (by simp;omega) fun h' eb=>⟨rfl,I.turned (t':=s.toks) (fun b o hb e=>eb b o hb e) f0 f1 f3 f4 f5⟩
 self:=fun _ _ _ _ _ st h=>wpAny_pyIter_tupleiter st h
theorem vb {P:Na}{w:Nd}{K:MF}{tg:Expr}(it:Addr)(lo:Int)(n:Nat):Turn P w K tg (C1 lo n) [it] it (fun i h=>IsRangeIter h it (lo+(i:Nat)*1) ((n:Int)-(i:Nat)) 1) where
 mem:=by simp
 obj:=fun i h st b hb=>by
  have e:b=it:=by simpa using hb
  subst e
  exact ⟨_,st,fun v z=>by
   have z':Data.fields _=Data.cell v:=z
   cases z'⟩
 keep:=fun i h h' st k=>k it (by simp) _ st
 item:=by
  intro X hP hw hK hc i pins s σ H E I hf st hg
  subst hP hw hK
  obtain ⟨f0,f1,f2,f3,f4,f5⟩:=hf it (by simp)
  have W:=Walks.range (prog:=X.prog) (w:=X.w) (I.ok.hd hc) it lo 1 n
  refine W.item i s _ _ hg st fun v h' tk hv st' kk=>?_
  obtain ⟨t,rfl⟩:=hv
  have I1:Inv X pins σ H {s with heap:=h',toks:=tk}:=I.turned (fun b o hb e=>kk b o (by simpa using hb) e) f0 f1 f3 f4 f5
  refine ⟨_,rfl,om (s:={s with heap:=h',toks:=tk}) (n:="range_iterator") st' rfl rfl (by decide) ⟨.int (lo+i),H,I1,⟨t,?_⟩,⟨rfl,rfl⟩,st',fun b hb=>(hf b hb).1⟩⟩
  rw [Int.mul_one]
 done:=by
  intro X hP hw hK hc i pins s σ H E I hf st hg
  subst hP hw hK
  obtain ⟨f0,f1,f2,f3,f4,f5⟩:=hf it (by simp)
  exact wpAny_pyNext_range_end (I.ok.hd hc) st (by have:n<=i:=hg;omega) fun h' eb=>⟨rfl,I.turned (t':=s.toks) (fun b o hb e=>eb b o hb e) f0 f1 f3 f4 f5⟩
 self:=fun _ _ _ _ _ st h=>wpAny_pyIter_rangeiter st h
end L2
namespace L2
open PySem PySem.Spec PyProof.Rows
section
variable {X:Cx}{tg:Expr}
noncomputable def JF (K:MF)(tl:TE):TI:=fun σ H R=>tl σ H fun x H1=>∃a,x=.ref a/\(∃xs,bV K H1 a xs)/\R (IJ K a) H1
noncomputable def LQ (K:MF)(tl:TE):TI:=fun σ H R=>tl σ H fun x H1=>∃a,x=.ref a/\(∃xs,di K H1 a xs)/\R (IH K a) H1
theorem Ei {l:Expr}{tl:TE}(hl:PE X l tl):PI X tg l (JF X.K tl):=by
 intro pins s σ H R I h
 refine aN (hl pins s σ H _ I h) fun v s1 ⟨x,H1,I1,r1,q1⟩=>?_
 obtain ⟨a,e,⟨xs,hq⟩,q⟩:=q1
 subst e
 cases r1
 obtain ⟨its,rv,p,hz⟩:=I1.list hq
 refine wpAny_pyIter_list p.isList ?_
 refine ⟨s1.heap.objs.size,[s1.heap.objs.size],_,_,H1,rfl,I1.kept (t':=s1.toks) fun b o e=>MJ _ e,w8 a _,⟨_,M8 _ rfl,rfl,rfl⟩,fun b hb=>?_,q⟩
 have e:b=s1.heap.objs.size:=by simpa using hb
 subst e
 exact I1.fpOk (MN _) (I1.hok.fresh (MN _))
theorem Gz {l:Expr}{tl:TE}(hl:PE X l tl):PI X tg l (LQ X.K tl):=by
 intro pins s σ H R I h
 refine aN (hl pins s σ H _ I h) fun v s1 ⟨x,H1,I1,r1,q1⟩=>?_
 obtain ⟨a,e,⟨xs,hq⟩,q⟩:=q1
 subst e
 cases r1
 obtain ⟨its,rv,p,hz⟩:=I1.tuple hq
 refine wpAny_pyIter_tuple (show s1.heap.IsTuple a its.toArray from p) ?_
 refine ⟨s1.heap.objs.size,[s1.heap.objs.size],_,_,H1,rfl,I1.kept (t':=s1.toks) fun b o e=>MJ _ e,va a _,⟨_,M8 _ rfl,rfl,rfl⟩,fun b hb=>?_,q⟩
 have e:b=s1.heap.objs.size:=by simpa using hb
 subst e
 exact I1.fpOk (MN _) (I1.hok.fresh (MN _))
theorem Aq {pins:List (Addr×Obj)}{σ:St}{H:Hp}{s:MI}{R:It->Hp->Prop}{E:MG->MI->Prop}{lo hi:Int}{t u v:Tok}{tk:Nat}(I:Inv X pins σ H s)(h1:-(2^62)<=lo)(h2:lo<2^62)(h3:-(2^62)<=hi)(h4:hi<2^62)
 (q:R (C1 lo (hi-lo).toNat) H):wpAny (model X.prog X.w) X.A (pyIter (.ref s.heap.objs.size)) (ze X pins σ tg R) E {s with heap:=s.heap.push {cls:=.type "range",data:=.fields #[.int lo t,.int hi u,.int 1 v]},toks:=tk}:=by
 refine wpAny_pyIter_range (IsRange.new ..) (small_one h1 h2 h3 h4) ?_
 have I1:Inv X pins σ H {s with heap:=s.heap.push {cls:=.type "range",data:=.fields #[.int lo t,.int hi u,.int 1 v]},toks:=tk}:=I.kept fun b o e=>MJ _ e
 refine ⟨(s.heap.push {cls:=.type "range",data:=.fields #[.int lo t,.int hi u,.int 1 v]}).objs.size,[(s.heap.push {cls:=.type "range",data:=.fields #[.int lo t,.int hi u,.int 1 v]}).objs.size],_,_,H,rfl,
  I1.kept (t':=tk) fun b o e=>MJ _ e,vb _ lo (hi-lo).toNat,?_,fun b hb=>?_,q⟩
 ·have e1:lo+((0:Nat):Int)*1=lo:=by simp
  have e2:(((hi-lo).toNat:Nat):Int)-((0:Nat):Int)=Builtin.Range.rangeSize lo hi 1:=by rw [rangeSize_one];split<;>omega
  show IsRangeIter _ _ (lo+((0:Nat):Int)*1) ((((hi-lo).toNat:Nat):Int)-((0:Nat):Int)) 1
  rw [e1,e2]
  exact M8 _ rfl
 ·have e:b=(s.heap.push {cls:=.type "range",data:=.fields #[.int lo t,.int hi u,.int 1 v]}).objs.size:=by simpa using hb
  subst e
  exact I1.fpOk (MN _) (I1.hok.fresh (MN _))
noncomputable def JE (ta:TA):TI:=fun σ H R=>ta σ H fun vs H1=>∃j:Int,vs=[.int j]/\-(2^62)<=j/\j<2^62/\R (C1 0 j.toNat) H1
theorem xM {a:Expr}{ta:TA}{p pos:Pos}(hg:Gl X "range")(hm:X.mg "range"=none)(ha:PA X [a] ta)(hs:starEach [a] X.env=[(false,eval a X.env)]:=by rfl):PI X tg (.Call (.Name "range" p) [a] [] pos) (JE ta):=by
 intro pins s σ H R I h
 refine Call_ (fD I hg hm boot_range (NN (aN (ha pos pins s σ H _ I h) fun us s1 ⟨vs,H1,I1,r1,q1⟩=>?_) hs rfl))
 obtain ⟨j,e,q1,q2,q⟩:=q1
 subst e
 cases r1 with
 | cons r rr =>
   cases rr
   obtain ⟨t,rfl⟩:=r
   exact call_range_1 (Aq I1 (by omega) (by omega) q1 q2 (by simpa using q))
noncomputable def Lc (wi:TI)(g:TG)(tb:TS):TS:=fun D σ H=>wi σ H fun J H1=>∃W:Nat->Nat->St->Hp->Prop,(∃m,W 0 m σ H1)/\∀i m σ H,W i m σ H->
 (J.stop i H/\D.nx σ H)\/(J.go i H/\∃N:St->Hp->Prop,(∀σ' H',N σ' H'->∃m',m'<m/\W (i+1) m' σ' H')/\∀x H',J.yld i H x H'->g x σ H' fun σ2 H2=>tb {D with nx:=N,ct:=N,bk:=D.nx} σ2 H2)
noncomputable def nU (fp:List Addr)(h:Heap):List (Addr×Obj):=fp.filterMap fun b=>(h.get? b).map fun o=>(b,o)
theorem iM {fp:List Addr}{h:Heap}{b:Addr}{o:Obj}(hb:b∈fp)(e:h.get? b=some o):(b,o)∈nU fp h:=List.mem_filterMap.mpr ⟨b,hb,by rw [e];rfl⟩
theorem yb {fp:List Addr}{h:Heap}{p:Addr×Obj}(hp:p∈nU fp h):p.1∈fp/\h.get? p.1=some p.2:=by
 obtain ⟨b,hb,e⟩:=List.mem_filterMap.mp hp
 cases q:h.get? b with
 |none=>rw [q] at e;cases e
 | some o =>
   rw [q] at e
   have e':(b,o)=p:=MO e
   subst e'
   exact ⟨hb,q⟩
theorem Inv.pinned {pins:List (Addr×Obj)}{σ:St}{H:Hp}{s:MI}{fp:List Addr}(I:Inv X pins σ H s)(hf:∀b∈fp,fA X pins H b)(ho:∀b∈fp,∃o,s.heap.get? b=some o/\∀v,o.data≠.cell v):Inv X (pins++nU fp s.heap) σ H s:=
 I.pins_of fun p hp=>(NC.mp hp).elim (fun z=>I.pin p (NI _ z)) fun z=>by
  obtain ⟨hb,e⟩:=yb z
  obtain ⟨f0,f1,f2,_⟩:=hf p.1 hb
  obtain ⟨o,e',d⟩:=ho p.1 hb
  rw [e] at e';cases e'
  exact ⟨e,f0,f1,f2,d⟩
theorem Inv.unpinned {pins pl:List (Addr×Obj)}{σ:St}{H:Hp}{s:MI}(I:Inv X (pins++pl) σ H s):Inv X pins σ H s:=I.pins_of fun p hp=>I.pin p (NI _ (Oq _ hp))
theorem Gx {iter:Expr}{body:List Stmt}{wi:TI}{g:TG}{tb:TS}{pos:Pos}(hp:PassesOwn (model X.prog X.w) X.A X.env X.xe)(hc:X.calm=true)(hi:PI X tg iter wi)(hg:PG X tg g)(hb:lU X body tb)
 (hs:∀x,foldedSetIterable iter X.env x=pure x:=by intro _;rfl):PS X (.For tg iter body [] pos) (Lc wi g tb):=by
 intro pins s σ H D I h
 refine wpAny_For (aN (hi pins s σ H _ I h) fun v s1 h1=>aN h1 fun itv s2 h2=>?_) hs
 obtain ⟨it,fp,tn,J,H2,e,I2,T,st2,f2,W,⟨m0,w0⟩,turn⟩:=h2
 subst e
 have stat:∀{H':Hp},(∀b∈fp,H' b=none)->∀b∈fp,fA X pins H' b:=fun hn b hb=>⟨hn b hb,(f2 b hb).2⟩
 refine codeAny_forLoop_any (fun n s'=>∃i σ' H',Inv X pins σ' H' s'/\tn i s'.heap/\(∀b∈fp,H' b=none)/\W i n σ' H') ?_ m0 ⟨0,σ,H2,I2,st2,fun b hb=>(f2 b hb).1,w0⟩
 rintro n s3 ⟨i,σ3,H3,I3,st3,fr3,w3⟩
 rcases turn i n σ3 H3 w3 with ⟨stop,qn⟩|⟨go,N,hN,step⟩
 ·refine wpAny_passesOwn hp (aN (T.done X rfl rfl rfl hc i pins s3 σ3 H3 X.xe I3 (stat fr3) st3 stop) fun r s4 ⟨hr,I4⟩=>?_)
  subst hr
  exact wpAny_execs_nil ⟨σ3,H3,I4,qn⟩
 ·refine wpAny_passesOwn hp (aN (T.item X rfl rfl rfl hc i pins s3 σ3 H3 X.xe I3 (stat fr3) st3 go) fun r s4 ⟨u,hr,h4⟩=>?_)
  subst hr
  refine wpAny_passesOwn hp (aN h4 fun _ s5 ⟨x,H5,I5,r5,y5,st5,fr5⟩=>?_)
  have I5':=I5.pinned (stat fr5) (T.obj _ _ st5)
  refine wpAny_passesOwn hp (aN (hg _ s5 σ3 H5 x u _ I5' r5 (step x H5 y5)) fun _ s6 ⟨σ6,H6,I6,q6⟩=>?_)
  refine wpAny_passesOwn hp (aN (hb _ s6 σ6 H6 _ I6 q6) fun f s7 q7=>?_)
  have again:∀{σ7:St}{H7:Hp},Inv X (pins++nU fp s5.heap) σ7 H7 s7->N σ7 H7->∃m,m<n/\∃i σ' H',Inv X pins σ' H' s7/\tn i s7.heap/\(∀b∈fp,H' b=none)/\W i m σ' H':=fun {σ7 H7} I7 n7=>by
   obtain ⟨m',hm,w7⟩:=hN σ7 H7 n7
   refine ⟨m',hm,i+1,σ7,H7,I7.unpinned,T.keep _ _ _ st5 fun b hb o e=>(I7.pin (b,o) (NI _ (NI _ (iM hb e)))).1,fun b hb=>?_,w7⟩
   obtain ⟨o,e,d⟩:=T.obj _ _ st5 b hb
   exact (I7.pin (b,o) (NI _ (NI _ (iM hb e)))).2.1
  cases f with
  |next=>obtain ⟨σ7,H7,I7,n7⟩:=q7;exact again I7 n7
  |cont=>obtain ⟨σ7,H7,I7,n7⟩:=q7;exact again I7 n7
  |brk=>obtain ⟨σ7,H7,I7,q7⟩:=q7;exact ⟨σ7,H7,I7.unpinned,q7⟩
  |ret v=>obtain ⟨x7,σ7,H7,I7,r7,q7⟩:=q7;exact ⟨x7,σ7,H7,I7.unpinned,r7,q7⟩
end
end L2
namespace L2
open PySem PySem.Spec PyProof.Rows
abbrev R2:=V->V->Hp->VK->Prop
noncomputable def bz (X:Cx)(f:MG->MG->Sem MG)(r:R2):Prop:=
 ∀(pins:List (Addr×Obj)) (s:MI) (σ:St) (H:Hp) (x y:V) (v u:MG) (Q:VK),Inv X pins σ H s->RelV x v->RelV y u->r x y H Q->
  wpAny (model X.prog X.w) X.A (f v u) (EP X pins σ Q) X.xe s
noncomputable def ID (X:Cx)(f:MG->Sem MG)(r:V->Hp->VK->Prop):Prop:=
 ∀(pins:List (Addr×Obj)) (s:MI) (σ:St) (H:Hp) (x:V) (v:MG) (Q:VK),Inv X pins σ H s->RelV x v->r x H Q->
  wpAny (model X.prog X.w) X.A (f v) (EP X pins σ Q) X.xe s
noncomputable def cD (X:Cx)(f:MG)(r:List V->Hp->VK->Prop):Prop:=
 ∀(pins:List (Addr×Obj)) (s:MI) (σ:St) (H:Hp) (xs:List V) (us:List MG) (Q:VK),Inv X pins σ H s->Vals xs us->r xs H Q->
  wpAny (model X.prog X.w) X.A (call f us) (EP X pins σ Q) X.xe s
noncomputable def Mf (X:Cx)(r:V->Hp->(Bool->Hp->Prop)->Prop):Prop:=
 ∀(pins:List (Addr×Obj)) (s:MI) (σ:St) (H:Hp) (x:V) (v:MG) (Q:Bool->Hp->Prop),Inv X pins σ H s->RelV x v->r x H Q->
  wpAny (model X.prog X.w) X.A (truthy v) (TP X pins σ Q) X.xe s
noncomputable def xm (r:R2)(ta tb:TE):TE:=fun σ H Q=>ta σ H fun x H1=>tb σ H1 fun y H2=>r x y H2 Q
noncomputable def tUn (r:V->Hp->VK->Prop)(ta:TE):TE:=fun σ H Q=>ta σ H fun x H1=>r x H1 Q
noncomputable def rI (C:Int->Int->Prop)(g:Int->Int->V):R2:=fun x y H Q=>∃i j,x=.int i/\y=.int j/\C i j/\Q (g i j) H
noncomputable def qb (g:Int->Int->V):R2:=fun x y H Q=>∃i j,x=.int i/\y=.int j/\Q (g i j) H
noncomputable def rU (g:Int->V):V->Hp->VK->Prop:=fun x H Q=>∃i,x=.int i/\Q (g i) H
section
variable {X:Cx}{a b c:Expr}{ta tb tc:TE}{pos:Pos}
theorem Bw (ha:PE X a ta)(hb:PE X b tb){pins:List (Addr×Obj)}{s:MI}{σ:St}{H:Hp}{R:V->V->Hp->Prop}(I:Inv X pins σ H s)
 (h:ta σ H fun x H1=>tb σ H1 fun y H2=>R x y H2) {Q:MG->MI->Prop}{f:MG->MG->Sem MG}
 (hf:∀v u s2 x y H2,Inv X pins σ H2 s2->RelV x v->RelV y u->R x y H2->wpAny (model X.prog X.w) X.A (f v u) Q X.xe s2) :
 wpAny (model X.prog X.w) X.A (eval a X.env) (fun v s₁=>wpAny (model X.prog X.w) X.A (eval b X.env) (fun u s₂=>wpAny (model X.prog X.w) X.A (f v u) Q X.xe s₂) X.xe s₁) X.xe s:=by
 refine aN (ha pins s σ H _ I h) fun v s1 ⟨x,H1,I1,r1,q1⟩=>?_
 refine aN (hb pins s1 σ H1 _ I1 q1) fun u s2 ⟨y,H2,I2,r2,q2⟩=>?_
 exact hf v u s2 x y H2 I2 r1 r2 q2
theorem Jn {op:Operator}{r:R2}(ho:bz X (binaryOp op) r)(ha:PE X a ta)(hb:PE X b tb):PE X (.BinOp a op b pos) (xm r ta tb):=by
 intro pins s σ H Q I h
 exact wpAny_BinOp (Bw ha hb I h fun v u s2 x y H2 I2 rx ry q=>ho pins s2 σ H2 x y v u Q I2 rx ry q)
theorem B7 {op:UnaryOp}{r:V->Hp->VK->Prop}(ho:ID X (unaryOp op) r)(ha:PE X a ta):PE X (.UnaryOp op a pos) (tUn r ta):=by
 intro pins s σ H Q I h
 exact UnaryOp_ (aN (ha pins s σ H _ I h) fun v s1 ⟨x,H1,I1,r1,q1⟩=>ho pins s1 σ H1 x v Q I1 r1 q1)
theorem Ca {f:MG->MG->Sem MG}{C:Int->Int->Prop}{g:Int->Int->Int}
 (rule:∀(i j:Int) (t u:Tok) (s:MI) (Q:MG->MI->Prop) (E:MG->MI->Prop),C i j->Q (.int (g i j) s.toks) {s with toks:=s.toks+1}->wpAny (model X.prog X.w) X.A (f (.int i t) (.int j u)) Q E s) :
 bz X f (rI C fun i j=>.int (g i j)):=by
 intro pins s σ H x y v u Q I rx ry h
 obtain ⟨i,j,rfl,rfl,hc,q⟩:=h
 obtain ⟨t,rfl⟩:=rx
 obtain ⟨t',rfl⟩:=ry
 exact rule i j t t' s _ _ hc ⟨.int (g i j),H,I.tok _,⟨_,rfl⟩,q⟩
theorem G4 {f:MG->MG->Sem MG}{g:Int->Int->Int}
 (rule:∀(i j:Int) (t u:Tok) (s:MI) (Q:MG->MI->Prop) (E:MG->MI->Prop),Q (.int (g i j) s.toks) {s with toks:=s.toks+1}->wpAny (model X.prog X.w) X.A (f (.int i t) (.int j u)) Q E s) :
 bz X f (qb fun i j=>.int (g i j)):=by
 intro pins s σ H x y v u Q I rx ry h
 obtain ⟨i,j,rfl,rfl,q⟩:=h
 obtain ⟨t,rfl⟩:=rx
 obtain ⟨t',rfl⟩:=ry
 exact rule i j t t' s _ _ ⟨.int (g i j),H,I.tok _,⟨_,rfl⟩,q⟩
theorem vB {f:MG->MG->Sem MG}{g:Int->Int->Bool}
 (rule:∀(i j:Int) (t u:Tok) (s:MI) (Q:MG->MI->Prop) (E:MG->MI->Prop),Q (.bool (g i j)) s->wpAny (model X.prog X.w) X.A (f (.int i t) (.int j u)) Q E s) :
 bz X f (qb fun i j=>.bl (g i j)):=by
 intro pins s σ H x y v u Q I rx ry h
 obtain ⟨i,j,rfl,rfl,q⟩:=h
 obtain ⟨t,rfl⟩:=rx
 obtain ⟨t',rfl⟩:=ry
 exact rule i j t t' s _ _ ⟨.bl (g i j),H,I,rfl,q⟩
noncomputable def IQ (i j:Int):Prop:=0<j/\j<1073741824
noncomputable def IP (i j:Int):Prop:=0<=j/\j<=1000000/\i.natAbs<2^64
noncomputable def BC (i j:Int):Prop:=(-(2^64)<i/\i<2^64)\/(-(2^64)<j/\j<2^64)
theorem BC.ok {i j:Int}(h:BC i j):IntMulOk i j:=by
 rcases h with ⟨h1,h2⟩|⟨h1,h2⟩
 ·exact .of_left (intBits_le_64 h1 h2)
 ·exact .of_right (intBits_le_64 h1 h2)
theorem G3:bz X (binaryOp .Add) (qb fun i j=>.int (i+j)):=G4 fun _ _ _ _ _ _ _ q=>add_int q
theorem GV:bz X (binaryOp .Sub) (qb fun i j=>.int (i-j)):=G4 fun _ _ _ _ _ _ _ q=>sub_int q
theorem GZ:bz X (binaryOp .Mult) (rI BC fun i j=>.int (i*j)):=Ca fun _ _ _ _ _ _ _ hc q=>mul_int q hc.ok
theorem Et:bz X (binaryOp .FloorDiv) (rI IQ fun i j=>.int (i / j)):=Ca fun i j _ _ _ _ _ hc q=>by
 have h1:(0:Int)<j:=hc.1
 have h2:j<1073741824:=hc.2
 exact floordiv_int (by omega) (by rw [Int.fdiv_eq_ediv_of_nonneg i (by omega)];exact q) (.inl (PyProof.noPylong_small (by omega)))
theorem G0:bz X (binaryOp .Mod) (rI (fun _ j=>0<j) fun i j=>.int (i % j)):=Ca fun i j _ _ _ _ _ hc q=>by
 have h1:(0:Int)<j:=hc
 exact mod_int' (by omega) (by rw [Int.fmod_eq_emod_of_nonneg i (by omega)];exact q)
theorem GY:bz X (binaryOp .Pow) (rI IP fun i j=>.int (i^j.toNat)):=Ca fun _ _ _ _ _ _ _ hc q=>pow_int_small hc.1 hc.2.1 hc.2.2 q
theorem unI {f:MG->Sem MG}{g:Int->Int}
 (rule:∀(i:Int) (t:Tok) (s:MI) (Q:MG->MI->Prop) (E:MG->MI->Prop),Q (.int (g i) s.toks) {s with toks:=s.toks+1}->wpAny (model X.prog X.w) X.A (f (.int i t)) Q E s) :
 ID X f (rU fun i=>.int (g i)):=by
 intro pins s σ H x v Q I rx h
 obtain ⟨i,rfl,q⟩:=h
 obtain ⟨t,rfl⟩:=rx
 exact rule i t s _ _ ⟨.int (g i),H,I.tok _,⟨_,rfl⟩,q⟩
theorem wO:ID X (unaryOp .USub) (rU fun i=>.int (-i)):=unI fun _ _ _ _ _ q=>neg_int q
end
noncomputable def FY:V->V->Bool
 |.non,.non=>true|.non,.int _=>true|.int _,.non=>true|.non,.bl _=>true|.bl _,.non=>true|.non,.str _=>true|.str _,.non=>true
 |.int _,.int _=>true|.bl _,.bl _=>true|.str _,.str _=>true|.byt _,.byt _=>true
 |.int _,.str _=>true|.str _,.int _=>true|.bl _,.str _=>true|.str _,.bl _=>true
 |_,_=>false
noncomputable def rEq:R2:=fun x y H Q=>FY x y=true/\Q (.bl (decide (x=y))) H
noncomputable def rNe:R2:=fun x y H Q=>FY x y=true/\Q (.bl (!decide (x=y))) H
theorem uU {i j:Int}:decide (V.int i=V.int j)=(i==j):=by
 rw [OB]
 simp
theorem yN {i j:Bool}:decide (V.bl i=V.bl j)=(i==j):=by
 rw [OB]
 simp
theorem mx {i j:Str}:decide (V.str i=V.str j)=(i==j):=by
 rw [OB]
 simp
theorem uV {i j:Array UInt8}:decide (V.byt i=V.byt j)=(i.toList==j.toList):=by
 rw [OB]
 cases i
 cases j
 simp
section
variable {X:Cx}{a b c:Expr}{ta tb tc:TE}{pos:Pos}
theorem bh {pins:List (Addr×Obj)}{σ:St}{H:Hp}{s:MI}{Q:VK}{k k':Bool}(I:Inv X pins σ H s)(q:Q (.bl k) H)(e:k=k'):EP X pins σ Q (.bool k') s:=by
 subst e
 exact ⟨.bl k,H,I,rfl,q⟩
theorem Jy:bz X (compareOp .Eq) rEq:=by
 intro pins s σ H x y v u Q I rx ry h
 obtain ⟨hs,q⟩:=h
 cases x with
 | non =>
   cases rx
   cases y with
   |non=>cases ry;exact PySem.EqNone.eq_none_none (bh I q (by simp))
   |bl j=>cases ry;exact PySem.EqNone.eq_none_bool (bh I q (by simp))
   |int j=>obtain ⟨t',rfl⟩:=ry;exact PySem.EqNone.eq_none_int (bh I q (by simp))
   |str j=>obtain ⟨t',rfl⟩:=ry;exact PySem.EqNone.eq_none_str (bh I q (by simp))
   |_=>exact absurd (show false=true from hs) Ng
 | bl i =>
   cases rx
   cases y with
   |non=>cases ry;exact PySem.EqNone.eq_bool_none (bh I q (by simp))
   |bl j=>cases ry;exact eq_bool (bh I q yN)
   |str j=>obtain ⟨t',rfl⟩:=ry;exact PySem.EqMixed.eq_bool_str (bh I q (by simp))
   |_=>exact absurd (show false=true from hs) Ng
 | int i =>
   obtain ⟨t,rfl⟩:=rx
   cases y with
   |non=>cases ry;exact PySem.EqNone.eq_int_none (bh I q (by simp))
   |int j=>obtain ⟨t',rfl⟩:=ry;exact eq_int (bh I q uU)
   |str j=>obtain ⟨t',rfl⟩:=ry;exact PySem.EqMixed.eq_int_str (bh I q (by simp))
   |_=>exact absurd (show false=true from hs) Ng
 | str i =>
   obtain ⟨t,rfl⟩:=rx
   cases y with
   |non=>cases ry;exact PySem.EqNone.eq_str_none (bh I q (by simp))
   |bl j=>cases ry;exact PySem.EqMixed.eq_str_bool (bh I q (by simp))
   |int j=>obtain ⟨t',rfl⟩:=ry;exact PySem.EqMixed.eq_str_int (bh I q (by simp))
   |str j=>obtain ⟨t',rfl⟩:=ry;exact eq_str (bh I q mx)
   |_=>exact absurd (show false=true from hs) Ng
 | byt i =>
   obtain ⟨t,rfl⟩:=rx
   cases y with
   |byt j=>obtain ⟨t',rfl⟩:=ry;exact PySem.W.eq_bytes (bh I q uV)
   |_=>exact absurd (show false=true from hs) Ng
 |_=>cases y<;>exact absurd (show false=true from hs) Ng
theorem Jt:bz X (compareOp .NotEq) rNe:=by
 intro pins s σ H x y v u Q I rx ry h
 obtain ⟨hs,q⟩:=h
 cases x with
 | non =>
   cases rx
   cases y with
   |non=>cases ry;exact PySem.EqNone.ne_none_none (bh I q (by simp))
   |bl j=>cases ry;exact PySem.EqNone.ne_none_bool (bh I q (by simp))
   |int j=>obtain ⟨t',rfl⟩:=ry;exact PySem.EqNone.ne_none_int (bh I q (by simp))
   |str j=>obtain ⟨t',rfl⟩:=ry;exact PySem.EqNone.ne_none_str (bh I q (by simp))
   |_=>exact absurd (show false=true from hs) Ng
 | bl i =>
   cases rx
   cases y with
   |non=>cases ry;exact PySem.EqNone.ne_bool_none (bh I q (by simp))
   |bl j=>cases ry;exact ne_bool (bh I q (congrArg not yN))
   |str j=>obtain ⟨t',rfl⟩:=ry;exact PySem.EqMixed.ne_bool_str (bh I q (by simp))
   |_=>exact absurd (show false=true from hs) Ng
 | int i =>
   obtain ⟨t,rfl⟩:=rx
   cases y with
   |non=>cases ry;exact PySem.EqNone.ne_int_none (bh I q (by simp))
   |int j=>obtain ⟨t',rfl⟩:=ry;exact ne_int (bh I q (congrArg not uU))
   |str j=>obtain ⟨t',rfl⟩:=ry;exact PySem.EqMixed.ne_int_str (bh I q (by simp))
   |_=>exact absurd (show false=true from hs) Ng
 | str i =>
   obtain ⟨t,rfl⟩:=rx
   cases y with
   |non=>cases ry;exact PySem.EqNone.ne_str_none (bh I q (by simp))
   |bl j=>cases ry;exact PySem.EqMixed.ne_str_bool (bh I q (by simp))
   |int j=>obtain ⟨t',rfl⟩:=ry;exact PySem.EqMixed.ne_str_int (bh I q (by simp))
   |str j=>obtain ⟨t',rfl⟩:=ry;exact ne_str (bh I q (congrArg not mx))
   |_=>exact absurd (show false=true from hs) Ng
 | byt i =>
   obtain ⟨t,rfl⟩:=rx
   cases y with
   |byt j=>obtain ⟨t',rfl⟩:=ry;exact PySem.W.ne_bytes (bh I q (congrArg not uV))
   |_=>exact absurd (show false=true from hs) Ng
 |_=>cases y<;>exact absurd (show false=true from hs) Ng
theorem Ju:bz X (compareOp .Lt) (qb fun i j=>.bl (decide (i<j))):=vB fun _ _ _ _ _ _ _ q=>lt_int q
theorem Jv:bz X (compareOp .LtE) (qb fun i j=>.bl (decide (i<=j))):=vB fun _ _ _ _ _ _ _ q=>le_int q
theorem Jw:bz X (compareOp .Gt) (qb fun i j=>.bl (decide (j<i))):=vB fun _ _ _ _ _ _ _ q=>gt_int q
theorem Jx:bz X (compareOp .GtE) (qb fun i j=>.bl (decide (j<=i))):=vB fun _ _ _ _ _ _ _ q=>ge_int q
theorem xY:bz X (compareOp .In) (fun x y H Q=>∃i j,x=.str i/\y=.str j/\Q (.bl (!(Builtin.Str.occurrences j i 0 j.length 1).isEmpty)) H):=by
 intro pins s σ H x y v u Q I rx ry h
 obtain ⟨i,j,rfl,rfl,q⟩:=h
 obtain ⟨t,rfl⟩:=rx
 obtain ⟨t',rfl⟩:=ry
 exact in_str (bh I q rfl)
theorem G1:bz X (compareOp .Is) (fun x y H Q=>y=.non/\Q (.bl (decide (x=.non))) H):=by
 intro pins s σ H x y v u Q I rx ry h
 obtain ⟨rfl,q⟩:=h
 cases ry
 refine is_none_gen (bh I q ?_)
 cases x<;>first
  |(cases rx;rfl)
  |(obtain ⟨t,rfl⟩:=rx;rfl)
theorem Es:bz X (compareOp .IsNot) (fun x y H Q=>y=.non/\Q (.bl (!decide (x=.non))) H):=by
 intro pins s σ H x y v u Q I rx ry h
 obtain ⟨rfl,q⟩:=h
 cases ry
 refine isnot_none_gen (bh I q ?_)
 cases x<;>first
  |(cases rx;rfl)
  |(obtain ⟨t,rfl⟩:=rx;rfl)
theorem si:bz X (compareOp .NotIn) (fun x y H Q=>∃i j,x=.str i/\y=.str j/\Q (.bl (!(!(Builtin.Str.occurrences j i 0 j.length 1).isEmpty))) H):=by
 intro pins s σ H x y v u Q I rx ry h
 obtain ⟨i,j,rfl,rfl,q⟩:=h
 obtain ⟨t,rfl⟩:=rx
 obtain ⟨t',rfl⟩:=ry
 exact notIn_str (bh I q rfl)
theorem uD {op:CmpOp}{r:R2}(ho:bz X (compareOp op) r)(ha:PE X a ta)(hb:PE X b tb)(hm:behindInMarks op b=false):PE X (.Compare a [op] [b] pos) (xm r ta tb):=by
 intro pins s σ H Q I h
 exact wpAny_Compare1 (Bw ha hb I h fun v u s2 x y H2 I2 rx ry q=>ho pins s2 σ H2 x y v u Q I2 rx ry q) hm
noncomputable def BZ (t:TE):TT:=fun σ H Q=>t σ H fun x H'=>∃k,x=.bl k/\Q k H'
theorem oS {op:CmpOp}{r:R2}(ho:bz X (compareOp op) r)(ha:PE X a ta)(hb:PE X b tb)(hm:behindInMarks op b=false):PT X (.Compare a [op] [b] pos) (BZ (xm r ta tb)):=by
 intro pins s σ H Q I h
 refine wpAny_isTrue_Compare1 (aN (ha pins s σ H _ I h) fun v s1 ⟨x,H1,I1,r1,q1⟩=>aN (hb pins s1 σ H1 _ I1 q1) fun u s2 ⟨y,H2,I2,r2,q2⟩=>
  aN (ho pins s2 σ H2 x y v u _ I2 r1 r2 q2) fun c s3 ⟨z,H3,I3,r3,k,e,q3⟩=>?_) hm
 subst e
 cases r3
 exact tqp ⟨H3,I3,q3⟩
noncomputable def rG (r r':R2)(ta tb tc:TE):TE:=fun σ H Q=>ta σ H fun x H1=>tb σ H1 fun y H2=>r x y H2 fun z H3=>∃k,z=.bl k/\
 (if k=true then tc σ H3 fun w' H4=>r' y w' H4 Q else Q (.bl false) H3)
theorem Az {op op':CmpOp}{r r':R2}(ho:bz X (compareOp op) r)(ho':bz X (compareOp op') r')(ha:PE X a ta)(hb:PE X b tb)(hc:PE X c tc)
 (hm:lastMarks [op,op'] [b,c]=false:=by with_unfolding_all rfl):PE X (.Compare a [op,op'] [b,c] pos) (rG r r' ta tb tc):=by
 intro pins s σ H Q I h
 refine Compare_chain (aN (ha pins s σ H _ I h) fun v s1 ⟨x,H1,I1,r1,q1⟩=>chain_link (aN (hb pins s1 σ H1 _ I1 q1) fun u s2 ⟨y,H2,I2,r2,q2⟩=>
  aN (ho pins s2 σ H2 x y v u _ I2 r1 r2 q2) fun d s3 ⟨z,H3,I3,r3,k,e,q3⟩=>?_)) hm
 subst e
 cases r3
 refine tqp ?_
 cases k with
 |false=>exact ite_ff ⟨.bl false,H3,I3,rfl,q3⟩
 |true=>exact ite_tt (chain_last (aN (hc pins s3 σ H3 _ I3 q3) fun w' s4 ⟨z',H4,I4,r4,q4⟩=>ho' pins s4 σ H4 y z' u w' Q I4 r2 r4 q4))
theorem Au {op op':CmpOp}{r r':R2}(ho:bz X (compareOp op) r)(ho':bz X (compareOp op') r')(ha:PE X a ta)(hb:PE X b tb)(hc:PE X c tc)
 (hm:lastMarks [op,op'] [b,c]=false:=by with_unfolding_all rfl):PT X (.Compare a [op,op'] [b,c] pos) (BZ (rG r r' ta tb tc)):=by
 intro pins s σ H Q I h
 refine isTrue_chain (aN (ha pins s σ H _ I h) fun v s1 ⟨x,H1,I1,r1,q1⟩=>test_link (aN (hb pins s1 σ H1 _ I1 q1) fun u s2 ⟨y,H2,I2,r2,q2⟩=>
  aN (ho pins s2 σ H2 x y v u _ I2 r1 r2 q2) fun d s3 ⟨z,H3,I3,r3,k,e,q3⟩=>?_)) hm
 subst e
 cases r3
 refine tqp ?_
 cases k with
 | false =>
   obtain ⟨k',e',q'⟩:=q3
   cases e'
   exact ite_ff ⟨H3,I3,q'⟩
 | true =>
   refine ite_tt (test_last (aN (hc pins s3 σ H3 _ I3 q3) fun w' s4 ⟨z',H4,I4,r4,q4⟩=>aN (ho' pins s4 σ H4 y z' u w' _ I4 r2 r4 q4) fun d' s5 ⟨z2,H5,I5,r5,k2,e2,q5⟩=>?_))
   subst e2
   cases r5
   exact tqp ⟨H5,I5,q5⟩
noncomputable def Bz (K:MF)(x:V)(H:Hp)(k:Bool):Prop:=
 match x with
 |.non=>k=false
 |.bl b=>k=b
 |.int i=>k=(i != 0)
 |.str y=>y.length<=sizeLine/\k=((y.length:Int) != 0)
 |.byt y=>y.size<=sizeLine/\k=((y.size:Int) != 0)
 |.ref p=>(∃xs,bV K H p xs/\k=!xs.isEmpty)\/(∃xs,di K H p xs/\k=!xs.isEmpty)\/∃kvs,H p=some (.dK kvs)/\k=!kvs.isEmpty
 |_=>False
theorem vV {κ:Type}{kvs:List (κ×V)}{vs:List (κ×MG)}(r:KV kvs vs):(!vs.isEmpty)=!kvs.isEmpty:=by
 cases r<;>rfl
theorem og {xs:List V}{its:List MG}(r:Vals xs its):(!its.toArray.isEmpty)=!xs.isEmpty:=by
 cases r<;>simp
theorem jo:(sizeLine:Nat)<2^63:=by rw [sizeLine_eq];decide
theorem FN:Mf X (fun x H Q=>∃k,Bz X.K x H k/\Q k H):=by
 intro pins s σ H x v Q I rx h
 obtain ⟨k,e,q⟩:=h
 have hl:=jo
 have hs:sizeLine=16777216:=sizeLine_eq
 cases x with
 | non =>
   cases rx
   have e':k=false:=e
   subst e'
   exact truthy_none ⟨H,I,q⟩
 | bl b =>
   cases rx
   have e':k=b:=e
   subst e'
   exact tqp ⟨H,I,q⟩
 | int i =>
   obtain ⟨t,rfl⟩:=rx
   have e':k=(i != 0):=e
   subst e'
   exact PySem.P.truthy_int ⟨H,I,q⟩
 | str y =>
   obtain ⟨t,rfl⟩:=rx
   obtain ⟨hy,e'⟩:y.length<=sizeLine/\k=((y.length:Int) != 0):=e
   subst e'
   exact PySem.P.truthy_str (by omega) ⟨H,I.tok _,q⟩
 | byt y =>
   obtain ⟨t,rfl⟩:=rx
   obtain ⟨hy,e'⟩:y.size<=sizeLine/\k=((y.size:Int) != 0):=e
   subst e'
   exact PySem.W.truthy_bytes (by omega) ⟨H,I.tok _,q⟩
 | ref p =>
   cases rx
   have e':(∃xs,bV X.K H p xs/\k=!xs.isEmpty)\/(∃xs,di X.K H p xs/\k=!xs.isEmpty)\/∃kvs,H p=some (.dK kvs)/\k=!kvs.isEmpty:=e
   rcases e' with ⟨xs,hx,e'⟩|⟨xs,hx,e'⟩|⟨kvs,hx,e'⟩
   ·subst e'
    obtain ⟨its,r,pl,hz⟩:=I.list hx
    have hlen:=r.length
    exact wpAny_truthy_list pl.isList (by simp only [MP];omega) ⟨H,I.tok _,by rw [og r];exact q⟩
   ·subst e'
    obtain ⟨its,r,pl,hz⟩:=I.tuple hx
    have hlen:=r.length
    exact truthy_tuple pl (by simp only [MP];omega) ⟨H,I.tok _,by rw [og r];exact q⟩
   ·subst e'
    obtain ⟨hz,hS,vs,r,m⟩:kvs.length<=sizeLine/\(p==sysModules)=false/\∃vs,KV kvs vs/\s.heap.DictOf (j0 X.prog X.w) p vs:=I.hok p _ hx
    have hlen:kvs.length=vs.length:=Paired.length r
    exact wpAny_truthy_dict hS m (by omega) ⟨H,I.tok _,by rw [vV r];exact q⟩
 |_=>exact (show False from e).elim
theorem As (ha:PE X a ta)(he:∀whole,isTrue a X.env whole=(do let v <- whole;standAt a.pos;holding [v] (truthy v))) :
 PT X a (fun σ H Q=>ta σ H fun x H'=>∃k,Bz X.K x H' k/\Q k H'):=by
 intro pins s σ H Q I h
 exact isTrue_plain (aN (ha pins s σ H _ I h) fun v s1 ⟨x,H1,I1,r1,q1⟩=>FN pins s1 σ H1 x v Q I1 r1 q1) (he _)
theorem vA:bz X (binaryOp .Add) (fun x y H Q=>∃i j,x=.str i/\y=.str j/\i.length+j.length<=sizeLine/\Q (.str (i++j)) H):=by
 intro pins s σ H x y v u Q I rx ry h
 obtain ⟨i,j,rfl,rfl,hz,q⟩:=h
 obtain ⟨t,rfl⟩:=rx
 obtain ⟨t',rfl⟩:=ry
 exact add_str (fun t' tk=>⟨.str (i++j),H,I.tok _,⟨_,rfl⟩,q⟩) hz
theorem vals1 {x:V}{us:List MG}(r:Vals [x] us):∃u,us=[u]/\RelV x u:=by
 cases r with
 |cons r1 r2=>cases r2;exact ⟨_,rfl,r1⟩
theorem vals2 {x y:V}{us:List MG}(r:Vals [x,y] us):∃u w',us=[u,w']/\RelV x u/\RelV y w':=by
 cases r with
 | cons r1 r2 =>
   cases r2 with
   |cons r3 r4=>cases r4;exact ⟨_,_,rfl,r1,r3⟩
end
end L2
namespace L2
open PySem PySem.Spec PyProof.Rows
structure nE (h:Heap) (x dx C:Addr) (mA:Str->Option MG):Prop where
 obj:h.get? x=some (PySem.W.instObj C dx)
 ns:h.Ns1 dx mA
 ne:dx≠x
theorem yo {h:Heap}{dx:Addr}{mA:Str->Option MG}(n:h.Ns1 dx mA):∃od,h.get? dx=some od/\∀name,PySem.W.lookIn name od=some (mA name):=by
 obtain ⟨o,es,ep,ho,hd,hk,_,hm⟩:=n
 refine ⟨o,ho,fun name=>?_⟩
 have e:=hm name
 unfold nsFind findBy at e
 rw [<- Array.find?_toList] at e
 unfold PySem.W.lookIn
 rw [hd]
 dsimp only
 split
 ·rename_i y q
  rw [q] at e
  exact congrArg some e
 ·rename_i q
  rw [q] at e
  have a:es.toList.any (·.refKey)=false:=by
   rw [List.any_eq_false]
   intro y hy
   obtain ⟨z,t,hkey⟩:=hk y (Array.mem_toList_iff.mp hy)
   simp [DictEntry.refKey,hkey]
  have a':¬ es.toList.any (·.refKey)=true:=by rw [a];exact Ng
  rw [if_neg a']
  exact congrArg some e
theorem nE.look {h:Heap}{x dx C:Addr}{mA:Str->Option MG}(I:nE h x dx C mA):∃od,PySem.W.InstAt h x (PySem.W.instObj C dx) C (some od)/\∀name,PySem.W.lookIn name od=some (mA name):=
 let ⟨od,ho,hl⟩:=yo I.ns
 ⟨od,⟨I.obj,rfl,rfl,ho⟩,hl⟩
section
variable {prog:Na}{w:Nd}{A:NL}{E:MG->MI->Prop}{s:MI}{K:MF}{x dx C f:Addr}{mA:Str->Option MG}{name:Str}{v:MG}
theorem get_map {expr:Bool}{Q:MG->MI->Prop}(X:K.In s.heap)(I:nE s.heap x dx C mA)(hg:PySem.W.plainGet K C name=true)(hh:PySem.W.hasDictIn K C=true)
 (ha:PySem.W.findIn K (.ref C) name=some none) (hv:mA name=some v) (hv':PySem.W.handedIn v=true) (h:Q v {s with toks:=s.toks+1}) :
 wpAny (model prog w) A (getAttr (.ref x) name expr) Q E s:=by
 obtain ⟨od,J,hl⟩:=I.look
 exact PySem.W.get_value X J (PySem.W.plainGet_of hg).1 (PySem.W.findObj_own hh ha rfl (by rw [hl,hv])) hv' h
theorem A9 {pl:Sem Bool}{Q:MG×List MG->MI->Prop}(X:K.In s.heap)(I:nE s.heap x dx C mA)(hg:PySem.W.plainGet K C name=true)
 (hf:PySem.W.findIn K (.ref C) name=some (some (.ref f))) (ht:PySem.W.isFn K (.ref f)=true) (hv:mA name=none) (h:Q (.ref f,[.ref x]) s) :
 wpAny (model prog w) A (getMethod (.ref x) name pl) Q E s:=by
 obtain ⟨od,J,hl⟩:=I.look
 exact PySem.W.method_fn X J (PySem.W.plainGet_of hg).1 (PySem.W.plainGet_of hg).2 hf (beq_iff_eq.mp ht) (by show (PySem.W.lookIn name od).map (·.isSome)=some false;rw [hl,hv];rfl) h
theorem DV {ns:List Str}{Q:Unit->MI->Prop}(X:K.In s.heap)(I:nE s.heap x dx C mA)
 (hs:PySem.W.findIn K (.ref C) "__setattr__"=some (some (.builtin "object.__setattr__"))) (hp:PySem.W.plainOver K C=true) (ht:PySem.W.takerIn K C name=some none) (hh:PySem.W.hasDictIn K C=true)
 (hw:PySem.Within mA ns) (hsz:ns.length<=sizeLine)
 (h:∀h',nE h' x dx C (fun y=>if y=name then some v else mA y)->Heap.SameBut dx s.heap h'->Q () {s with heap:=h',toks:=s.toks+2}) :
 wpAny (model prog w) A (setAttr (.ref x) name v) Q E s:=by
 obtain ⟨od,J,hl⟩:=I.look
 refine PySem.W.set_plain X J hs (PySem.W.osa_open (s:={s with toks:=s.toks+1}) (r:=none) X J hp ht fun b=>?_)
 obtain ⟨cd,hc,hd'⟩:=PySem.W.any_some hh
 have hx:s.heap.get? x=some ⟨.ref C,some dx,.plain,#[]⟩:=I.obj
 refine tqa (tqb (tqa (tqa (wpAny_loadPart hx (tqa (PySem.W.Looks.here (s:={s with toks:=s.toks+1}) (PySem.W.looks_clsIn X hc) ?_))))))
 rw [hd']
 refine tqb (a:=some dx) (tqa (tqb (tqa ?_)))
 refine wpAny_nsSet1 (s:={s with toks:=s.toks+1}) I.ns fun h' hn2 hs2=>?_
 obtain ⟨oD,esD,epD,hoD,hdD,hcD⟩:=hn2.count (PySem.Within.cons name v hw)
 refine tqa (wpAny_lookBehind hoD (by rw [hdD];exact pastItsLine_dict (MR hcD (by rw [ND];omega))) ?_)
 exact tqb (h _ ⟨(hs2.2 _ (NV I.ne)).trans I.obj,hn2,I.ne⟩ hs2)
theorem AL {R:Result->MI->Prop}{vs:List MG}{kw:List (Str×MG)}(X:K.In s.heap)(hm:PySem.W.makesIn K C=true)
 (hi:PySem.W.findIn K (.ref C) "__init__"=some (some (.ref f))) (hf:PySem.W.typeIn K (.ref f)=some (.type "function"))
 (h:codeAny (model prog w) (A.under (.builtin "type.__call__" ⟨.ref C::vs,kw⟩)) (.call (.ref f) ⟨.ref (s.heap.objs.size+1)::vs,kw⟩) (PySem.W.InitBack (s.heap.objs.size+1) R)
  {s with heap:=(s.heap.push PySem.W.emptyDict).push (PySem.W.instObj C s.heap.objs.size)}) :
 codeAny (model prog w) A (.call (.ref C) ⟨vs,kw⟩) R s:=by
 obtain ⟨hh,g,d,t,os⟩:=s
 exact PySem.W.make_core (PySem.W.makes_of X hm) (PySem.W.looks_findIn X hi) (fun self=>PySem.W.bind_fn X self hf) (.inl rfl) h
end
noncomputable def cE (f:Str)(v:V):List (Str×V)->List (Str×V)
 |[]=>[(f,v)]
 |(g,x)::r=>if g=f then (g,v)::r else (g,x)::cE f v r
theorem mJ (f g:Str)(v:V):∀fs:List (Str×V),(cE f v fs).lookup g=if g=f then some v else fs.lookup g
 | [] => by
   show List.lookup g [(f,v)]=_
   by_cases h:g=f
   ·have hb:(g==f)=true:=beq_iff_eq.mpr h
    simp only [List.lookup,hb,if_pos h]
   ·have hb:(g==f)=false:=NA.mpr h
    simp only [List.lookup,hb,if_neg h]
 | (k, x) :: r => by
   have ih:=mJ f g v r
   rw [show cE f v ((k,x)::r)=(if k=f then (k,v)::r else (k,x)::cE f v r) from rfl]
   by_cases hk:k=f
   ·rw [if_pos hk]
    by_cases h:g=k
    ·have hb:(g==k)=true:=beq_iff_eq.mpr h
     simp only [List.lookup,hb,if_pos (h.trans hk)]
    ·have hb:(g==k)=false:=NA.mpr h
     simp only [List.lookup,hb,if_neg (fun e:g=f=>h (e.trans hk.symm))]
   ·rw [if_neg hk]
    by_cases h:g=k
    ·have hb:(g==k)=true:=beq_iff_eq.mpr h
     simp only [List.lookup,hb,if_neg (fun e:g=f=>hk (h.symm.trans e))]
    ·have hb:(g==k)=false:=NA.mpr h
     simp only [List.lookup,hb]
     exact ih
theorem lF (f:Str)(v:V):∀fs:List (Str×V),f∈(cE f v fs).map (·.1)/\∀g,g∈fs.map (·.1)->g∈(cE f v fs).map (·.1)
 |[]=>⟨by simp [cE],fun g h=>by simp at h⟩
 | (k, x) :: r => by
   obtain ⟨i1,i2⟩:=lF f v r
   rw [show cE f v ((k,x)::r)=(if k=f then (k,v)::r else (k,x)::cE f v r) from rfl]
   by_cases hk:k=f
   ·rw [if_pos hk]
    subst hk
    exact ⟨by simp,fun g h=>by simpa using h⟩
   ·rw [if_neg hk]
    refine ⟨?_,fun g h=>?_⟩
    ·rw [NQ]
     exact MV _ i1
    ·rw [NQ] at h ⊢
     rcases Np.mp h with e|e
     ·exact List.mem_cons.mpr (.inl e)
     ·exact MV _ (i2 g e)
theorem mK (f:Str)(v:V):∀fs:List (Str×V),(cE f v fs).length<=fs.length+1
 |[]=>by simp [cE]
 | (k, x) :: r => by
   have ih:=mK f v r
   rw [show cE f v ((k,x)::r)=(if k=f then (k,v)::r else (k,x)::cE f v r) from rfl]
   by_cases hk:k=f
   ·rw [if_pos hk,ND,ND];omega
   ·rw [if_neg hk,ND,ND];omega
theorem jQ.some_of {v:V}{o:Option MG}(r:jQ (some v) o):∃u,o=some u/\RelV v u:=by
 cases o with
 |none=>exact (show False from r).elim
 |some u=>exact ⟨u,rfl,r⟩
theorem jQ.none_of {o:Option MG}(r:jQ none o):o=none:=by
 cases o with
 |none=>rfl
 |some u=>exact (show False from r).elim
theorem yE {v:V}{u:MG}(r:RelV v u):PySem.W.handedIn u=true:=by
 cases v with
 |non=>cases (show u=Value.none from r);rfl
 |bl b=>cases (show u=Value.bool b from r);rfl
 |int i=>obtain ⟨t,e⟩:=(show ∃t,u=Value.int i t from r);cases e;rfl
 |str x=>obtain ⟨t,e⟩:=(show ∃t,u=Value.str x t from r);cases e;rfl
 |byt b=>obtain ⟨t,e⟩:=(show ∃t,u=Value.bytes b t from r);cases e;rfl
 |flt b=>obtain ⟨t,e⟩:=(show ∃t,u=Value.float b t from r);cases e;rfl
 |ref a=>cases (show u=Value.ref a from r);rfl
 |ty n=>cases (show u=Value.type n from r);rfl
section
variable {P:Na}{w:Nd}{H H':Hp}{h h':Heap}{a C dx:Addr}{fs fs':List (Str×V)}
theorem mj (hok:dN P w H h)(e:H a=some (.ins C dx fs)):∃mA,nE h a dx C mA/\(∀f,jQ (fs.lookup f) (mA f))/\PySem.Within mA (fs.map (·.1))/\fs.length<=1000/\H dx=some (.own a):=by
 obtain ⟨d,z,ne,ob,mA,n,r,q⟩:=(show b9 P w H h a (.ins C dx fs) from hok a _ e)
 exact ⟨mA,⟨ob,n,ne⟩,r,q,z,d⟩
end
structure gO (K:MF) (C:Addr):Prop where
 pg:PySem.W.plainGet K C Str.empty=true
 hd:PySem.W.hasDictIn K C=true
 po:PySem.W.plainOver K C=true
 sa:PySem.W.findIn K (.ref C) "__setattr__"=some (some (.builtin "object.__setattr__"))
theorem gO.get {K:MF}{C:Addr}(c:gO K C)(f:Str):PySem.W.plainGet K C f=true:=c.pg
noncomputable def jv (K:MF)(C:Addr)(f:Str):Prop:=PySem.W.findIn K (.ref C) f=some none
theorem jv.taker {K:MF}{C:Addr}{f:Str}(n:jv K C f):PySem.W.takerIn K C f=some none:=by
 unfold PySem.W.takerIn
 rw [show PySem.W.findIn K (.ref C) f=some none from n]
 rfl
structure Meth (K:MF) (C:Addr) (m:Str) (f:Addr):Prop where
 at_:PySem.W.findIn K (.ref C) m=some (some (.ref f))
 fn:PySem.W.isFn K (.ref f)=true
 kp:PySem.W.keepIn K (.ref f)=true
section
variable {X:Cx}{pins:List (Addr×Obj)}{σ:St}{H:Hp}{s:MI}{a C dx:Addr}{fs:List (Str×V)}{f:Str}{v:V}{A:NL}{E:MG->MI->Prop}
theorem vW {b:Bool}{Q:MG->MI->Prop}(I:Inv X pins σ H s)(e:H a=some (.ins C dx fs))(c:gO X.K C)(n:jv X.K C f)(l:fs.lookup f=some v)
 (h:∀u s',Inv X pins σ H s'->RelV v u->Q u s'):wpAny (model X.prog X.w) A (getAttr (.ref a) f b) Q E s:=by
 obtain ⟨mA,O,r,_,_,_⟩:=mj I.hok e
 obtain ⟨u,hu,ru⟩:=jQ.some_of (v:=v) (o:=mA f) (by rw [<- l];exact r f)
 exact get_map I.kIn O (c.get f) c.hd n hu (yE ru) (h u _ (I.tok _) ru)
theorem gD {m:Str}{g:Addr}{pl:Sem Bool}{Q:MG×List MG->MI->Prop}(I:Inv X pins σ H s)(e:H a=some (.ins C dx fs))(c:gO X.K C)(k:Meth X.K C m g)(l:fs.lookup m=none)
 (h:Q (.ref g,[.ref a]) s):wpAny (model X.prog X.w) A (getMethod (.ref a) m pl) Q E s:=by
 obtain ⟨mA,O,r,_,_,_⟩:=mj I.hok e
 have hn:mA m=none:=jQ.none_of (by rw [<- l];exact r m)
 exact A9 I.kIn O (c.get m) k.at_ k.fn hn h
theorem vm {y:V}{u:MG}{Q:Unit->MI->Prop}(I:Inv X pins σ H s)(e:H a=some (.ins C dx fs))(c:gO X.K C)(n:jv X.K C f)(hl:fs.length<1000)(ry:RelV y u)
 (h:∀s',Inv X pins σ (upd H a (.ins C dx (cE f y fs))) s'->Q () s'):wpAny (model X.prog X.w) A (setAttr (.ref a) f u) Q E s:=by
 obtain ⟨mA,O,r,wi,_,ho⟩:=mj I.hok e
 have hz:(fs.map (·.1)).length<=sizeLine:=by rw [MQ,sizeLine_eq];omega
 refine DV I.kIn O c.sa c.po n.taker c.hd wi hz fun h' O' sb=>h _ ?_
 have hd:∃o,h'.get? dx=some o:=let ⟨o,_,_,e',_⟩:=O'.ns;⟨o,e'⟩
 refine I.write (x:=a) (e:=dx) (by rw [e];exact True.intro) (.inr ho) (fun b q hb z=>(sb.2 b hb).trans z) hd ?_
 refine ⟨by rw [ax O.ne];exact ho,?_,O.ne,O'.obj,_,O'.ns,fun g=>?_,fun g hg=>?_⟩
 ·have:=mK f y fs;omega
 ·show jQ ((cE f y fs).lookup g) (if g=f then some u else mA g)
  rw [mJ]
  by_cases q:g=f
  ·rw [if_pos q,if_pos q];exact ry
  ·rw [if_neg q,if_neg q];exact r g
 ·by_cases q:g=f
  ·rw [q];exact (lF f y fs).1
  ·refine (lF f y fs).2 g (wi g fun z=>hg ?_)
   show (if g=f then some u else mA g)=none
   rw [if_neg q];exact z
theorem Inv.made (I:Inv X pins σ H s):Inv X pins σ (upd (upd H s.heap.objs.size (.own (s.heap.objs.size+1))) (s.heap.objs.size+1) (.ins C s.heap.objs.size []))
 {s with heap:=(s.heap.push PySem.W.emptyDict).push (PySem.W.instObj C s.heap.objs.size)}:=by
 have e1:(s.heap.push PySem.W.emptyDict).get? s.heap.objs.size=some PySem.W.emptyDict:=M8 s.heap rfl
 have e2:((s.heap.push PySem.W.emptyDict).push (PySem.W.instObj C s.heap.objs.size)).get? (s.heap.objs.size+1)=some (PySem.W.instObj C s.heap.objs.size):=by
  have:=M8 (s.heap.push PySem.W.emptyDict) (o:=PySem.W.instObj C s.heap.objs.size) rfl
  rwa [OO] at this
 have e3:(s.heap.push PySem.W.emptyDict).Ns s.heap.objs.size (fun _=>none):=⟨PySem.W.emptyDict,#[],_,e1,rfl,(fun e he=>absurd he (by simp)),fun _=>rfl⟩
 have I1:=I.laid (a:=s.heap.objs.size) (o:=.own (s.heap.objs.size+1)) (h':=s.heap.push PySem.W.emptyDict) (t':=s.toks) (fun b u q=>MJ _ q) (MN _) ⟨_,e1⟩
 refine I1.laid (a:=s.heap.objs.size+1) (o:=.ins C s.heap.objs.size []) (t':=s.toks) (fun b u q=>MJ _ q) (Nat.le_of_eq (OO _ _)) ?_
 have ne:s.heap.objs.size≠s.heap.objs.size+1:=Nz (Nat.lt_succ_self _)
 refine ⟨by rw [ax ne,bt],Nat.zero_le _,ne,e2,fun _=>none,(Heap.Ns1.of_empty e3).at fun o q=>MJ _ q,fun _=>True.intro,fun y hy=>absurd rfl hy⟩
theorem Ff {prog:Na}{w:Nd}{env:Env}{e:Expr}{f:Str}{pos:Pos}{s:MI}{Q:MG->MI->Prop}(hb:attributeBase e f env (eval e env)=eval e env)
 (h:wpAny (model prog w) A (eval e env) (fun o s₁=>wpAny (model prog w) A (getAttr o f true) Q E s₁) E s):wpAny (model prog w) A (eval (.Attribute e f pos) env) Q E s:=
 Attribute_any_ h (by rw [arm_eval_Attribute,hb])
end
noncomputable def Ld (K:MF)(ta:TE)(f:Str):TE:=fun σ H Q=>ta σ H fun x H1=>∃a C dx fs v,x=.ref a/\H1 a=some (.ins C dx fs)/\gO K C/\jv K C f/\fs.lookup f=some v/\Q v H1
noncomputable def Lg (K:MF)(ta tv:TE)(f:Str):TS:=fun D σ H=>tv σ H fun y H1=>ta σ H1 fun x H2=>∃a C dx fs,x=.ref a/\H2 a=some (.ins C dx fs)/\gO K C/\jv K C f/\fs.length<1000/\
 D.nx σ (upd H2 a (.ins C dx (cE f y fs)))
section
variable {X:Cx}{o e value:Expr}{f:Str}{pos pos' tpos:Pos}{ta tv:TE}
theorem GP (he:PE X e ta)(hb:attributeBase e f X.env (eval e X.env)=eval e X.env):PE X (.Attribute e f pos) (Ld X.K ta f):=by
 intro pins s σ H Q I h
 refine Ff hb (aN (he pins s σ H _ I h) fun u s1 ⟨x,H1,I1,rx,a,C,dx,fs,v,ex,ea,c,n,l,q⟩=>?_)
 subst ex
 obtain rfl:u=Value.ref a:=rx
 exact vW I1 ea c n l fun u' s2 I2 ru=>⟨v,H1,I2,ru,q⟩
theorem Gy (ha:PE X o ta)(hv:PE X value tv)(hs:swapsWith value (some (.Attribute o f pos')) pos.line X.env=pure false):PS X (.Assign [.Attribute o f pos'] value pos) (Lg X.K ta tv f):=by
 intro pins s σ H D I h
 refine plainObj_wpAny_Assign_Attribute (aN (hv pins s σ H _ I h) fun u s1 ⟨y,H1,I1,ry,q⟩=>aN (ha pins s1 σ H1 _ I1 q) fun ov s2 ⟨x,H2,I2,rx,a,C,dx,fs,ex,ea,c,n,l,q2⟩=>?_) hs
 subst ex
 obtain rfl:ov=Value.ref a:=rx
 exact vm I2 ea c n l ry fun s3 I3=>⟨σ,_,I3,q2⟩
theorem IT {pl:Sem Bool}{m:Str}{apos:Pos}{args:List Expr}{pins:List (Addr×Obj)}{s:MI}{σ:St}{H:Hp}{Q:MG->MI->Prop}{te:TE}(he:PE X e te)(I:Inv X pins σ H s)
 (h:te σ H fun x H1=>∃a C dx fs g,x=.ref a/\H1 a=some (.ins C dx fs)/\gO X.K C/\Meth X.K C m g/\fs.lookup m=none/\
  ∀s1,Inv X pins σ H1 s1->wpAny (model X.prog X.w) X.A (callWith pos (.ref g) [.ref a] (backTo pos (starEach args X.env)) (backToKw pos (keywordEach [] X.env))) Q X.xe s1)
 (ht:eval (.Call (.Attribute e m apos) args [] pos) X.env=(do
  let ov <- eval e X.env
  standAt apos.atName
  let (f,first) <- holding [ov] (getMethod ov m pl)
  callWith pos f first (backTo pos (starEach args X.env)) (backToKw pos (keywordEach [] X.env)))) :
 wpAny (model X.prog X.w) X.A (eval (.Call (.Attribute e m apos) args [] pos) X.env) Q X.xe s:=by
 refine Oh (pl:=pl) (aN (he pins s σ H _ I h) fun u s1 ⟨x,H1,I1,rx,a,C,dx,fs,g,ex,ea,c,k,l,q⟩=>?_) ht
 subst ex
 obtain rfl:u=Value.ref a:=rx
 exact gD I1 ea c k l (q s1 I1)
end
section
variable {X:Cx}{pins:List (Addr×Obj)}{σ:St}{H:Hp}{s:MI}{A:NL}{E:MG->MI->Prop}{Q:MG->MI->Prop}{c:MG}{b:Bool}
inductive iG (K:MF) (H:Hp):V->MG->Prop where
 |non:iG K H .non (.type "NoneType")
 |bl (x:Bool):iG K H (.bl x) (.type "bool")
 |int (i:Int):iG K H (.int i) (.type "int")
 |str (x:Str):iG K H (.str x) (.type "str")
 |flt (x:UInt64):iG K H (.flt x) (.type "float")
 |lst {a:Addr}{xs:List V} (e:H a=some (.lst xs)):iG K H (.ref a) (.type "list")
 |frz {a:Addr}{o:Obj}{xs:List V} (e:H a=some (.frz o (.lst xs))):iG K H (.ref a) (.type "list")
 |tup {a:Addr}{xs:List V} (e:H a=some (.tup xs)):iG K H (.ref a) (.type "tuple")
 |dK {a:Addr}{kvs:List (Key×V)} (e:H a=some (.dK kvs)):iG K H (.ref a) (.type "dict")
 |dT {a:Addr}{kvs:List (List Key×V)} (e:H a=some (.dT kvs)):iG K H (.ref a) (.type "dict")
 |ins {a C dx:Addr}{fs:List (Str×V)} (e:H a=some (.ins C dx fs)) (cl:gO K C) (ha:PySem.W.findIn K (.ref C) "__class__"=some (some (.builtin "object.__class__")))
  (hn:PySem.W.specialIn K (.builtin "object.__class__") "__get__"=some (some (.builtin "getset_descriptor.__get__"))) (htk:PySem.W.takesIn K (.builtin "object.__class__")=some true)
  (hm:PySem.W.mroIn K C (.type "object")=some true):iG K H (.ref a) (.ref C)
theorem jC {x:V}{u t:MG}(I:Inv X pins σ H s)(rx:RelV x u)(ty:iG X.K H x t)(e:PySem.W.kitOne X.K t c=some b)(h:∀tk,Q (.bool b) {s with toks:=tk}) :
 wpAny (model X.prog X.w) A (call (.builtin "isinstance") [u,c]) Q E s:=by
 cases ty with
 |non=>cases (show u=Value.none from rx);exact NJ PySem.W.kitx_none I.kIn True.intro e (fun z=>nomatch z) h
 |bl y=>cases (show u=Value.bool y from rx);exact NJ PySem.W.kitx_bool I.kIn True.intro e (fun z=>nomatch z) h
 |int i=>obtain ⟨t,q⟩:=(show ∃t,u=Value.int i t from rx);cases q;exact NJ PySem.W.kitx_int I.kIn True.intro e (fun z=>nomatch z) h
 |str y=>obtain ⟨t,q⟩:=(show ∃t,u=Value.str y t from rx);cases q;exact NJ PySem.W.kitx_str I.kIn True.intro e (fun z=>nomatch z) h
 |flt y=>obtain ⟨t,q⟩:=(show ∃t,u=Value.float y t from rx);cases q;exact NJ PySem.W.kitx_float I.kIn True.intro e (fun z=>nomatch z) h
 | @lst a xs ea =>
   cases (show u=Value.ref a from rx)
   obtain ⟨_,_,n,_,h1⟩:=(show b9 X.prog X.w H s.heap a (.lst xs) from I.hok a _ ea)
   exact NJ PySem.W.kitx_list I.kIn ⟨_,h1,rfl⟩ e (fun z=>nomatch z) h
 | @frz a ob xs ea =>
   cases (show u=Value.ref a from rx)
   obtain ⟨_,_,_,n,_,h1⟩:=(show b9 X.prog X.w H s.heap a (.frz ob (.lst xs)) from I.hok a _ ea)
   exact NJ PySem.W.kitx_list I.kIn ⟨_,h1,rfl⟩ e (fun z=>nomatch z) h
 | @tup a xs ea =>
   cases (show u=Value.ref a from rx)
   obtain ⟨_,_,_,p⟩:=(show b9 X.prog X.w H s.heap a (.tup xs) from I.hok a _ ea)
   obtain ⟨o,h1,h2,_⟩:=p
   exact NJ PySem.W.kitx_tuple I.kIn ⟨o,h1,h2⟩ e (fun z=>nomatch z) h
 | @dK a kvs ea =>
   cases (show u=Value.ref a from rx)
   obtain ⟨_,_,vs,_,p⟩:=(show b9 X.prog X.w H s.heap a (.dK kvs) from I.hok a _ ea)
   obtain ⟨o,es,ep,h1,h2,_⟩:=p
   exact NJ PySem.W.kitx_dict I.kIn ⟨o,h1,h2.1⟩ e (fun z=>nomatch z) h
 | @dT a kvs ea =>
   cases (show u=Value.ref a from rx)
   obtain ⟨_,_,xs,_,o,es,ep,h1,h2,_⟩:=(show b9 X.prog X.w H s.heap a (.dT kvs) from I.hok a _ ea)
   exact NJ PySem.W.kitx_dict I.kIn ⟨o,h1,h2.1⟩ e (fun z=>nomatch z) h
 | @ins a C dx fs ea cl ha hn htk hm =>
   cases (show u=Value.ref a from rx)
   obtain ⟨mA,O,_⟩:=mj I.hok ea
   obtain ⟨od,J,_⟩:=O.look
   exact NJ (PySem.W.kitx_own (cl.get _) cl.hd ha hn htk hm) I.kIn J e (fun z=>nomatch z) h
end
end L2
namespace L2
open PySem PySem.Spec PyProof.Rows
structure bu (k:Nat) (A:NL):Prop where
 hd:A.handled=none
 dp:A.depth+3*k+5<recursionLimit
 un:A.units+16*k+200<cLine
 gd:A.guards=some []
theorem bu.mono {j k:Nat}{A:NL}(r:bu k A)(h:j<=k):bu j A:=⟨r.hd,by have:=r.dp;omega,by have:=r.un;omega,r.gd⟩
theorem bu.deeper {k:Nat}{A:NL}(r:bu (k+1) A)(env:Env):bu k (A.deeper env):=
 ⟨r.hd,by have:=r.dp;show A.depth+1+3*k+5<_;omega,by have:=r.un;show A.units+3+16*k+200<_;omega,r.gd⟩
theorem vN {A:NL}{C:Addr}{us:List MG}{kw:List (Str×MG)}:(A.under (.builtin "type.__call__" ⟨.ref C::us,kw⟩)).depth=A.depth+1:=by
 first|rfl|simp [Around.under,Code.weight,Code.isCreation,Code.isGuard,Code.isCaller,Code.frames,Code.isFrame,guardIds]
theorem vM {A:NL}{C:Addr}{us:List MG}{kw:List (Str×MG)}:(A.under (.builtin "type.__call__" ⟨.ref C::us,kw⟩)).units=A.units+1:=by
 first|rfl|simp [Around.under,Code.cUnits,Code.frames,Code.isFrame]
theorem bu.make {k:Nat}{A:NL}(r:bu (k+1) A)(C:Addr)(us:List MG)(kw:List (Str×MG)):bu k (A.under (.builtin "type.__call__" ⟨.ref C::us,kw⟩)):=
 ⟨r.hd,by have:=r.dp;rw [vN];omega,by have:=r.un;rw [vM];omega,r.gd⟩
theorem bu.depth {k:Nat}{A:NL}(r:bu k A):A.depth<recursionLimit:=by have:=r.dp;omega
theorem bu.units {k:Nat}{A:NL}(r:bu k A):A.units+64<cLine:=by have:=r.un;omega
noncomputable def zN:TA:=fun _ H Q=>Q [] H
noncomputable def Jb (ta:TE)(tr:TA):TA:=fun σ H Q=>ta σ H fun x H1=>tr σ H1 fun xs H2=>Q (x::xs) H2
section
variable {X:Cx}{e:Expr}{es:List Expr}{te:TE}{t:TA}{pos:Pos}
theorem eT:PA X [] zN:=fun _ _ _ _ H Q I h=>Calls.spliced_nil ⟨[],H,I,.nil,h⟩
theorem bO (ha:PE X e te)(hr:PA X es t)(hs:starEach (e::es) X.env=(false,eval e X.env)::starEach es X.env:=by rfl):PA X (e::es) (Jb te t):=by
 intro pos pins s σ H Q I h
 rw [hs]
 show wpAny _ _ (spliced ((false,eval e X.env)::backTo pos (starEach es X.env))) _ _ s
 refine Calls.spliced_cons (aN (ha pins s σ H _ I h) fun u s1 ⟨x,H1,I1,r1,q1⟩=>?_)
 exact aN (hr pos pins s1 σ H1 _ I1 q1) fun us s2 ⟨xs,H2,I2,r2,q2⟩=>⟨x::xs,H2,I2,.cons r1 r2,q2⟩
noncomputable def K0 (t:TA):TE:=fun σ H Q=>t σ H fun xs H1=>xs.length<=sizeLine/\∀p,H1 p=none->Q (.ref p) (upd H1 p (.tup xs))
noncomputable def K9 (t:TA):TE:=fun σ H Q=>t σ H fun xs H1=>xs.length<=sizeLine/\∀p,H1 p=none->Q (.ref p) (upd H1 p (.lst xs))
theorem GG {x1}(h:PA X es t):PE X (.Tuple es x1 pos) (K0 t):=by
 intro pins s σ H Q I hq
 refine wpAny_Tuple_spliced (aN (h pos pins s σ H _ I hq) fun us s1 ⟨xs,H1,I1,r,z,q⟩=>⟨by rw [<- r.length];exact z,?_⟩)
 have hf:H1 s1.heap.objs.size=none:=I1.hok.fresh (MN _)
 refine ⟨.ref s1.heap.objs.size,upd H1 s1.heap.objs.size (.tup xs),I1.laid (t':=s1.toks) (fun b u e=>MJ _ e) (MN _) ?_,rfl,q _ hf⟩
 exact ⟨z,us,r,⟨_,M8 _ rfl,rfl,_,rfl⟩⟩
theorem GN (h:PA X es t):PE X (.List es pos) (K9 t):=by
 intro pins s σ H Q I hq
 refine wpAny_List_spliced (aN (h pos pins s σ H _ I hq) fun us s1 ⟨xs,H1,I1,r,z,q⟩=>⟨by rw [<- r.length];exact z,?_⟩)
 have hf:H1 s1.heap.objs.size=none:=I1.hok.fresh (MN _)
 refine ⟨.ref s1.heap.objs.size,upd H1 s1.heap.objs.size (.lst xs),I1.laid (t':=s1.toks) (fun b u e=>MJ _ e) (MN _) ?_,rfl,q _ hf⟩
 exact ⟨z,us,0,r,M8 _ rfl⟩
end
abbrev Sp:=List V->Hp->VK->XK->Prop
abbrev mR:=List Env->Hp->MI->XK->MG->MI->Prop
structure nF (P:Na) (w:Nd) (K:MF) (mg:Str->Option MG) (base:Heap) (A:NL) (outer:List Env) (s:MI) (H:Hp):Prop where
 frames:A.frames=some outer
 mod:Mod K mg base
 bs:∀b o,base.get? b=some o->s.heap.get? b=some o/\H b=none
 bsz:base.objs.size<=s.heap.objs.size
 funs:s.heap.FunFrames base outer
 frf:∀b∈eU outer,H b=none
 hok:dN P w H s.heap
 bare:AllBare s.gens
noncomputable def CE (outer:List Env)(P:Na)(w:Nd)(H:Hp)(s:MI)(Q:VK)(u:MG)(s':MI):Prop:=
 ∃v H',s'.os=s.os/\AllBare s'.gens/\Un (eU outer) [] H H' s.heap s'.heap/\dN P w H' s'.heap/\RelV v u/\Q v H'
noncomputable def CR (CX:mR)(outer:List Env)(P:Na)(w:Nd)(H:Hp)(s:MI)(Q:VK)(E:XK)(r:Result)(s':MI):Prop:=
 match r with
 |.ok (.ret u)=>CE outer P w H s Q u s'
 |.ok _=>False
 |.error e=>CX outer H s E e s'
structure fB (P:Na) (w:Nd) (K:MF) (mg:Str->Option MG) (base:Heap) (CX:mR) (k:Nat) (f:Addr) (fd:OG) (ps:List Str) (sp:Sp):Prop where
 len:∀vs H Q E,sp vs H Q E->vs.length=ps.length
 run:∀(A:NL) (outer:List Env) (s:MI) (H:Hp) (args:Args) (us:List MG) (vs:List V) (Q:VK) (E:XK),bu k A->nF P w K mg base A outer s H->BindsTo s fd args (ps.zip us)->Vals vs us->sp vs H Q E->
  codeAny (model P w) A (.call (.ref f) args) (CR CX outer P w H s Q E) s
theorem nF.make {P:Na}{w:Nd}{K:MF}{mg:Str->Option MG}{base:Heap}{A:NL}{outer:List Env}{s:MI}{H:Hp}(e:nF P w K mg base A outer s H)(C:Addr)(us:List MG)(kw:List (Str×MG)) :
 nF P w K mg base (A.under (.builtin "type.__call__" ⟨.ref C::us,kw⟩)) outer s H:=⟨by first|exact e.frames|(simpa [Around.under,Code.envs,Code.isFrame,pushEnvs] using e.frames),e.mod,e.bs,e.bsz,e.funs,e.frf,e.hok,e.bare⟩
section
variable {X:Cx}{pins:List (Addr×Obj)}{σ:St}{H:Hp}{s s':MI}
theorem Inv.env0 (I:Inv X pins σ H s):nF X.prog X.w X.K X.mg X.base X.A X.stack s H:=
 ⟨I.ok.frames,I.ok.mod,I.bs,MR I.ok.bsz I.sz,I.stack,I.stkFree,I.hok,I.bare⟩
theorem Inv.after {Q:VK}{u:MG}(I:Inv X pins σ H s)(h:CE X.stack X.prog X.w H s Q u s'):EP X pins σ Q u s':=by
 obtain ⟨v,H',os,bare,un,hok,r,q⟩:=h
 obtain ⟨hh,g,d,t,os'⟩:=s'
 obtain rfl:os'=s.os:=os
 exact ⟨v,H',I.call (h':=hh) (g':=g) (d':=d) (t':=t) (ch:=[]) un hok bare (fun b z=>absurd z (by simp)),r,q⟩
end
noncomputable def ve (sp:Sp)(dvs:List V)(E:XK)(t:TA):TE:=fun σ H Q=>t σ H fun vs H1=>sp (vs++dvs) H1 Q E
noncomputable def vd (C:Addr)(m:Str)(sp:Sp)(dvs:List V)(E:XK)(ta:TE)(t:TA):TE:=fun σ H Q=>ta σ H fun x H1=>∃a dx fs,x=.ref a/\H1 a=some (.ins C dx fs)/\fs.lookup m=none/\
 t σ H1 fun vs H2=>sp (x::(vs++dvs)) H2 Q E
noncomputable def I9 (C:Addr)(sp:Sp)(dvs:List V)(E:XK)(t:TA):TE:=fun σ H Q=>t σ H fun vs H1=>∀x dx,H1 x=none->H1 dx=none->dx≠x->
 sp (.ref x::(vs++dvs)) (upd (upd H1 dx (.own x)) x (.ins C dx [])) (fun v H2=>v=.non/\Q (.ref x) H2) E
noncomputable def Binds (K:MF)(fd:OG)(ps:List Str)(ds:List MG):Prop:=
 ∀(s:MI) (us:List MG),K.In s.heap->(us++ds).length=ps.length->BindsTo s fd ⟨us,[]⟩ (ps.zip (us++ds))
theorem Binds.all {K:MF}{fd:OG}{ps:List Str}(h:∀us:List MG,us.length=ps.length->bindArgs fd ⟨us,[]⟩=pure (ps.zip us)):Binds K fd ps []:=fun s us _ hl=>by
 rw [OA] at hl ⊢
 exact .of_eq (h us hl)
noncomputable def Passes (CX:mR)(X:Cx)(E:XK):Prop:=∀(pins:List (Addr×Obj)) (σ:St) (H:Hp) (s:MI) (e:MG) (s':MI),Inv X pins σ H s->CX X.stack H s E e s'->X.xe e s'
section
variable {X:Cx}{CX:mR}{k:Nat}{f C:Addr}{fd:OG}{ps:List Str}{sp:Sp}{dvs:List V}{ds:List MG}{E:XK}{x m:Str}{p pos apos:Pos}{e o:Expr}{es:List Expr}{ta:TE}{t:TA}
theorem lh {pins:List (Addr×Obj)}{σ:St}{H:Hp}{s:MI}{Q:VK}{us:List MG}{vs:List V}(F:fB X.prog X.w X.K X.mg X.base CX k f fd ps sp)(hr:bu k X.A)(hb:Binds X.K fd ps ds)(hd:Vals dvs ds)(hx:Passes CX X E)
 (I:Inv X pins σ H s) (r:Vals vs us) (h:sp (vs++dvs) H Q E):wpAny (model X.prog X.w) X.A (call (.ref f) us) (EP X pins σ Q) X.xe s:=by
 have r2:Vals (vs++dvs) (us++ds):=r.append hd
 have hl:(us++ds).length=ps.length:=by rw [<- r2.length];exact F.len _ _ _ _ h
 refine wpAny_call (codeAny_mono (F.run X.A X.stack s H ⟨us,[]⟩ (us++ds) (vs++dvs) Q E hr I.env0 (hb s us I.kIn hl) r2 h) fun r s' hq=>?_)
 cases r with
 |error e=>exact hx pins σ H s e s' I hq
 | ok fl =>
   cases fl with
   |ret u=>exact I.after hq
   |next=>exact False.elim hq
   |brk=>exact False.elim hq
   |cont=>exact False.elim hq
theorem Em (F:fB X.prog X.w X.K X.mg X.base CX k f fd ps sp)(hr:bu k X.A)(hg:Gl X x)(hm:X.mg x=some (.ref f))(hk:PySem.W.keepIn X.K (.ref f)=true)(hb:Binds X.K fd ps ds)(hd:Vals dvs ds)(hx:Passes CX X E)
 (ha:PA X (e::es) t) (hdb:(x==("__debug__":Str))=false:=by decide) (he:starEach (e::es) X.env=(false,eval e X.env)::starEach es X.env:=by rfl) (hpl:(backTo pos (starEach es X.env)).any (·.1)=false:=by rfl) :
 PE X (.Call (.Name x p) (e::es) [] pos) (ve sp dvs E t):=by
 intro pins s σ H Q I h
 refine wpAny_Call_Name_kw (fj I hg hm ?_ hdb)
 refine Og (h₀:=X.base) I.ok.mod.kin hk (aN (ha pos pins s σ H _ I h) fun us s1 ⟨vs,H1,I1,r,q⟩=>⟨I1.kIn,?_⟩) he hpl
 exact lh F hr hb hd hx I1 r q
theorem AA (F:fB X.prog X.w X.K X.mg X.base CX k f fd ps sp)(hr:bu k X.A)(hg:Gl X x)(hm:X.mg x=some (.ref f))(hk:PySem.W.keepIn X.K (.ref f)=true)(hb:Binds X.K fd ps ds)(hd:Vals dvs ds)(hx:Passes CX X E)
 (hdb:(x==("__debug__":Str))=false:=by decide):PE X (.Call (.Name x p) [] [] pos) (ve sp dvs E zN):=by
 intro pins s σ H Q I h
 refine wpAny_Call_Name_kw (fj I hg hm ?_ hdb)
 exact PySem.W.callWith_K0 I.kIn hk (lh (us:=[]) F hr hb hd hx I .nil h)
theorem Ek {pl:Sem Bool}(he:PE X o ta)(c:gO X.K C)(hm:Meth X.K C m f)(F:fB X.prog X.w X.K X.mg X.base CX k f fd ps sp)(hr:bu k X.A)(hb:Binds X.K fd ps ds)(hd:Vals dvs ds)(hx:Passes CX X E)(ha:PA X (e::es) t)
 (hst:starEach (e::es) X.env=(false,eval e X.env)::starEach es X.env:=by rfl) (hpl:(backTo pos (starEach es X.env)).any (·.1)=false:=by rfl)
 (ht:eval (.Call (.Attribute o m apos) (e::es) [] pos) X.env=(do
  let ov <- eval o X.env
  standAt apos.atName
  let (f,first) <- holding [ov] (getMethod ov m pl)
  callWith pos f first (backTo pos (starEach (e::es) X.env)) (backToKw pos (keywordEach [] X.env))):=by rfl) :
 PE X (.Call (.Attribute o m apos) (e::es) [] pos) (vd C m sp dvs E ta t):=by
 intro pins s σ H Q I h
 refine Oh (pl:=pl) (aN (he pins s σ H _ I h) fun u s1 ⟨x,H1,I1,rx,a,dx,fs,ex,ea,l,q⟩=>?_) ht
 subst ex
 obtain rfl:u=Value.ref a:=rx
 refine gD I1 ea c hm l ?_
 refine Og (first:=[.ref a]) (h₀:=X.base) I.ok.mod.kin hm.kp (aN (ha pos pins s1 σ H1 _ I1 q) fun us s2 ⟨vs,H2,I2,r,q2⟩=>⟨I2.kIn,?_⟩) hst hpl
 exact lh (us:=.ref a::us) (vs:=.ref a::vs) F hr hb hd hx I2 (.cons rfl r) q2
theorem Ay {pl:Sem Bool}(he:PE X o ta)(c:gO X.K C)(hm:Meth X.K C m f)(F:fB X.prog X.w X.K X.mg X.base CX k f fd ps sp)(hr:bu k X.A)(hb:Binds X.K fd ps ds)(hd:Vals dvs ds)(hx:Passes CX X E)
 (ht:eval (.Call (.Attribute o m apos) [] [] pos) X.env=(do
  let ov <- eval o X.env
  standAt apos.atName
  let (f,first) <- holding [ov] (getMethod ov m pl)
  callWith pos f first (backTo pos (starEach [] X.env)) (backToKw pos (keywordEach [] X.env))):=by rfl) :
 PE X (.Call (.Attribute o m apos) [] [] pos) (vd C m sp dvs E ta zN):=by
 intro pins s σ H Q I h
 refine Oh (pl:=pl) (aN (he pins s σ H _ I h) fun u s1 ⟨x,H1,I1,rx,a,dx,fs,ex,ea,l,q⟩=>?_) ht
 subst ex
 obtain rfl:u=Value.ref a:=rx
 refine gD I1 ea c hm l ?_
 exact PySem.W.callWith_K0 (first:=[.ref a]) I1.kIn hm.kp (lh (us:=[.ref a]) (vs:=[.ref a]) F hr hb hd hx I1 (.cons rfl .nil) q)
structure Mk (K:MF) (C f:Addr):Prop where
 makes:PySem.W.makesIn K C=true
 init:PySem.W.findIn K (.ref C) "__init__"=some (some (.ref f))
 fn:PySem.W.isFn K (.ref f)=true
 kp:PySem.W.keepIn K (.ref C)=true
theorem Ak {pins:List (Addr×Obj)}{σ:St}{H:Hp}{s:MI}{Q:VK}{us:List MG}{vs:List V}(M:Mk X.K C f)(F:fB X.prog X.w X.K X.mg X.base CX k f fd ps sp)(hr:bu (k+1) X.A)(hb:Binds X.K fd ps ds)(hd:Vals dvs ds)
 (hx:Passes CX X E) (I:Inv X pins σ H s) (r:Vals vs us)
 (h:∀x dx,H x=none->H dx=none->dx≠x->sp (.ref x::(vs++dvs)) (upd (upd H dx (.own x)) x (.ins C dx [])) (fun v H2=>v=.non/\Q (.ref x) H2) E) :
 wpAny (model X.prog X.w) X.A (call (.ref C) us) (EP X pins σ Q) X.xe s:=by
 have hq:=h (s.heap.objs.size+1) s.heap.objs.size (I.hok.fresh (Oz _)) (I.hok.fresh (MN _)) (Nz (Nat.lt_succ_self _))
 have I2:=Inv.made (C:=C) I
 have r2:Vals (V.ref (s.heap.objs.size+1)::(vs++dvs)) (Value.ref (s.heap.objs.size+1)::(us++ds)):=.cons rfl (r.append hd)
 have hl:(Value.ref (s.heap.objs.size+1)::us++ds).length=ps.length:=by
  have e:=r2.length
  rw [F.len _ _ _ _ hq] at e
  exact e.symm
 refine wpAny_call (AL (f:=f) I.kIn M.makes M.init (beq_iff_eq.mp M.fn) (codeAny_mono (F.run _ X.stack _ _ ⟨Value.ref (s.heap.objs.size+1)::us,[]⟩ (Value.ref (s.heap.objs.size+1)::(us++ds)) _ _ E (hr.make C us [])
  (I2.env0.make C us []) (hb _ (Value.ref (s.heap.objs.size+1)::us) I2.kIn hl) r2 hq) fun r s' hq'=>?_))
 cases r with
 |error e=>exact hx pins σ _ _ e s' I2 hq'
 | ok fl =>
   cases fl with
   | ret u =>
     obtain ⟨v,H',I3,rv,ev,q3⟩:=I2.after hq'
     subst ev
     exact ⟨rv,⟨V.ref (s.heap.objs.size+1),H',I3,rfl,q3⟩⟩
   |next=>exact False.elim hq'
   |brk=>exact False.elim hq'
   |cont=>exact False.elim hq'
theorem El (M:Mk X.K C f)(F:fB X.prog X.w X.K X.mg X.base CX k f fd ps sp)(hr:bu (k+1) X.A)(hg:Gl X x)(hm:X.mg x=some (.ref C))(hb:Binds X.K fd ps ds)(hd:Vals dvs ds)(hx:Passes CX X E)
 (ha:PA X (e::es) t) (hdb:(x==("__debug__":Str))=false:=by decide) (he:starEach (e::es) X.env=(false,eval e X.env)::starEach es X.env:=by rfl) (hpl:(backTo pos (starEach es X.env)).any (·.1)=false:=by rfl) :
 PE X (.Call (.Name x p) (e::es) [] pos) (I9 C sp dvs E t):=by
 intro pins s σ H Q I h
 refine wpAny_Call_Name_kw (fj I hg hm ?_ hdb)
 refine Og (h₀:=X.base) I.ok.mod.kin M.kp (aN (ha pos pins s σ H _ I h) fun us s1 ⟨vs,H1,I1,r,q⟩=>⟨I1.kIn,?_⟩) he hpl
 exact Ak M F hr hb hd hx I1 r q
end
structure f6 (N P:List Str) (sc:Scope):Prop where
 kind:sc.kind=.function
 co:sc.isCoroutine=false
 gen:sc.isGenerator=false
 nd:N.Nodup
 pre:N.take P.length=P
 par:∀x∈P,sc.names.lookup x=some .local\/sc.names.lookup x=some .cell
 nofree:∀y∈sc.names,y.2≠.free
theorem qu {kindOf:Str->Option NameKind}{x:Str}:∀{binds:List (Str×MG)}{m:Str->Option MG},(∀v,(x,v)∉binds)->bindL kindOf binds m x=m x
 |[],_,_=>rfl
 | (n, v) :: r, m, h => by
   unfold bindL
   rw [qu fun w hw=>h w (MV _ hw)]
   split
   ·have:x≠n:=by rintro rfl;exact h v Ni
    simp [this]
   ·rfl
theorem qw {kindOf:Str->Option NameKind}{x:Str}:∀{binds:List (Str×MG)}{m:Str->Option MG},(∀v,(x,v)∉binds)->bindC kindOf binds m x=m x
 |[],_,_=>rfl
 | (n, v) :: r, m, h => by
   unfold bindC
   rw [qw fun w hw=>h w (MV _ hw)]
   split
   ·rfl
   ·have:x≠n:=by rintro rfl;exact h v Ni
    simp [this]
theorem qv {kindOf:Str->Option NameKind}{x:Str}{v:MG}:∀{P:List Str}{vs:List MG}{i:Nat}{m:Str->Option MG},P.Nodup->P[i]?=some x->vs[i]?=some v->kindOf x=some .local->
 bindL kindOf (P.zip vs) m x=some v
 |[],_,_,_,_,h,_,_=>by simp at h
 |_::_,[],_,_,_,_,h,_=>by simp at h
 | p :: P, w :: vs, 0, m, nd, h1, h2, hk => by
   simp at h1 h2;subst h1;subst h2
   show bindL kindOf ((p,w)::P.zip vs) m p=_
   unfold bindL
   rw [qu fun v hv=>(List.nodup_cons.mp nd).1 (List.of_mem_zip hv).1,if_pos hk]
   simp
 | p :: P, w :: vs, i + 1, m, nd, h1, h2, hk => by
   show bindL kindOf ((p,w)::P.zip vs) m x=_
   unfold bindL
   exact qv (i:=i) (List.nodup_cons.mp nd).2 (by simpa using h1) (by simpa using h2) hk
theorem qx {kindOf:Str->Option NameKind}{x:Str}{v:MG}:∀{P:List Str}{vs:List MG}{i:Nat}{m:Str->Option MG},P.Nodup->P[i]?=some x->vs[i]?=some v->kindOf x≠some .local->
 bindC kindOf (P.zip vs) m x=some v
 |[],_,_,_,_,h,_,_=>by simp at h
 |_::_,[],_,_,_,_,h,_=>by simp at h
 | p :: P, w :: vs, 0, m, nd, h1, h2, hk => by
   simp at h1 h2;subst h1;subst h2
   show bindC kindOf ((p,w)::P.zip vs) m p=_
   unfold bindC
   rw [qw fun v hv=>(List.nodup_cons.mp nd).1 (List.of_mem_zip hv).1,if_neg hk]
   simp
 | p :: P, w :: vs, i + 1, m, nd, h1, h2, hk => by
   show bindC kindOf ((p,w)::P.zip vs) m x=_
   unfold bindC
   exact qx (i:=i) (List.nodup_cons.mp nd).2 (by simpa using h1) (by simpa using h2) hk
noncomputable def start (N:List Str)(vs:List V):St:=vs.map some++List.replicate (N.length-vs.length) none
noncomputable def eA (CX:mR)(P:Na)(w:Nd)(K:MF)(mg:Str->Option MG)(base:Heap)(N:List Str)(qual:Str)(scope:Scope)(f:Addr)(cd:MG)(A:NL)(outer:List Env)(s:MI)(H:Hp)(E:XK):Cx where
 prog:=P
 w:=w
 K:=K
 mg:=mg
 base:=base
 A:=A.deeper (envOfC qual scope s.heap.objs.size f cd)
 N:=N
 s₀:=s
 H₀:=H
 env:=envOfC qual scope s.heap.objs.size f cd
 outer:=outer
 stack:=envOfC qual scope s.heap.objs.size f cd::outer
 ex:=[]
 calm:=true
 fn:=fun _=>true
 pn:=[]
 xe:=fun e s'=>wpAny (model P w) (A.deeper (envOfC qual scope s.heap.objs.size f cd)) (leaving (envOfC qual scope s.heap.objs.size f cd) e) (fun _ s''=>CX outer H s E e s'') (fun e' s''=>CX outer H s E e' s'') s'
theorem s8 {sc:Scope}{n:Nat}{x:Str}(h:sc.names.lookup x=some .cell):∃c,(cellsFrom n sc.names []).lookup x=some c:=by
 have q:=PySem.W.cellsFrom_some sc.names n [] (.inl h)
 exact Option.isSome_iff_exists.mp q
theorem yA {CX:mR}{P:Na}{w:Nd}{K:MF}{mg:Str->Option MG}{base:Heap}{N ps:List Str}{qual:Str}{scope:Scope}{f:Addr}{cd:MG}{A:NL}{outer:List Env}{s s1:MI}{H:Hp}{E:XK}{us:List MG}{vs:List V}
 (S:f6 N ps scope) (hd:A.handled=none) (e0:nF P w K mg base A outer s H) (hl:vs.length=ps.length) (r:Vals vs us)
 (x:InCallC s s.heap.objs.size (bindL (envOfC qual scope s.heap.objs.size f cd).kindOf (ps.zip us) fun _=>none) (cellsFrom (s.heap.objs.size+1) scope.names []) (bindC (envOfC qual scope s.heap.objs.size f cd).kindOf (ps.zip us) fun _=>none) s1) :
 Inv (eA CX P w K mg base N qual scope f cd A outer s H E) [] (start N vs) H s1:=by
 have hpl:ps.length<=N.length:=by have:=congrArg List.length S.pre;rw [N8] at this;omega
 obtain ⟨h1,tk,rfl,hk⟩:=x.done
 have noA:∀b:Addr,b∉(eA CX P w K mg base N qual scope f cd A outer s H E).ex:=fun b z=>absurd (show b∈([]:List Addr) from z) (by simp)
 refine ⟨⟨e0.mod,S.kind,rfl,rfl,MN _,fun y z c h1 h2=>?_,fun y hy=>?_,fun y c _ h=>?_,fun _=>hd,Around.frames_deeper e0.frames,.inr ⟨rfl,rfl⟩,fun b z=>absurd z (noA b),e0.bs,e0.bsz,fun b _ _=>noA b,fun b z=>absurd z (noA b),e0.funs,e0.frf⟩,
  rfl,e0.bare,Un.kept hk,⟨_,x.toInCall.ns,fun i y v h1 h2 h3=>?_⟩,fun y c h=>⟨_,x.cell y c h⟩,e0.hok.fresh (MN _),fun y c h=>?_,fun p hp=>absurd (show p∈([]:List (Addr×Obj)) from hp) (by simp),e0.hok.kept hk,?_⟩
 ·exact name_of_addr x.apart (OK h1) (OK h2)
 ·have hy:scope.names.lookup y=some .cell\/scope.names.lookup y=some .free:=hy
  rcases hy with hy|hy
  ·exact s8 hy
  ·exact absurd rfl (S.nofree _ (OK hy))
 ·exact Nat.le_of_lt (x.above y c (OK h))
 ·have hi:i<vs.length:=by
   unfold start at h2
   by_cases hi:i<vs.length
   ·exact hi
   ·rw [NP (by simpa using hi)] at h2
    rw [Oy] at h2
    split at h2<;>cases h2
  have ha:vs[i]?=some v:=by
   unfold start at h2
   rw [Nh (by simpa using hi),Nv] at h2
   cases e:vs[i]? with
   |none=>rw [e] at h2;cases h2
   |some a=>rw [e] at h2;cases h2;rfl
  obtain ⟨u,hu,rv⟩:=r.get ha
  have hp:ps[i]?=some y:=by
   rw [<- S.pre,List.getElem?_take_of_lt (by omega)];exact h1
  have ndP:ps.Nodup:=by rw [<- S.pre];exact S.nd.sublist (List.take_sublist _ _)
  refine ⟨u,rv,?_⟩
  rcases S.par y (N1 hp) with k|k
  ·exact .inl ⟨k,qv ndP hp hu k⟩
  ·obtain ⟨c,e⟩:=s8 (n:=s.heap.objs.size+1) k
   refine .inr ⟨.inl k,c,e,?_⟩
   have q:=x.cell y c e
   rw [qx ndP hp hu (by show scope.names.lookup y≠_;rw [k];decide)] at q
   exact q
 ·exact e0.hok.fresh (Nat.le_of_lt (x.above y c (OK h)))
 ·unfold start
  show _=N.length
  rw [NG,MQ,List.length_replicate]
  omega
theorem JH {CX:mR}{P:Na}{w:Nd}{K:MF}{mg:Str->Option MG}{base:Heap}{k:Nat}{f:Addr}{name qual:Str}{params:Arguments}{body:List Stmt}{scope:Scope}{dV kV doc pm cdv ct oc:MG}{an od:Option Addr}
 {osl:Array (Option MG)}{N ps:List Str}{sp:Sp} (lk:K.lookup f=some ⟨oc,od,.func (PySem.W.fnOf name qual params body scope dV kV doc pm an cdv ct),osl⟩) (hcd:PySem.W.codeIn K cdv qual=true) (S:f6 N ps scope)
 (len:∀vs H Q E,sp vs H Q E->vs.length=ps.length)
 (hbody:∀(A:NL) (outer:List Env) (s:MI) (H:Hp) (vs:List V) (Q:VK) (E:XK),bu k (A.deeper (envOfC qual scope s.heap.objs.size f cdv))->sp vs H Q E->
  ∃t,lU (eA CX P w K mg base N qual scope f cdv A outer s H E) body t/\t {nx:=fun _ H'=>Q .non H',rt:=Q} (start N vs) H) :
 fB P w K mg base CX (k+1) f (PySem.W.fnOf name qual params body scope dV kV doc pm an cdv ct) ps sp:=by
 refine ⟨len,fun A outer s H args us vs Q E hr e0 hb r hsp=>?_⟩
 have hl:=len _ _ _ _ hsp
 have KX:K.In s.heap:=e0.mod.kin.keeps fun b o e=>(e0.bs b o e).1
 have lim:s.heap.NoLimit:=e0.mod.nolimit.keeps fun b o e=>(e0.bs b o e).1
 have hkind:∀y∈ps.zip us,scope.names.lookup y.1=some .local\/(scope.names.lookup y.1=some .cell/\((cellsFrom (s.heap.objs.size+1) scope.names []).lookup y.1).isSome=true):=fun ⟨n,v⟩ hy=>by
  rcases S.par n (List.of_mem_zip hy).1 with q|q
  ·exact .inl q
  ·exact .inr ⟨q,PySem.W.cellsFrom_some _ _ _ (.inl q)⟩
 refine codeAny_call_function hr.depth (KX _ _ lk) rfl S.co S.gen rfl (PySem.W.codeRec_of KX hcd) (hb _ _ _ _ ?_)
 refine wpAny_newFunctionEnv_cells S.kind hkind fun env he s1 x=>?_
 subst he
 refine ⟨lim.keeps x.toInCall.keep,codeAny_func ?_⟩
 obtain ⟨t,ht,hq⟩:=hbody A outer s H vs Q E (hr.deeper _) hsp
 have I:Inv (eA CX P w K mg base N qual scope f cdv A outer s H E) [] (start N vs) H s1:=yA S hr.hd e0 hl r x
 refine wpAny_mono (ht [] s1 (start N vs) H _ I hq) (fun fl s' hs=>?_) fun e s' hs=>hs
 have fin:∀{σ':St}{H':Hp}{v:V}{u:MG},Inv (eA CX P w K mg base N qual scope f cdv A outer s H E) [] σ' H' s'->RelV v u->Q v H'->CE outer P w H s Q u s':=
  fun {σ' H' v u} J rv q=>⟨v,H',J.os,J.bare,J.base,J.hok,rv,q⟩
 cases fl with
 | ret u =>
   obtain ⟨v,σ',H',J,rv,q⟩:=hs
   exact fin J rv q
 | next =>
   obtain ⟨σ',H',J,q⟩:=hs
   exact fin (v:=V.non) (u:=Value.none) J rfl q
 | brk =>
   obtain ⟨_,_,_,q⟩:=hs
   exact False.elim q
 | cont =>
   obtain ⟨_,_,_,q⟩:=hs
   exact False.elim q
end L2
namespace L2
open PySem PySem.Spec PyProof.Rows
section
variable {X:Cx}{x:Str}{p pos:Pos}{e:Expr}{es:List Expr}{t:TA}{id T:String}{r:List V->Hp->VK->Prop}
noncomputable def Ko (r:List V->Hp->VK->Prop)(t:TA):TE:=fun σ H Q=>t σ H fun vs H1=>r vs H1 Q
theorem se (hc:cD X (.builtin id) r)(hg:Gl X x)(hm:X.mg x=none)(hv:bootBuiltins x=some (.builtin id))(ha:PA X (e::es) t)(hn:x≠"__name__":=by decide)(hdb:(x==("__debug__":Str))=false:=by decide)
 (he:starEach (e::es) X.env=(false,eval e X.env)::starEach es X.env:=by rfl) (hpl:(backTo pos (starEach es X.env)).any (·.1)=false:=by rfl):PE X (.Call (.Name x p) (e::es) [] pos) (Ko r t):=by
 intro pins s σ H Q I h
 refine wpAny_Call_Name_kw (fD I hg hm hv ?_ hn hdb)
 exact PyProof.Rows.callWith_builtin1 (aN (ha pos pins s σ H _ I h) fun us s1 ⟨vs,H1,I1,r1,q1⟩=>hc pins s1 σ H1 vs us Q I1 r1 q1) he hpl
theorem xP (hc:cD X (.type T) r)(hg:Gl X x)(hm:X.mg x=none)(hv:bootBuiltins x=some (.type T))(ha:PA X (e::es) t)(hn:x≠"__name__":=by decide)(hdb:(x==("__debug__":Str))=false:=by decide)
 (he:starEach (e::es) X.env=(false,eval e X.env)::starEach es X.env:=by rfl) (hpl:(backTo pos (starEach es X.env)).any (·.1)=false:=by rfl):PE X (.Call (.Name x p) (e::es) [] pos) (Ko r t):=by
 intro pins s σ H Q I h
 refine wpAny_Call_Name_kw (fD I hg hm hv ?_ hn hdb)
 exact NN (aN (ha pos pins s σ H _ I h) fun us s1 ⟨vs,H1,I1,r1,q1⟩=>hc pins s1 σ H1 vs us Q I1 r1 q1) he hpl
end
end L2
namespace HT
open PySem PyProof.Rows
section
variable {prog:Na}{w:Nd}{A:NL}{E:MG->MI->Prop}{s:MI}
theorem Fd {t b:Addr}{vs ws:List MG}{Q:MG->MI->Prop}(ht:IsTup s.heap t vs.toArray)(hb:IsTup s.heap b ws.toArray)(hv:vs≠[])
 (h1:ws=[]->Q (.ref t) s) (h2:ws≠[]->Q (.ref s.heap.objs.size) {s with heap:=s.heap.push {cls:=.type "tuple",data:=.seq (vs++ws).toArray}})
 (hsz:vs.length+ws.length<=sizeLine):wpAny (model prog w) A (binaryOp .Add (.ref t) (.ref b)) Q E s:=by
 obtain ⟨⟨cls,dd,data,sl⟩,ho,hc,n,hd⟩:=id ht
 obtain ⟨⟨cls2,dd2,data2,sl2⟩,ho2,hc2,n2,hd2⟩:=id hb
 simp only at hc hd hc2 hd2
 subst hc hd hc2 hd2
 have e:vs.toArray++ws.toArray=(vs++ws).toArray:=by simp
 by_cases hw:ws=[]
 ·exact concat_meets ⟨_,ho,rfl⟩ ⟨_,ho2,rfl⟩ noFill_tuple_add seq_tuple_add PySem.F.slot_tuple_add PySem.F.entry_tuple_add (PySem.F.args_tuple_add_2 _ _)
   (tuple_addW1 t b vs.toArray ws.toArray n n2 dd dd2 sl sl2 (by simpa using hv) (by simp [hw])) ⟨ho,ho2,h1 hw⟩
 ·refine concat_meets ⟨_,ho,rfl⟩ ⟨_,ho2,rfl⟩ noFill_tuple_add seq_tuple_add PySem.F.slot_tuple_add PySem.F.entry_tuple_add (PySem.F.args_tuple_add_2 _ _)
   (tuple_addW2 t b vs.toArray ws.toArray n n2 dd dd2 sl sl2 (by simpa using hv) (by simpa using hw) (by rw [MP,MP];exact hsz)) ⟨ho,ho2,?_⟩
  rw [e]
  exact h2 hw
noncomputable def aJ (n d:Nat):Option Int->Nat
 |none=>d
 |some v=>if v<0 then (v+(n:Int)).toNat else min v.toNat n
theorem F9 (n d:Nat)(hd:d<=n)(o:Option Int):aJ n d o<=n:=by
 cases o with
 |none=>exact hd
 | some v =>
   show (if v<0 then (v+(n:Int)).toNat else min v.toNat n)<=n
   by_cases hv:v<0
   ·rw [if_pos hv];omega
   ·rw [if_neg hv];exact Nat.min_le_right _ _
theorem uY (v:Int)(n d:Nat):(if v<0 then max (v+(n:Int)) 0 else min v (n:Int))=((aJ n d (some v):Nat):Int):=by
 show (if v<0 then max (v+(n:Int)) 0 else min v (n:Int))=(((if v<0 then (v+(n:Int)).toNat else min v.toNat n):Nat):Int)
 by_cases hv:v<0
 ·simp only [if_pos hv];omega
 ·simp only [if_neg hv];omega
theorem wu (lo hi:Option Int)(n:Nat):Builtin.Slice.sliceAdjust lo hi 1 (n:Int)=(((aJ n 0 lo:Nat):Int),((aJ n n hi:Nat):Int)):=by
 have h1:¬ ((1:Int)<0):=by omega
 unfold Builtin.Slice.sliceAdjust
 simp only [h1,if_false]
 refine Prod.ext ?_ ?_
 ·cases lo with
  |none=>rfl
  |some v=>exact uY v n 0
 ·cases hi with
  |none=>rfl
  |some v=>exact uY v n n
theorem vt (i j:Nat):Builtin.Slice.slicePlaces (i:Int) (j:Int) 1=j-i:=by
 unfold Builtin.Slice.slicePlaces
 have h1:(1:Int) > 0:=by omega
 simp only [h1,if_true,Int.ediv_one]
 split<;>omega
theorem nO {v:MG}{o:Option Int}{Q:Option Int->MI->Prop}(p:IsPart v o)(h:Q o s):wpAny (model prog w) A (Builtin.Slice.slicePartIndex v) Q E s:=by
 cases p with
 |none=>exact slicePart_none h
 |int i t=>exact slicePart_int h
theorem je {sl:Addr}{vl vu:MG}{lo hi:Option Int}{n:Nat}{Q:Int×Int×Nat->MI->Prop}(hs:s.heap.IsSliceOf sl vl vu .none)(pl:IsPart vl lo)(pu:IsPart vu hi)
 (h:Q (((aJ n 0 lo:Nat):Int),1,aJ n n hi-aJ n 0 lo) s):wpAny (model prog w) A (Builtin.Slice.sliceApplied (.ref sl) (pure (n:Int))) Q E s:=by
 obtain ⟨os,hos,hcs,hds⟩:=id hs
 unfold Builtin.Slice.sliceApplied Builtin.Slice.sliceFields
 refine tqa (tqa (tqf hos hds (x:=vl) rfl (tqa (tqf hos hds (x:=vu) rfl (tqa (tqf hos hds (x:=.none) rfl (tqb ?_)))))))
 refine tqa (slicePart_none ?_)
 show wpAny _ _ (if ((1:Int)==0)=true then _ else _) _ _ s
 rw [if_neg (by decide)]
 refine tqa (nO pl (tqa (nO pu (tqa (tqb ?_)))))
 show wpAny _ _ (match Builtin.Slice.sliceAdjust lo hi 1 (n:Int) with|(lo,hi)=>pure (lo,(1:Int),Builtin.Slice.slicePlaces lo hi 1)) _ _ s
 rw [wu lo hi n]
 show wpAny _ _ (pure (((aJ n 0 lo:Nat):Int),(1:Int),Builtin.Slice.slicePlaces ((aJ n 0 lo:Nat):Int) ((aJ n n hi:Nat):Int) 1)) _ _ s
 rw [vt]
 exact tqb h
theorem Aw (xs:Array MG)(i k:Nat):((List.range k).filterMap fun (m:Nat)=>xs[((i:Int)+(m:Int)*1).toNat]?).toArray=((xs.toList.drop i).take k).toArray:=by
 have e:(fun (m:Nat)=>xs[((i:Int)+(m:Int)*1).toNat]?)=fun m=>xs[i+m]?:=by
  funext m
  have:((i:Int)+(m:Int)*1).toNat=i+m:=by omega
  rw [this]
 rw [e]
 have:=pick_run xs i k
 rw [List.filterMap_map] at this
 have e2:((fun x=>xs[x]?)∘fun x=>i+x)=fun m=>xs[i+m]?:=rfl
 rw [e2] at this
 rw [this]
theorem mF {t sl:Addr}{items:Array MG}{vl vu:MG}{lo hi:Option Int}{Q:MG->MI->Prop}(ht:IsTup s.heap t items)(hs:s.heap.IsSliceOf sl vl vu .none)(pl:IsPart vl lo)(pu:IsPart vu hi)
 (hw:¬ (aJ items.size 0 lo=0/\aJ items.size items.size hi=items.size))
 (h:Q (.ref s.heap.objs.size) {s with heap:=s.heap.push {cls:=.type "tuple",data:=.seq ((items.toList.drop (aJ items.size 0 lo)).take (aJ items.size items.size hi-aJ items.size 0 lo)).toArray}})
 (hsz:items.size<=sizeLine):wpAny (model prog w) A (getItem (.ref t) (.ref sl)) Q E s:=by
 have htake:sizeOk (.seq ((items.toList.drop (aJ items.size 0 lo)).take (aJ items.size items.size hi-aJ items.size 0 lo)).toArray):=by
  show ((items.toList.drop (aJ items.size 0 lo)).take (aJ items.size items.size hi-aJ items.size 0 lo)).toArray.size<=sizeLine
  rw [MP,N8,List.length_drop,Ot]
  omega
 have hj:aJ items.size items.size hi<=items.size:=F9 _ _ (MN _) hi
 obtain ⟨os,hos,hcs,hds⟩:=id hs
 have hTs:s.TypeIs (.ref sl) "slice":=⟨os,hos,hcs⟩
 unfold getItem
 try with_reducible refine tqo ?_
 first|refine tqa (tqb ?_)|skip
 refine tqa (wpAny_sequenceKey ht.typeIs (by decide) ?_)
 refine tqa (wpAny_callSpecial?_slot (name:=Str.ofString "__getitem__") ht.typeIs Nw
  (wpAny_call_entry Nw ht.typeIs entry_tuple_getitem ?_ (args_tuple_getitem _ _)))
 show wpAny _ _ (Builtin.Tuple.tupleItemsOf (.ref t) >>= _) _ _ s
 refine tqa (tupleItemsOf_ ht ?_)
 refine tqa (wpAny_typeOf hTs ?_)
 rw [if_pos (by decide)]
 refine tqa (je hs pl pu ?_)
 have hno:¬ ((((aJ items.size 0 lo:Nat):Int)==0&&(1:Int)==1&&(aJ items.size items.size hi-aJ items.size 0 lo)==items.size)=true):=by
  intro q
  rw [MM,MM] at q
  have q1:((aJ items.size 0 lo:Nat):Int)=0:=eq_of_beq q.1.1
  have q2:aJ items.size items.size hi-aJ items.size 0 lo=items.size:=eq_of_beq q.2
  exact hw ⟨by omega,by omega⟩
 show wpAny _ _ (if (((aJ items.size 0 lo:Nat):Int)==0&&(1:Int)==1&&(aJ items.size items.size hi-aJ items.size 0 lo)==items.size)=true then _ else _) _ _ s
 rw [if_neg hno,Aw]
 first
  |exact tqa (m:=Builtin.Tuple.tupleExact _) (wpAny_newObj_type (tqb ⟨_,rfl,tqb h⟩) htake)
  |exact tqa (m:=Builtin.Tuple.tupleExact _) (wpAny_newObj_type (tqa (tqb (tqb ⟨_,rfl,tqb h⟩))) htake)
  |exact tqa (tqa (m:=Builtin.Tuple.tupleExact _) (wpAny_newObj_type (tqb (tqb ⟨_,rfl,tqb h⟩)) htake))
  |exact tqa (tqa (m:=Builtin.Tuple.tupleExact _) (wpAny_newObj_type (tqb ⟨_,rfl,tqb h⟩) htake))
end
end HT
namespace L2
open PySem PySem.Spec PyProof.Rows
abbrev TO:=St->Hp->(Option Int->Hp->Prop)->Prop
noncomputable def PO (X:Cx)(e:Option Expr)(t:TO):Prop:=
 ∀(pins:List (Addr×Obj)) (s:MI) (σ:St) (H:Hp) (Q:Option Int->Hp->Prop),Inv X pins σ H s->t σ H Q->
  wpAny (model X.prog X.w) X.A (evalPart e X.env) (fun u s'=>∃o H',Inv X pins σ H' s'/\IsPart u o/\Q o H') X.xe s
noncomputable def Dy:TO:=fun _ H Q=>Q none H
noncomputable def I0 (t:TE):TO:=fun σ H Q=>t σ H fun x H1=>∃i,x=.int i/\Q (some i) H1
section
variable {X:Cx}{e:Expr}{te:TE}{lo hi:Option Expr}{tl th:TO}{pos p2:Pos}
theorem Eh:PO X none Dy:=by
 intro pins s σ H Q I h
 rw [evalPart_none]
 exact tqb ⟨none,H,I,.none,h⟩
theorem Eg (h:PE X e te):PO X (some e) (I0 te):=by
 intro pins s σ H Q I hw
 rw [evalPart_some]
 refine aN (h pins s σ H _ I hw) fun u s1 ⟨x,H1,I1,r1,q1⟩=>?_
 obtain ⟨i,rfl,q⟩:=q1
 obtain ⟨t,rfl⟩:=r1
 exact ⟨some i,H1,I1,.int i t,q⟩
noncomputable def kT (X:Cx)(r:V->Option Int->Option Int->Hp->VK->Prop):Prop:=
 ∀(pins:List (Addr×Obj)) (s:MI) (σ:St) (H:Hp) (x:V) (v vl vu:MG) (lo hi:Option Int) (sl:Addr) (Q:VK),Inv X pins σ H s->RelV x v->s.heap.IsSliceOf sl vl vu .none->IsPart vl lo->IsPart vu hi->r x lo hi H Q->
  ∃T id,typeLookup (.type T) "__getitem__"=pure (some (.builtin id))/\s.TypeIs v T/\wpAny (model X.prog X.w) X.A (getItem v (.ref sl)) (EP X pins σ Q) X.xe s
theorem kT.or {r r':V->Option Int->Option Int->Hp->VK->Prop}(h:kT X r)(h':kT X r'):kT X (fun x lo hi H Q=>r x lo hi H Q\/r' x lo hi H Q):=by
 intro pins s σ H x v vl vu lo hi sl Q I rx hs pl pu q
 rcases q with q|q
 ·exact h pins s σ H x v vl vu lo hi sl Q I rx hs pl pu q
 ·exact h' pins s σ H x v vl vu lo hi sl Q I rx hs pl pu q
noncomputable def tSl (r:V->Option Int->Option Int->Hp->VK->Prop)(te:TE)(tl th:TO):TE:=fun σ H Q=>te σ H fun x H1=>tl σ H1 fun l H2=>th σ H2 fun u H3=>r x l u H3 Q
theorem r9 {r:V->Option Int->Option Int->Hp->VK->Prop}(hr:kT X r)(he:PE X e te)(hl:PO X lo tl)(hu:PO X hi th):PE X (.Subscript e (.Slice lo hi none p2) pos) (tSl r te tl th):=by
 intro pins s σ H Q I h
 refine Subscript_ (aN (he pins s σ H _ I h) fun v s1 ⟨x,H1,I1,r1,q1⟩=>?_)
 refine wpAny_Slice (aN (hl pins s1 σ H1 _ I1 q1) fun vl s2 ⟨l,H2,I2,pl,q2⟩=>aN (hu pins s2 σ H2 _ I2 q2) fun vu s3 ⟨u,H3,I3,pu,q3⟩=>?_)
 rw [evalPart_none]
 refine tqb ?_
 have I4:Inv X pins σ H3 {s3 with heap:=s3.heap.push {cls:=.type "slice",data:=.fields #[vl,vu,.none]}}:=I3.kept (t':=s3.toks) fun b ob q=>MJ _ q
 obtain ⟨T,id,hT,ht,hg⟩:=hr pins {s3 with heap:=s3.heap.push {cls:=.type "slice",data:=.fields #[vl,vu,.none]}} σ H3 x v vl vu l u s3.heap.objs.size Q I4 r1 (Heap.IsSliceOf.new ..) pl pu q3
 show wpAny (model X.prog X.w) X.A (subscriptTail e (.Slice lo hi none p2) v (.ref s3.heap.objs.size)) (EP X pins σ Q) X.xe {s3 with heap:=s3.heap.push {cls:=.type "slice",data:=.fields #[vl,vu,.none]}}
 exact tail_any (ops:=[.ref s3.heap.objs.size,v]) ht hT hg (by with_unfolding_all rfl)
noncomputable def lP (xs:List V)(lo hi:Option Int):List V:=(xs.drop (HT.aJ xs.length 0 lo)).take (HT.aJ xs.length xs.length hi-HT.aJ xs.length 0 lo)
theorem mL (xs:List V)(lo hi:Option Int):(lP xs lo hi).length<=xs.length:=by
 unfold lP
 rw [N8,List.length_drop]
 omega
noncomputable def Gi (K:MF):V->Option Int->Option Int->Hp->VK->Prop:=fun x lo hi H Q=>∃a xs,x=.ref a/\di K H a xs/\
 ¬ (HT.aJ xs.length 0 lo=0/\HT.aJ xs.length xs.length hi=xs.length)/\∀p,H p=none->Q (.ref p) (upd H p (.tup (lP xs lo hi)))
theorem FU:kT X (Gi X.K):=by
 intro pins s σ H x v vl vu lo hi sl Q I rx hs pl pu h
 obtain ⟨a,xs,rfl,hx,hw,q⟩:=h
 cases rx
 obtain ⟨its,r,ht,hz⟩:=I.tuple hx
 have hlen:its.toArray.size=xs.length:=by rw [MP];exact r.length.symm
 refine ⟨"tuple",_,Nw.lookup,ht.typeIs,?_⟩
 refine HT.mF ht hs pl pu (by rw [hlen];exact hw) ?_ (by rw [hlen];exact hz)
 rw [hlen]
 refine ⟨.ref s.heap.objs.size,_,I.laid (t':=s.toks) (o:=.tup (lP xs lo hi)) (fun b ob q=>MJ _ q) (MN _) ?_,rfl,q _ (I.hok.fresh (MN _))⟩
 exact ⟨MR (mL xs lo hi) hz,_,(r.drop (HT.aJ xs.length 0 lo)).take (HT.aJ xs.length xs.length hi-HT.aJ xs.length 0 lo),IsTup.new _ _⟩
noncomputable def Jj (K:MF):R2:=fun x y H Q=>∃a b xs ys,x=.ref a/\y=.ref b/\di K H a xs/\di K H b ys/\xs≠[]/\xs.length+ys.length<=sizeLine/\
 (ys=[]->Q (.ref a) H)/\(ys≠[]->∀p,H p=none->Q (.ref p) (upd H p (.tup (xs++ys))))
theorem Vals.nil_iff {xs:List V}{us:List MG}(r:Vals xs us):us=[]↔xs=[]:=by
 cases r with
 |nil=>simp
 |cons _ _=>simp
theorem Eu:bz X (binaryOp .Add) (Jj X.K):=by
 intro pins s σ H x y v u Q I rx ry h
 obtain ⟨a,b,xs,ys,rfl,rfl,ha,hb,hx,hz,q1,q2⟩:=h
 cases rx
 cases ry
 obtain ⟨its,r1,p1,_⟩:=I.tuple ha
 obtain ⟨its2,r2,p2,_⟩:=I.tuple hb
 refine HT.Fd p1 p2 (fun z=>hx (r1.nil_iff.mp z)) (fun z=>⟨.ref a,H,I,rfl,q1 (r2.nil_iff.mp z)⟩) (fun z=>?_) (by rw [<- r1.length,<- r2.length];exact hz)
 refine ⟨.ref s.heap.objs.size,_,I.laid (t':=s.toks) (o:=.tup (xs++ys)) (fun b ob q=>MJ _ q) (MN _) ?_,rfl,q2 (fun w=>z (r2.nil_iff.mpr w)) _ (I.hok.fresh (MN _))⟩
 exact ⟨by rw [NG];exact hz,_,r1.append r2,IsTup.new _ _⟩
end
end L2
namespace L2
open PySem PySem.Spec PyProof.Rows
noncomputable def bI (n:Nat)(i:Int):Option Nat:=if 0<=i then (if i<n then some i.toNat else none) else if -(n:Int)<=i then some (i+n).toNat else none
noncomputable def qz {α:Type}(xs:List α)(i:Int):Option α:=(bI xs.length i).bind fun j=>xs[j]?
theorem uQ {n:Nat}{i:Int}{j:Nat}(h:bI n i=some j):seqIndex? i n=some j/\j<n/\-(n:Int)<=i/\i<n:=by
 unfold bI at h
 by_cases h0:0<=i
 ·rw [if_pos h0] at h
  by_cases h1:i<n
  ·rw [if_pos h1] at h
   have e:i.toNat=j:=MO h
   exact ⟨by rw [seqIndex_of h0 h1,e],by omega,by omega,h1⟩
  ·rw [if_neg h1] at h;cases h
 ·rw [if_neg h0] at h
  by_cases h1:-(n:Int)<=i
  ·rw [if_pos h1] at h
   have e:(i+n).toNat=j:=MO h
   exact ⟨by rw [seqIndex_neg (by omega) h1,e],by omega,h1,by omega⟩
  ·rw [if_neg h1] at h;cases h
theorem pD {α:Type}{xs:List α}{i:Int}{v:α}(h:qz xs i=some v):∃j,seqIndex? i xs.length=some j/\xs[j]?=some v/\j<xs.length/\-(xs.length:Int)<=i/\i<xs.length:=by
 unfold qz at h
 cases e:bI xs.length i with
 |none=>rw [e] at h;cases h
 | some j =>
   rw [e] at h
   obtain ⟨h1,h2,h3,h4⟩:=uQ e
   exact ⟨j,h1,h,h2,h3,h4⟩
noncomputable def kg (b:Expr):Prop:=∀o i,subscripted b false o i=operate [o,i] (getItem o i)
noncomputable def ki (X:Cx)(r:R2):Prop:=
 ∀(value slice:Expr) (pins:List (Addr×Obj)) (s:MI) (σ:St) (H:Hp) (x y:V) (v u:MG) (Q:VK),Inv X pins σ H s->RelV x v->RelV y u->r x y H Q->
  subscripted slice false v u=operate [v,u] (getItem v u)->wpAny (model X.prog X.w) X.A (subscriptTail value slice v u) (EP X pins σ Q) X.xe s
noncomputable def KR (X:Cx)(id:String)(r:V->List V->Hp->VK->Prop):Prop:=
 ∀(pins:List (Addr×Obj)) (s:MI) (σ:St) (H:Hp) (x:V) (xs:List V) (v:MG) (us:List MG) (Q:VK),Inv X pins σ H s->RelV x v->Vals xs us->r x xs H Q->
  wpAny (model X.prog X.w) X.A (call (.builtin id) (v::us)) (EP X pins σ Q) X.xe s
section
variable {X:Cx}{a b:Expr}{ta tb:TE}{pos:Pos}
theorem ki.or {r r':R2}(h:ki X r)(h':ki X r'):ki X (fun x y H Q=>r x y H Q\/r' x y H Q):=by
 intro value slice pins s σ H x y v u Q I rx ry q hs
 rcases q with q|q
 ·exact h value slice pins s σ H x y v u Q I rx ry q hs
 ·exact h' value slice pins s σ H x y v u Q I rx ry q hs
theorem B8 {r:R2}(hr:ki X r)(ha:PE X a ta)(hb:PE X b tb)(hs:kg b):PE X (.Subscript a b pos) (xm r ta tb):=by
 intro pins s σ H Q I h
 exact Subscript_ (Bw ha hb I h fun v u s2 x y H2 I2 rx ry q=>hr a b pins s2 σ H2 x y v u Q I2 rx ry q (hs _ _))
noncomputable def Gp (K:MF):R2:=fun x y H Q=>∃p xs i v,x=.ref p/\y=.int i/\bV K H p xs/\qz xs i=some v/\Q v H
noncomputable def Gm (K:MF):R2:=fun x y H Q=>∃p xs i v,x=.ref p/\y=.int i/\di K H p xs/\qz xs i=some v/\Q v H
noncomputable def Gn:R2:=fun x y H Q=>∃z i c,x=.str z/\y=.int i/\z.length<=sizeLine/\qz z.cps.toList i=some c/\Q (.str ⟨#[c]⟩) H
theorem EF:ki X (Gp X.K):=by
 intro value slice pins s σ H x y v u Q I rx ry h hs
 obtain ⟨p,xs,i,z,rfl,rfl,hq,he,q⟩:=h
 cases rx
 obtain ⟨t,rfl⟩:=ry
 obtain ⟨its,r,pl,hz⟩:=I.list hq
 obtain ⟨j,h1,h2,h3,h4,h5⟩:=pD he
 obtain ⟨w,ew,rw'⟩:=r.get h2
 have hl:=r.length
 have hn:=jo
 have fin:EP X pins σ Q w s:=⟨z,H,I,rw',q⟩
 by_cases h0:0<=i
 ·have hj:i.toNat=j:=by
   rw [seqIndex_of h0 h5] at h1
   exact MO h1
  exact item_listR pl.isList h0 (by omega) (by rw [hj];simpa using ew) fin hs
 ·have hj:(i+(its.toArray.size:Int)).toNat=j:=by
   rw [seqIndex_neg (by omega) h4] at h1
   rw [MP,<- hl]
   exact MO h1
  exact subscriptTail_builtinR (x:=w) pl.isList.typeIs slot_list_getitem.lookup
   (wpAny_getItem_list_neg (Q:=fun r s'=>r=w/\EP X pins σ Q r s') pl.isList (by omega) (by rw [MP]<;>omega) (by omega) (by rw [hj];simpa using ew) ⟨rfl,fin⟩) hs
theorem Hz:ki X (Gm X.K):=by
 intro value slice pins s σ H x y v u Q I rx ry h hs
 obtain ⟨p,xs,i,z,rfl,rfl,hq,he,q⟩:=h
 cases rx
 obtain ⟨t,rfl⟩:=ry
 obtain ⟨its,r,pl,hz⟩:=I.tuple hq
 obtain ⟨j,h1,h2,h3,h4,h5⟩:=pD he
 obtain ⟨w,ew,rw'⟩:=r.get h2
 have hl:=r.length
 have hn:=jo
 have fin:EP X pins σ Q w s:=⟨z,H,I,rw',q⟩
 exact subscriptTail_builtinR (x:=w) pl.typeIs slot_tuple_getitem.lookup
  (getItem_tuple (j:=j) (Q:=fun r s'=>r=w/\EP X pins σ Q r s') pl (by omega) (by omega) (by rw [MP,<- hl];exact h1) (by simpa using ew) ⟨rfl,fin⟩) hs
theorem HA:ki X Gn:=by
 intro value slice pins s σ H x y v u Q I rx ry h hs
 obtain ⟨z,i,c,rfl,rfl,hz,he,q⟩:=h
 obtain ⟨t,rfl⟩:=rx
 obtain ⟨t',rfl⟩:=ry
 obtain ⟨j,h1,h2,h3,h4,h5⟩:=pD he
 have hl:z.cps.toList.length=z.length:=by simp [Str.length]
 rw [hl] at h1 h4 h5
 have hn:=jo
 exact tail_any (typeIs_str s z t) slot_str_getitem.lookup (getItem_str (c:=c) (by
  have e1:decide (i < -(2^63:Int))=false:=decide_eq_false (by omega)
  have e2:decide (i≥2^63)=false:=decide_eq_false (by omega)
  rw [e1,e2,Bool.or_false]) (by rw [h1];simpa using h2) ⟨.str ⟨#[c]⟩,H,I.tok _,⟨_,rfl⟩,q⟩) hs
noncomputable def Gq (K:MF):R2:=fun x y H Q=>Gp K x y H Q\/Gm K x y H Q\/Gn x y H Q
theorem HB:ki X (Gq X.K):=EF.or (Hz.or HA)
theorem vL (its:List MG)(n j:Nat)(u:MG):Obj.mapSeq (·.setIfInBounds j u) {cls:=.type "list",data:=.seq its.toArray n}={cls:=.type "list",data:=.seq (its.set j u).toArray n}:=by
 simp [Obj.mapSeq]
theorem Inv.lst {pins:List (Addr×Obj)}{σ:St}{H:Hp}{s:MI}{p:Addr}{xs:List V}(I:Inv X pins σ H s)(h:H p=some (.lst xs)) :
 ∃(its:List MG) (n:Nat),Vals xs its/\s.heap.get? p=some {cls:=.type "list",data:=.seq its.toArray n}/\xs.length<=sizeLine:=by
 obtain ⟨z,its,n,r,e⟩:=I.hok p _ h
 exact ⟨its,n,r,e,z⟩
theorem Inv.lstUpd {pins:List (Addr×Obj)}{σ:St}{H:Hp}{s:MI}{p:Addr}{xs ys:List V}{its its':List MG}{n n':Nat}{f:Obj->Obj}(I:Inv X pins σ H s)(h:H p=some (.lst xs))
 (ho:s.heap.get? p=some {cls:=.type "list",data:=.seq its.toArray n}) (hf:f {cls:=.type "list",data:=.seq its.toArray n}={cls:=.type "list",data:=.seq its'.toArray n'}) (r:Vals ys its') (hz:ys.length<=sizeLine) (t:Nat) :
 Inv X pins σ (upd H p (.lst ys)) {s with heap:=s.heap.update p f,toks:=t}:=by
 have e:(s.heap.update p f).get? p=some {cls:=.type "list",data:=.seq its'.toArray n'}:=by
  rw [N9 f ho (by rw [hf]<;>rfl),hf]
 refine I.write (x:=p) (e:=p) (by rw [h];trivial) (.inl rfl) (fun b u hb q=>(NO _ _ (NV hb)).trans q) ⟨_,e⟩ ?_
 exact ⟨hz,its',n',r,e⟩
noncomputable def B6:V->V->V->Hp->(Hp->Prop)->Prop:=fun o i v H Q=>∃p xs k j,o=.ref p/\i=.int k/\H p=some (.lst xs)/\bI xs.length k=some j/\Q (upd H p (.lst (xs.set j v)))
theorem set_list:IG X B6:=by
 intro pins s σ H o i v ov iv u Q I ro ri rv h
 obtain ⟨p,xs,k,j,rfl,rfl,hp,hj,q⟩:=h
 cases ro
 obtain ⟨t,rfl⟩:=ri
 obtain ⟨its,n,r,ho,hz⟩:=I.lst hp
 obtain ⟨h1,h2,h3,h4⟩:=uQ hj
 have hl:=r.length
 have hn:=jo
 have I':Inv X pins σ (upd H p (.lst (xs.set j v))) {s with heap:=s.heap.update p (Obj.mapSeq (·.setIfInBounds j u))}:=
  I.lstUpd hp ho (vL its n j u) (r.set rv j) (by rw [List.length_set];exact hz) s.toks
 by_cases h0:0<=k
 ·have hk:k.toNat=j:=by
   rw [seqIndex_of h0 h4] at h1
   exact MO h1
  exact PySem.W.ki_setAt ho h0 (by omega) (by rw [MP,<- hl];exact h4) (by rw [hk];exact ⟨_,I',q⟩)
 ·have hk:(k+(its.toArray.size:Int)).toNat=j:=by
   rw [seqIndex_neg (by omega) h3] at h1
   rw [MP,<- hl]
   exact MO h1
  exact PySem.W.ki_setBack ho (by omega) (by rw [MP,<- hl];exact h3) (by omega) (by rw [hk];exact ⟨_,I',q⟩)
theorem rQ (lo hi:Option Int)(n:Nat):(sliceBounds lo hi none n).1=((HT.aJ n 0 lo:Nat):Int)/\(sliceBounds lo hi none n).2.1=((HT.aJ n n hi:Nat):Int)/\(sliceBounds lo hi none n).2.2=1:=by
 refine ⟨?_,?_,rfl⟩
 ·cases lo with
  |none=>simp [sliceBounds,HT.aJ]
  | some i =>
    simp only [sliceBounds,HT.aJ,Option.getD_none,show (1:Int) > 0 by decide,if_true]
    by_cases h:i<0
    ·simp only [h,if_true]<;>omega
    ·simp only [h,if_false]<;>omega
 ·cases hi with
  |none=>simp [sliceBounds,HT.aJ]
  | some i =>
    simp only [sliceBounds,HT.aJ,Option.getD_none,show (1:Int) > 0 by decide,if_true]
    by_cases h:i<0
    ·simp only [h,if_true]<;>omega
    ·simp only [h,if_false]<;>omega
theorem qF (its:List MG)(lo hi:Option Int):slicePick its.toArray lo hi none=((its.drop (HT.aJ its.length 0 lo)).take (HT.aJ its.length its.length hi-HT.aJ its.length 0 lo)).toArray:=by
 obtain ⟨h1,h2,h3⟩:=rQ lo hi its.toArray.size
 unfold slicePick
 rw [h1,h2,h3]
 simp only [sliceRange_one,pick_run,MP]<;>rfl
noncomputable def Gj (K:MF):V->Option Int->Option Int->Hp->VK->Prop:=fun x lo hi H Q=>∃a xs,x=.ref a/\bV K H a xs/\∀p,H p=none->Q (.ref p) (upd H p (.lst (lP xs lo hi)))
theorem DR:kT X (Gj X.K):=by
 intro pins s σ H x v vl vu lo hi sl Q I rx hs pl pu h
 obtain ⟨a,xs,rfl,hx,q⟩:=h
 cases rx
 obtain ⟨its,r,ht,hz⟩:=I.list hx
 have hlen:=r.length
 refine ⟨"list",_,slot_list_getitem.lookup,ht.isList.typeIs,?_⟩
 refine wpAny_getItem_list_slice ht.isList hs pl pu .none (by simp) ?_ (by rw [MP]<;>omega)
 rw [qF,<- hlen]
 refine ⟨.ref s.heap.objs.size,_,I.laid (t':=s.toks) (o:=.lst (lP xs lo hi)) (fun b ob q=>MJ _ q) (MN _) ?_,rfl,q _ (I.hok.fresh (MN _))⟩
 exact ⟨MR (mL xs lo hi) hz,_,0,(r.drop (HT.aJ xs.length 0 lo)).take (HT.aJ xs.length xs.length hi-HT.aJ xs.length 0 lo),M8 _ rfl⟩
theorem tf:cD X (.builtin "len") (fun xs H Q=>∃p ys,xs=[.ref p]/\(bV X.K H p ys\/di X.K H p ys)/\Q (.int ys.length) H):=by
 intro pins s σ H xs us Q I r h
 obtain ⟨p,ys,rfl,hq,q⟩:=h
 obtain ⟨u,rfl,rx⟩:=vals1 r
 cases rx
 have hn:=jo
 rcases hq with hq|hq
 ·obtain ⟨its,r',pl,hz⟩:=I.list hq
  have hlen:=r'.length
  exact Calls.call_len_list pl.isList (by simp only [MP]<;>omega) ⟨.int ys.length,H,I.tok _,⟨s.toks+1,by rw [MP,hlen]⟩,q⟩
 ·obtain ⟨its,r',pl,hz⟩:=I.tuple hq
  have hlen:=r'.length
  exact len_tuple pl (by simp only [MP]<;>omega) ⟨.int ys.length,H,I.tok _,⟨s.toks+1,by rw [MP,hlen]⟩,q⟩
theorem td:cD X (.builtin "len") (fun xs H Q=>∃z,xs=[.str z]/\z.length<=sizeLine/\Q (.int z.length) H):=by
 intro pins s σ H xs us Q I r h
 obtain ⟨z,rfl,hz,q⟩:=h
 obtain ⟨u,rfl,t,rfl⟩:=vals1 r
 have hn:=jo
 exact len_str (by omega) ⟨.int z.length,H,I.tok _,⟨_,rfl⟩,q⟩
theorem cD.or {f:MG}{r r':List V->Hp->VK->Prop}(h:cD X f r)(h':cD X f r'):cD X f (fun xs H Q=>r xs H Q\/r' xs H Q):=by
 intro pins s σ H xs us Q I rs q
 rcases q with q|q
 ·exact h pins s σ H xs us Q I rs q
 ·exact h' pins s σ H xs us Q I rs q
theorem s9:cD X (.type "list") (fun xs H Q=>∃p ys,xs=[.ref p]/\(bV X.K H p ys\/di X.K H p ys)/\∀l,H l=none->Q (.ref l) (upd H l (.lst ys))):=by
 intro pins s σ H xs us Q I r h
 obtain ⟨p,ys,rfl,hq,q⟩:=h
 obtain ⟨u,rfl,rx⟩:=vals1 r
 cases rx
 have fin:∀(its:List MG),Vals ys its->ys.length<=sizeLine->∀(h':Heap) (c':Nat),(∀b o',s.heap.get? b=some o'->h'.get? b=some o')->
  h'.get? s.heap.objs.size=some {cls:=.type "list",dict:=none,data:=.seq its.toArray c',slots:=#[]}->EP X pins σ Q (.ref s.heap.objs.size) {s with heap:=h'}:=fun its r' hz h' c' kp e=>
  ⟨.ref s.heap.objs.size,_,I.laid (t':=s.toks) kp (MN _) (show b9 X.prog X.w _ h' _ (.lst ys) from ⟨hz,its,c',r',e⟩),rfl,q _ (I.hok.fresh (MN _))⟩
 rcases hq with hq|hq
 ·obtain ⟨its,r',pl,hz⟩:=I.list hq
  have hlen:=r'.length
  obtain ⟨o,ho,hc,n,hd⟩:=pl.isList
  exact call_list_seq p (.inl rfl) ho hc hd (fun h' c' kp e=>fin its r' hz h' c' kp e) (by simp only [MP]<;>omega)
 ·obtain ⟨its,r',pl,hz⟩:=I.tuple hq
  have hlen:=r'.length
  obtain ⟨o,ho,hc,n,hd⟩:=pl
  exact call_list_seq p (.inr rfl) ho hc hd (fun h' c' kp e=>fin its r' hz h' c' kp e) (by simp only [MP]<;>omega)
theorem qI:cD X (.type "tuple") (fun xs H Q=>∃p ys,xs=[.ref p]/\((bV X.K H p ys/\∀l,H l=none->Q (.ref l) (upd H l (.tup ys)))\/(di X.K H p ys/\Q (.ref p) H))):=by
 intro pins s σ H xs us Q I r h
 obtain ⟨p,ys,rfl,h⟩:=h
 obtain ⟨u,rfl,rx⟩:=vals1 r
 cases rx
 rcases h with ⟨hq,q⟩|⟨hq,q⟩
 ·obtain ⟨its,r',pl,hz⟩:=I.list hq
  have hlen:=r'.length
  refine call_tuple_list pl.isList (fun h' kp=>?_) (by simp only [MP]<;>omega)
  have I1:Inv X pins σ H {s with heap:=h'}:=I.kept (t':=s.toks) kp
  have I2:Inv X pins σ (upd H h'.objs.size (.tup ys)) {s with heap:=h'.push {cls:=.type "tuple",data:=.seq its.toArray}}:=
   I1.laid (t':=s.toks) (fun b o e=>MJ _ e) (MN _) (show b9 X.prog X.w _ _ _ (.tup ys) from ⟨hz,its,r',IsTup.new _ _⟩)
  exact ⟨.ref h'.objs.size,_,I2,rfl,q _ (I1.hok.fresh (MN _))⟩
 ·obtain ⟨its,r',pl,hz⟩:=I.tuple hq
  exact call_tuple_same pl ⟨.ref p,H,I,rfl,q⟩
noncomputable def FK (K:MF)(T:String)(x:V)(H:Hp):Prop:=match x with
 |.str _=>T="str"
 |.int _=>T="int"
 |.ref p=>(T="list"/\∃xs,bV K H p xs)\/(T="tuple"/\∃o,K.lookup p=some o/\o.cls=.type "tuple"/\o.dict=none)\/
  (T="dict"/\((∃kvs,H p=some (.dK kvs))\/∃kvs,H p=some (.dT kvs)))\/(T="set"/\∃S n,H p=some (.set S n))
 |_=>False
theorem w5 {pins:List (Addr×Obj)}{σ:St}{H:Hp}{s:MI}{T:String}{x:V}{v:MG}(I:Inv X pins σ H s)(r:RelV x v)(ty:FK X.K T x H) :
 s.TypeIs v T/\∀a,v=.ref a->∃ob,s.heap.get? a=some ob/\ob.dict=none:=by
 cases x with
 | str z =>
   obtain ⟨t,rfl⟩:=r
   cases (show T="str" from ty)
   exact ⟨typeIs_str s z t,fun _ e=>nomatch e⟩
 | int i =>
   obtain ⟨t,rfl⟩:=r
   cases (show T="int" from ty)
   exact ⟨typeIs_int s i t,fun _ e=>nomatch e⟩
 | ref p =>
   cases r
   rcases ty with ⟨rfl,xs,hq⟩|⟨rfl,o,hk,hc,hd⟩|⟨rfl,hk⟩|⟨rfl,S,n,hk⟩
   ·obtain ⟨its,_,pl,_⟩:=I.list hq
    refine ⟨pl.isList.typeIs,fun a e=>?_⟩
    cases e
    obtain ⟨o,n,e,c,hd,_⟩:=pl
    exact ⟨o,e,hd⟩
   ·refine ⟨⟨o,I.kIn p o hk,hc⟩,fun a e=>?_⟩
    cases e
    exact ⟨o,I.kIn _ o hk,hd⟩
   ·have z:∃o,s.heap.get? p=some o/\o.ExactDict:=by
     rcases hk with ⟨kvs,hk⟩|⟨kvs,hk⟩
     ·obtain ⟨_,_,_,_,o,_,_,e,ex,_⟩:=I.hok p _ hk
      exact ⟨o,e,ex⟩
     ·obtain ⟨_,_,_,_,o,_,_,e,ex,_⟩:=I.hok p _ hk
      exact ⟨o,e,ex⟩
    obtain ⟨o,e,ex⟩:=z
    refine ⟨⟨o,e,ex.1⟩,fun a e2=>?_⟩
    cases e2
    exact ⟨o,e,ex.2.1⟩
   ·obtain ⟨o,_,_,_,e,ex,_⟩:=I.hok p _ hk
    refine ⟨⟨o,e,ex.1⟩,fun a e2=>?_⟩
    cases e2
    exact ⟨o,e,ex.2.1⟩
 |_=>exact False.elim ty
noncomputable def Le (K:MF)(T:String)(r:V->List V->Hp->VK->Prop)(to:TE):TE:=fun σ H Q=>to σ H fun x H1=>FK K T x H1/\r x [] H1 Q
noncomputable def tBM (K:MF)(T:String)(r:V->List V->Hp->VK->Prop)(to:TE)(t:TA):TE:=fun σ H Q=>to σ H fun x H1=>FK K T x H1/\t σ H1 fun xs H2=>r x xs H2 Q
variable {o e:Expr}{es:List Expr}{to:TE}{t:TA}{name:Str}{apos cpos:Pos}{T id:String}{r:V->List V->Hp->VK->Prop}
theorem xQ (pa:PlainAttrs T)(slot:Slot T name id)(hty:typeOf (.builtin id)=pure (.type "method_descriptor"))(hm:KR X id r)(ho:PE X o to)
 (hbase:attributeBase o name X.env (eval o X.env)=eval o X.env:=by rfl) (hline:(apos.endLine==cpos.line)=true:=by rfl):PE X (.Call (.Attribute o name apos) [] [] cpos) (Le X.K T r to):=by
 intro pins s σ H Q I h
 refine wpAny_Call_method0_late hbase hline (aN (ho pins s σ H _ I h) fun v s1 ⟨x,H1,I1,r1,ty,q1⟩=>?_)
 obtain ⟨h1,h2⟩:=w5 I1 r1 ty
 exact ⟨T,id,pa,slot,hty,h1,h2,Calls.callWith_builtin rfl (PySem.evalArgs_none (hm pins s1 σ H1 x [] v [] Q I1 r1 .nil q1))⟩
theorem Jq (pa:PlainAttrs T)(slot:Slot T name id)(hty:typeOf (.builtin id)=pure (.type "method_descriptor"))(hm:KR X id r)(ho:PE X o to)(ha:PA X (e::es) t)
 (hbase:attributeBase o name X.env (eval o X.env)=eval o X.env:=by rfl)
 (hfew:((backTo cpos (starEach (e::es) X.env)).all (fun x=>!x.1)&&(backToKw cpos (keywordEach [] X.env)).all (fun x=>x.1.isSome)
  && decide ((e::es).length+([]:List Keyword).length+(if ([]:List Keyword).isEmpty then 0 else 1)<30))=true:=by rfl)
 (hline:(apos.endLine==cpos.line)=true:=by rfl) (hs:starEach (e::es) X.env=(false,eval e X.env)::starEach es X.env:=by rfl) (hplain:(backTo cpos (starEach es X.env)).any (·.1)=false:=by rfl) :
 PE X (.Call (.Attribute o name apos) (e::es) [] cpos) (tBM X.K T r to t):=by
 intro pins s σ H Q I h
 refine wpAny_Call_method_late hbase hfew hline rfl (aN (ho pins s σ H _ I h) fun v s1 ⟨x,H1,I1,r1,ty,q1⟩=>?_)
 obtain ⟨h1,h2⟩:=w5 I1 r1 ty
 refine ⟨T,id,pa,slot,hty,h1,h2,?_⟩
 have hA:=ha cpos pins s1 σ H1 _ I1 q1
 rw [hs] at hA ⊢
 refine Calls.callWith_builtin (by show (false||(backTo cpos (starEach es X.env)).any (·.1))=false;rw [hplain]<;>rfl) (Calls.evalArgs_plain ?_)
 exact aN hA fun us s2 ⟨vs,H2,I2,r2,q2⟩=>hm pins s2 σ H2 x vs v us Q I2 r1 r2 q2
end
end L2
namespace L2
open PySem PySem.Spec PyProof.Rows
noncomputable def CZ (X:Cx)(id:String)(r:V->List V->Hp->VK->Prop):Prop:=
 ∀(pins:List (Addr×Obj)) (s:MI) (σ:St) (H:Hp) (x:V) (xs:List V) (v:MG) (us:List MG) (Q:VK),Inv X pins σ H s->RelV x v->Vals xs us->r x xs H Q->
  wpAny (model X.prog X.w) X.A (call (.builtin id) (v::us)) (EP X pins σ Q) X.xe s
theorem Vals.one:∀{x:V}{us:List MG},Vals [x] us->∃u,us=[u]/\RelV x u
 |_,_,.cons r .nil=>⟨_,rfl,r⟩
theorem Vals.zero:∀{us:List MG},Vals [] us->us=[]
 |_,.nil=>rfl
theorem Vals.dropLast {xs:List V}{us:List MG}(h:Vals xs us):Vals xs.dropLast us.dropLast:=by
 induction h with
 |nil=>exact .nil
 | cons r t ih =>
   cases t with
   |nil=>exact .nil
   |cons q t'=>exact .cons r ih
theorem Vals.reverse {xs:List V}{us:List MG}(h:Vals xs us):Vals xs.reverse us.reverse:=by
 induction h with
 |nil=>exact .nil
 |cons r t ih=>rw [OC,OC];exact Vals.append ih (.cons r .nil)
theorem Vals.rep {xs:List V}{us:List MG}(h:Vals xs us):∀k:Nat,Vals (List.replicate k xs).flatten (List.replicate k us).flatten
 |0=>.nil
 | k + 1 => by
   rw [Oe,Oe,OD,OD]
   exact Vals.append h (Vals.rep h k)
theorem v8 {α:Type}(l:List α):l.eraseIdx (l.length-1)=l.dropLast:=by
 induction l with
 |nil=>rfl
 | cons a r ih =>
   cases r with
   |nil=>rfl
   | cons b r =>
     have e:(a::b::r).length-1=((b::r).length-1)+1:=by
      have h1:(a::b::r).length=r.length+2:=rfl
      have h2:(b::r).length=r.length+1:=rfl
      omega
     rw [e,List.eraseIdx_cons_succ,ih]
     all_goals rfl
theorem foldl_rep (its:List MG):∀(k:Nat) (acc:List MG),
 List.foldl (fun x1 x2=>x1++x2) acc.toArray (List.replicate k its.toArray)=(acc++(List.replicate k its).flatten).toArray
 |0,acc=>by simp
 | k + 1, acc => by
   have e:acc.toArray++its.toArray=(acc++its).toArray:=by simp
   have e2:(acc++its)++(List.replicate k its).flatten=acc++(List.replicate (k+1) its).flatten:=by
    rw [Oe,OD,List.append_assoc]
   rw [<- e2,<- foldl_rep its k (acc++its),<- e,Oe,List.foldl_cons]
section
variable {X:Cx}{pins:List (Addr×Obj)}{σ:St}{H:Hp}{s:MI}{l b:Addr}{xs ys zs:List V}
theorem Inv.lset {its its':List MG}{n:Nat}{f:Array MG->Array MG}{t':Nat}(I:Inv X pins σ H s)(hH:H l=some (.lst xs))
 (e:s.heap.get? l=some {cls:=.type "list",data:=.seq its.toArray n}) (hf:f its.toArray=its'.toArray) (hv:Vals ys its') (hz:ys.length<=sizeLine) :
 Inv X pins σ (upd H l (.lst ys)) {s with heap:=s.heap.update l (Obj.mapSeq f),toks:=t'}:=by
 have q:=PySem.IsL.update e f
 rw [hf] at q
 refine I.write (x:=l) (e:=l) (by rw [hH];exact trivial) (.inl rfl) (fun b' u hb hu=>(NO s.heap (Obj.mapSeq f) (NV hb)).trans hu) ⟨_,q⟩ ?_
 exact ⟨hz,its',_,hv,q⟩
theorem Inv.lnew {its:List MG}{t':Nat}(I:Inv X pins σ H s)(hv:Vals ys its)(hz:ys.length<=sizeLine) :
 Inv X pins σ (upd H s.heap.objs.size (.lst ys)) {s with heap:=s.heap.push {cls:=.type "list",data:=.seq its.toArray},toks:=t'}:=
 I.laid (fun _ _ q=>MJ _ q) (MN _) ⟨hz,its,0,hv,M8 _ rfl⟩
theorem Inv.fresh (I:Inv X pins σ H s):H s.heap.objs.size=none:=I.hok.fresh (MN _)
theorem Inv.lstM (I:Inv X pins σ H s)(hH:H l=some (.lst xs)):xs.length<=sizeLine/\∃(its:List MG) (n:Nat),Vals xs its/\xs.length=its.length/\s.heap.get? l=some {cls:=.type "list",data:=.seq its.toArray n}:=by
 obtain ⟨z,its,n,r,e⟩:=I.hok l _ hH
 exact ⟨z,its,n,r,r.length,e⟩
theorem sr {n:Nat}(h:n<=sizeLine):Builtin.List.listTooLong n=false:=by
 unfold Builtin.List.listTooLong
 exact decide_eq_false (by omega)
end
section
variable {X:Cx}
noncomputable def D9:V->List V->Hp->VK->Prop:=fun x vs H Q=>∃l xs y,x=.ref l/\vs=[y]/\H l=some (.lst xs)/\xs.length<sizeLine/\Q .non (upd H l (.lst (xs++[y])))
theorem qg:CZ X "list.append" D9:=by
 intro pins s σ H x vs v us Q I rx rv h
 obtain ⟨l,xs,y,rfl,rfl,hH,hz,q⟩:=h
 cases rx
 obtain ⟨u,rfl,ru⟩:=rv.one
 obtain ⟨z,its,n,r,hl,e⟩:=I.lstM hH
 refine call_meets F.slot_list_append ⟨_,e,rfl⟩ F.entry_list_append (F.args_list_append_2 _ _) (PySem.list_append l its.toArray n u (by rw [MP];omega)) ⟨e,?_⟩
 refine ⟨.non,_,I.lset (its':=its++[u]) hH e (by simp) (r.append (.cons ru .nil)) ?_,rfl,q⟩
 rw [NG,List.length_singleton]
 omega
noncomputable def D8:V->List V->Hp->VK->Prop:=fun x vs H Q=>∃l b xs zs,x=.ref l/\vs=[.ref b]/\H l=some (.lst xs)/\H b=some (.lst zs)/\xs.length+zs.length<=sizeLine/\Q .non (upd H l (.lst (xs++zs)))
theorem KC:CZ X "list.extend" D8:=by
 intro pins s σ H x vs v us Q I rx rv h
 obtain ⟨l,b,xs,zs,rfl,rfl,hH,hB,hz,q⟩:=h
 cases rx
 obtain ⟨u,rfl,ru⟩:=rv.one
 cases ru
 obtain ⟨z,its,n,r,hl,e⟩:=I.lstM hH
 obtain ⟨z2,its2,n2,r2,hl2,e2⟩:=I.lstM hB
 have hsz:its.toArray.size+its2.toArray.size<=sizeLine:=by rw [MP,MP];omega
 have hlong:¬ (!its.toArray.isEmpty&&Builtin.List.listTooLong (its.toArray.size+its2.toArray.size))=true:=by
  rw [sr hsz,Bool.and_false]
  exact Ng
 refine call_meets F.slot_list_extend ⟨_,e,rfl⟩ F.entry_list_extend (F.args_list_extend_2 _ _)
  (AutoSeq1.list_extend_list_list_0 l its.toArray n b its2.toArray n2 hlong (by rw [MP];omega) (by omega)) ⟨e,e2,?_⟩
 refine ⟨.non,_,I.lset (its':=its++its2) hH e (by simp) (r.append r2) ?_,rfl,q⟩
 rw [NG]
 omega
noncomputable def Ll:V->List V->Hp->VK->Prop:=fun x vs H Q=>∃l xs y,x=.ref l/\vs=[]/\H l=some (.lst xs)/\xs[xs.length-1]?=some y/\Q y (upd H l (.lst xs.dropLast))
theorem Ho:CZ X "list.pop" Ll:=by
 intro pins s σ H x vs v us Q I rx rv h
 obtain ⟨l,xs,y,rfl,rfl,hH,hy,q⟩:=h
 cases rx
 have hus:=rv.zero
 subst hus
 obtain ⟨z,its,n,r,hl,e⟩:=I.lstM hH
 obtain ⟨u,hu,ru⟩:=r.get hy
 have hy':its.toArray[its.toArray.size-1]?=some u:=by
  show its.toArray[its.length-1]?=some u
  rw [<- Array.getElem?_toList,<- hl]
  exact hu
 refine call_meets F.slot_list_pop ⟨_,e,rfl⟩ F.entry_list_pop (F.args_list_pop_1 _) (MeetsSeq.list_pop_last l its.toArray n u hy' (by rw [MP];omega)) ⟨e,?_⟩
 refine ⟨y,_,I.lset (its':=its.dropLast) hH e ?_ r.dropLast ?_,ru,q⟩
 ·show its.toArray.eraseIdxIfInBounds (its.toArray.size-1)=its.dropLast.toArray
  rw [MP,List.eraseIdxIfInBounds_toArray,v8]
 ·rw [List.length_dropLast]
  omega
noncomputable def Ar:V->List V->Hp->VK->Prop:=fun x vs H Q=>∃l xs,x=.ref l/\vs=[]/\H l=some (.lst xs)/\Q .non (upd H l (.lst xs.reverse))
theorem vI:CZ X "list.reverse" Ar:=by
 intro pins s σ H x vs v us Q I rx rv h
 obtain ⟨l,xs,rfl,rfl,hH,q⟩:=h
 cases rx
 have hus:=rv.zero
 subst hus
 obtain ⟨z,its,n,r,hl,e⟩:=I.lstM hH
 refine call_meets F.slot_list_reverse ⟨_,e,rfl⟩ F.entry_list_reverse (F.args_list_reverse_1 _) (AutoSeq1.list_reverse_list_0 l its.toArray n (by rw [MP];omega)) ⟨e,?_⟩
 refine ⟨.non,_,I.lset (its':=its.reverse) hH e (by simp) r.reverse ?_,rfl,q⟩
 rw [List.length_reverse]
 omega
noncomputable def Lm:R2:=fun x y H Q=>∃l b xs zs,x=.ref l/\y=.ref b/\H l=some (.lst xs)/\H b=some (.lst zs)/\xs.length+zs.length<=sizeLine/\∀p,H p=none->Q (.ref p) (upd H p (.lst (xs++zs)))
theorem G2:bz X (binaryOp .Add) Lm:=by
 intro pins s σ H x y v u Q I rx ry h
 obtain ⟨l,b,xs,zs,rfl,rfl,hH,hB,hz,q⟩:=h
 cases rx
 cases ry
 obtain ⟨z,its,n,r,hl,e⟩:=I.lstM hH
 obtain ⟨z2,its2,n2,r2,hl2,e2⟩:=I.lstM hB
 refine PySem.P.add_list e e2 ?_ (by rw [MP,MP];omega)
 have ea:its.toArray++its2.toArray=(its++its2).toArray:=by simp
 rw [ea]
 exact ⟨.ref _,_,I.lnew (t':=s.toks) (r.append r2) (by rw [NG];omega),rfl,q _ I.fresh⟩
noncomputable def Lk:R2:=fun x y H Q=>∃l k xs,x=.ref l/\y=.int k/\H l=some (.lst xs)/\-(2^63)<=k/\k<2^63/\xs.length*k.toNat<=sizeLine/\
 ∀p,H p=none->Q (.ref p) (upd H p (.lst (List.replicate k.toNat xs).flatten))
theorem len_rep {α:Type}(xs:List α)(k:Nat):(List.replicate k xs).flatten.length=k*xs.length:=by
 induction k with
 |zero=>simp
 |succ k ih=>rw [Oe,OD,NG,ih,Nat.succ_mul,Nat.add_comm]
theorem GX:bz X (binaryOp .Mult) Lk:=by
 intro pins s σ H x y v u Q I rx ry h
 obtain ⟨l,k,xs,rfl,rfl,hH,h1,h2,hz,q⟩:=h
 cases rx
 obtain ⟨t,rfl⟩:=ry
 obtain ⟨z,its,n,r,hl,e⟩:=I.lstM hH
 have hlen:its.toArray.size*k.toNat<=sizeLine:=by rw [MP,<- hl];exact hz
 have hcap:¬ its.toArray.size*k.toNat > (2^63-1) / 8:=by
  have:(sizeLine:Nat)<=(2^63-1) / 8:=by decide
  omega
 have hfit:¬ (!Builtin.List.listFitsIndex k)=true:=by
  rw [fitsIndex_both h1 h2]
  exact Ng
 have hlong:¬ Builtin.List.listTooLong (its.toArray.size*k.toNat)=true:=by
  rw [sr hlen]
  exact Ng
 have hnew:List.foldl (fun x1 x2=>x1++x2) #[] (List.replicate (if its.toArray.isEmpty=true then 0 else k.toNat) its.toArray)=(List.replicate k.toNat its).flatten.toArray:=by
  have f0:∀m:Nat,List.foldl (fun x1 x2=>x1++x2) #[] (List.replicate m its.toArray)=(List.replicate m its).flatten.toArray:=fun m=>by
   have:=foldl_rep its m []
   rw [OR] at this
   exact this
  rw [f0]
  cases its with
  |nil=>simp
  |cons a r'=>rw [if_neg (by simp)]
 refine wpAny_binaryOp_repeat_ref (T:="list") (U:="int") (by decide) ⟨_,e,rfl⟩ (fun s'=>typeIs_int s' k t) noFill_list_mul F.fills_int_mul F.slot_int_rmul repeat_list F.slot_int_index.lookup
  (call_meets F.slot_int_rmul (typeIs_int s k t) F.entry_int_rmul (F.args_int_rmul_2 _ _) (int___rmul___int_list k t l its.toArray n)
   ⟨e,rfl,⟨_,e,rfl⟩,call_meets F.slot_list_mul ⟨_,e,rfl⟩ F.entry_list_mul (F.args_list_mul_2 _ _) (AutoListH.list___mul___list_int_3 l its.toArray n k t hfit hcap hlong) ⟨e,?_⟩⟩)
 rw [hnew]
 exact ⟨.ref _,_,I.lnew (t':=s.toks) (r.rep k.toNat) (by rw [len_rep,Nat.mul_comm];exact hz),rfl,q _ I.fresh⟩
end
end L2
namespace Att
open PySem PySem.W PySem.Calls PyProof.Rows
theorem oh {P:N2}{h:Heap}:∀(ns:List Int) (vs:List MG),WellAll P h vs (ns.map WData.int)->IntsAre vs ns:=by
 intro ns
 induction ns with
 | nil =>
   intro vs w
   rw [List.map_nil] at w
   cases w
   exact .nil
 | cons n ns ih =>
   intro vs w
   rw [NQ] at w
   cases w with
   | cons a b =>
     cases a
     exact .cons _ _ (ih _ b)
theorem xD {l:OpenLaw}{n:Nat}(hn:l.most=some n){P:N2}{h:Heap}{args:List WData}{vals:List MG}
 (hpre:l.row.toRowW.claim.pre args=true) (hwl:WellAll P h vals args) :
 ∃a vs ns,vals=[Value.ref a]/\args=[WData.list (ns.map WData.int)]/\h.get? a=some {cls:=.type "list",data:=.seq vs.toArray}/\IntsAre vs ns/\ns.length<=n:=by
 have hsh:WShape.hasAll [] args [.list .int]=true:=(pre_splitW hpre).1
 have hc:l.pre.holds [] {args:=args}=true:=(pre_splitW hpre).2
 obtain ⟨d,r,rfl,h1,h2⟩:=hasAllW_cons hsh
 obtain rfl:=hasAllW_nil h2
 obtain ⟨xs,rfl,h3⟩:=hasW_list h1
 obtain ⟨ns,rfl⟩:=items_int h3
 have hlen:ns.length<=n:=by
  unfold OpenLaw.pre at hc
  have h4:(WTm.not (.lt (.lit (.int (n:Int))) (.len (.arg 0)))).holds [] {args:=[.list (ns.map .int)]}=true:=by
   have h4:=(holds_andW hc).1
   rw [hn] at h4
   exact h4
  have h5:=condW_of h4 (w_not (w_lt w_lit (w_len_list (w_arg rfl))))
  rw [MQ] at h5
  refine Nat.le_of_not_lt fun q=>?_
  have q':(n:Int)<((ns.length:Nat):Int):=by omega
  first
   |(rw [decide_eq_true q'] at h5;exact absurd h5 (by decide))
   |(simp at h5;omega)
 cases hwl with
 | cons w1 w2 =>
   cases w2
   cases w1 with
   |list ho hall=>exact ⟨_,_,ns,rfl,rfl,ho,oh ns _ hall,hlen⟩
theorem xK (l:OpenLaw)(args:List WData):l.row.toRowW.claim.post args (.bool true) args=true:=
 postW_of (r:=l.row.toRowW) (X:=(true==true))
  (show WShape.has [] (.bool true) .bool=true by first|rfl|decide|simp [WShape.has,WShape.arms,WShape.armsAll])
  (show (WTm.eq .res (.lit (.bool true))).value [] {args:=args,res:=some (.bool true),after:=args}=some (.bool (true==true)) from w_eq_bool (w_res rfl) w_lit) rfl
theorem attach_call {l:OpenLaw}{n:Nat}{q:Na}{loose:List Str}{XP:(Str->Option MG)->Heap->Prop}{YP:Nd->Heap->Prop}{d:DefRec}
 (hn:l.most=some n) (hdf:d.params.defaults=[])
 (call:∀(w:Nd) (s₀ s₁:MI) (mg mb:Str->Option MG) (fa:Addr) (o:Obj) (pm cd doc:MG) (a:Addr) (vs:List MG) (ns:List Int),
  Ground q loose [] XP w s₀ mg mb s₁.heap->YP w s₁.heap->
  s₁.heap.get? fa=some o->o.data=.func (docDef d.name d.params d.body d.scope pm cd doc)->s₁.heap.CodeRec cd d.name->mg d.name=some (.ref fa)->
  s₁.heap.get? a=some {cls:=.type "list",data:=.seq vs.toArray}->IntsAre vs ns->ns.length<=n->s₁.gens=#[]->
  codeAny (model l.prog w) callerA (.call (.ref fa) ⟨[.ref a],[]⟩) (fun r s'=>r=.ok (.ret (.bool true))/\OldK s₁.heap s'.heap/\s'.os=s₁.os/\AllBare s'.gens) s₁) :
 WalkO q loose XP YP l.row.toRowW d [] (fun f vs=>PySem.call f vs):=by
 intro w s₀ s₁ mg mb G Y fa o pm cd doc dV kV ho hd hcd hD hmg hg args vals as hpre hlay hrd hwl hlo
 obtain rfl:dV=.none:=Dflts.none hD hdf
 obtain rfl:kV=.none:=Dflts.noKw hD
 obtain ⟨a,vs,ns,rfl,rfl,hobj,hints,hlen⟩:=xD hn hpre hwl
 refine enter_call (codeAny_mono (call w s₀ s₁ mg mb fa o pm cd doc a vs ns G Y ho (fd_plain hd) hcd hmg hobj hints hlen hg) fun r s' hq=>?_)
 obtain ⟨rfl,h2,h3,h4⟩:=hq
 exact ⟨.inl ⟨.bool true,.bool true,[],rfl,fun _=>rfl,.bool true,xK l _,fun _=>⟨List.Pairwise.nil,fun _ hm=>(nomatch hm)⟩⟩,h2,h3,h4⟩
end Att
namespace L2
open PySem PySem.Spec PyProof.Rows
theorem pL:∀{vs:List MG}{ns:List Int},IntsAre vs ns->Vals (ns.map V.int) vs
 |_,_,.nil=>.nil
 |_,_,.cons n t h=>.cons ⟨t,rfl⟩ (pL h)
noncomputable def wA (H:Hp):Prop:=∀b,H b=none\/∃o xs,H b=some (.frz o (.lst xs))
theorem AU {P:Na}{w:Nd}{K:MF}{mg mb:Str->Option MG}{CX:mR}{k:Nat}{fa a:Addr}{fd:OG}{x:Str}{sp:Sp}{s₁:MI}{vs:List MG}{ns:List Int}
 (KX:K.In s₁.heap) (hns:s₁.heap.Ns mainGlobals mg) (hb:s₁.heap.Ns builtinsNs mb) (hbb:∀x:Str,x≠"__name__"->mb x=bootBuiltins x) (hlim:s₁.heap.NoLimit) (hg:s₁.gens=#[])
 (ha:s₁.heap.get? a=some {cls:=.type "list",data:=.seq vs.toArray}) (hi:IntsAre vs ns) (hl:ns.length<=sizeLine) (hr:bu k callerA)
 (F:∀base:Heap,K.In base->base.Ns mainGlobals mg->fB P w K mg base CX k fa fd [x] sp) (hbind:∀(s:MI) (u:MG),BindsTo s fd ⟨[u],[]⟩ [(x,u)])
 (hsp:∀H:Hp,wA H->bV K H a (ns.map V.int)->sp [.ref a] H (fun v _=>v=.bl true) fun _ _ _=>False)
 (hCX:∀H e s',CX [] H s₁ (fun _ _ _=>False) e s'->False) :
 codeAny (model P w) callerA (.call (.ref fa) ⟨[.ref a],[]⟩) (fun r s'=>r=.ok (.ret (.bool true))/\OldK s₁.heap s'.heap/\s'.os=s₁.os/\AllBare s'.gens) s₁:=by
 have rv:=pL hi
 have lenV:=hi.length
 have core:∀H:Hp,wA H->bV K H a (ns.map V.int)->dN P w H s₁.heap->(∀b,H b≠none->b=a)->(H a≠none->K.lookup a=none)->
  codeAny (model P w) callerA (.call (.ref fa) ⟨[.ref a],[]⟩) (fun r s'=>r=.ok (.ret (.bool true))/\OldK s₁.heap s'.heap/\s'.os=s₁.os/\AllBare s'.gens) s₁:=by
  intro H hO hS hok hA hK
  have d3:∀{b:Addr}{o:Obj},s₁.heap.get? b=some o->H b=none->(kI s₁.heap H).get? b=some o:=fun e n=>A8 e n
  have noA:∀{b:Addr}{o:Obj}{es:Array OI}{ep:Nat},s₁.heap.get? b=some o->o.data=.dict es ep->H b=none:=fun {b o es ep} e d=>by
   cases q:H b with
   |none=>rfl
   | some u =>
     have e':b=a:=hA b (by rw [q];simp)
     subst e'
     rw [ha] at e;cases e
     have d':Data.seq vs.toArray _=Data.dict es ep:=d
     cases d'
  have nsK:∀{b:Addr}{m:Str->Option MG},s₁.heap.Ns b m->(kI s₁.heap H).Ns b m:=fun {b m} ⟨o,es,ep,e,d,r⟩=>⟨o,es,ep,d3 e (noA e d),d,r⟩
  have hKb:K.In (kI s₁.heap H):=fun b o e=>d3 (KX b o e) (by
   cases q:H b with
   |none=>rfl
   | some u =>
     have e':b=a:=hA b (by rw [q];simp)
     subst e'
     rw [hK (by rw [q];simp)] at e;cases e)
  have hM:Mod K mg (kI s₁.heap H):=⟨hKb,nsK hns,⟨mb,nsK hb,hbb⟩,let ⟨mc,h1,h2⟩:=hlim;⟨mc,nsK h1,h2⟩⟩
  have e0:nF P w K mg (kI s₁.heap H) callerA [] s₁ H:=⟨rfl,hM,fun b o e=>Ew e,Nat.le_of_eq (yD _ _),trivial,fun b hb=>absurd (show b∈([]:List Addr) from hb) (by simp),hok,.of_eq hg⟩
  refine codeAny_mono ((F _ hKb (nsK hns)).run callerA [] s₁ H ⟨[.ref a],[]⟩ [.ref a] [.ref a] _ _ hr e0 (hbind s₁ (.ref a)) (.cons rfl .nil) (hsp H hO hS)) fun r s' h=>?_
  cases r with
  |error e=>exact (hCX H e s' h).elim
  | ok fl =>
    cases fl with
    |next=>exact False.elim h
    |brk=>exact False.elim h
    |cont=>exact False.elim h
    | ret u =>
      obtain ⟨v,H',os,bare,un,hok',r',q⟩:=h
      have q':v=.bl true:=q
      subst q'
      obtain rfl:u=Value.bool true:=r'
      refine ⟨rfl,OldK.of_keep fun b o e=>?_,os,bare⟩
      cases q:H b with
      |none=>exact un.keep b o e q (by intro z;exact absurd (show b∈([]:List Addr) from z) (by simp)) (by simp)
      | some u =>
        rcases hO b with z|⟨ob,xs,z⟩
        ·rw [q] at z;cases z
        ·have z2:=un.frzs b ob _ z
         obtain ⟨e1,_⟩:=hok b _ z
         obtain ⟨e2,_⟩:=hok' b _ z2
         rw [e] at e1;cases e1
         exact e2
 cases hk:K.lookup a with
 | some o =>
   have e:=KX a o hk
   rw [ha] at e
   cases e
   refine core (fun _=>none) (fun _=>.inl rfl) (.inr ⟨_,vs.toArray,_,hk,rfl,rfl,rfl,by rw [MP,lenV];exact hl,by simpa using rv⟩) (fun b u z=>by have z':(none:Option HO)=some u:=z;cases z') (fun b z=>absurd rfl z) fun z=>absurd rfl z
 | none =>
   refine core (fun b=>if b=a then some (.frz {cls:=.type "list",data:=.seq vs.toArray} (.lst (ns.map V.int))) else none) (fun b=>?_) (.inl (.inr ⟨{cls:=.type "list",data:=.seq vs.toArray},if_pos rfl⟩)) (fun b u z=>?_) (fun b z=>?_) fun _=>hk
   ·by_cases hb:b=a
    ·exact .inr ⟨_,_,if_pos hb⟩
    ·exact .inl (if_neg hb)
   ·by_cases hb:b=a
    ·have z':=(if_pos hb).symm.trans z
     cases z'
     subst hb
     exact ⟨ha,by rw [MQ];exact hl,vs,_,rv,ha⟩
    ·have z':=(if_neg hb).symm.trans z
     cases z'
   ·by_cases hb:b=a
    ·exact hb
    ·exact absurd (if_neg hb) z
end L2
namespace L2
open PySem PySem.Spec PyProof.Rows
theorem De {l:PySem.W.OpenLaw}{n k:Nat}{q:Na}{loose:List Str}{XP:(Str->Option MG)->Heap->Prop}{YP:Nd->Heap->Prop}{d:DefRec}{K:N2->MF}{CX:Nd->mR}{sp:Nd->Sp}{x:Str}
 (hn:l.most=some n) (hn2:n<=sizeLine) (hdf:d.params.defaults=[]) (hr:bu k callerA)
 (hY:∀(w:Nd) (h:Heap),YP w h->(K w.params).In h)
 (F:∀(w:Nd) (mg:Str->Option MG) (fa:Addr) (h:Heap),(K w.params).In h->h.Ns mainGlobals mg->mg d.name=some (.ref fa)->
  ∃fd:OG,(∀(s:MI) (u:MG),BindsTo s fd ⟨[u],[]⟩ [(x,u)])/\
   ∀base:Heap,(K w.params).In base->base.Ns mainGlobals mg->fB l.prog w (K w.params) mg base (CX w) k fa fd [x] (sp w))
 (hsp:∀(w:Nd) (H:Hp) (a:Addr) (ns:List Int),ns.length<=n->wA H->bV (K w.params) H a (ns.map V.int)->sp w [.ref a] H (fun v _=>v=.bl true) fun _ _ _=>False)
 (hCX:∀(w:Nd) (H:Hp) (s:MI) (e:MG) (s':MI),CX w [] H s (fun _ _ _=>False) e s'->False) :
 PySem.W.WalkO q loose XP YP l.row.toRowW d [] (fun f vs=>PySem.call f vs):=by
 refine Att.attach_call hn hdf fun w s₀ s₁ mg mb fa o pm cd doc a vs ns G Y ho hd hcd hmg hobj hints hlen hg=>?_
 have KX:=hY w _ Y
 obtain ⟨fd,hb,hF⟩:=F w mg fa _ KX G.T.g hmg
 exact AU KX G.T.g G.T.b G.T.builtins G.T.nolimit hg hobj hints (MR hlen hn2) hr hF hb (fun H hO hS=>hsp w H a ns hlen hO hS) fun H e s'=>hCX w H s₁ e s'
end L2
namespace L2
open PySem PySem.Spec PyProof.Rows
noncomputable def inClass (s:Stmt)(j:Nat):Stmt:=match s with
 |.ClassDef _ _ _ body _ _ _ _ _ _ _=>body.getD j (.Pass ⟨0,0,0,0⟩)
 |_=>.Pass ⟨0,0,0,0⟩
noncomputable def fk (s:Stmt):Arguments:=match s with
 |.FunctionDef _ a _ _ _ _ _ _ _ _=>a
 |_=>{posonlyargs:=[],args:=[],vararg:=none,kwonlyargs:=[],kw_defaults:=[],kwarg:=none,defaults:=[]}
noncomputable def cx (s:Stmt):List Stmt:=match s with
 |.FunctionDef _ _ b _ _ _ _ _ _ _=>b
 |_=>[]
noncomputable def aL (s:Stmt):Scope:=match s with
 |.FunctionDef _ _ _ _ _ _ sc _ _ _=>sc
 |_=>{kind:=.function,names:=[],isGenerator:=false,isCoroutine:=false}
abbrev E0:XK:=fun _ _ _=>False
structure oJ (K:MF) (x qual:Str) (st:Stmt) (f:Addr) (fd:OG):Prop where
 ex:∃(oc:MG) (od:Option Addr) (kV doc pm:MG) (an:Option Addr) (cdv ct:MG) (osl:Array (Option MG)),
  fd=PySem.W.fnOf x qual (fk st) (cx st) (aL st) .none kV doc pm an cdv ct/\K.lookup f=some ⟨oc,od,.func fd,osl⟩/\PySem.W.codeIn K cdv qual=true
 kp:PySem.W.keepIn K (.ref f)=true
section
variable {P:Na}{w:Nd}{K:MF}{mg:Str->Option MG}{base:Heap}
theorem oJ.binds {x qual:Str}{st:Stmt}{f:Addr}{fd:OG}{ps:List Str}(F:oJ K x qual st f fd)
 (h:∀(kV doc pm:MG) (an:Option Addr) (cdv ct:MG) (us:List MG),us.length=ps.length->bindArgs (PySem.W.fnOf x qual (fk st) (cx st) (aL st) .none kV doc pm an cdv ct) ⟨us,[]⟩=pure (ps.zip us)):Binds K fd ps []:=by
 obtain ⟨oc,od,kV,doc,pm,an,cdv,ct,osl,rfl,lk,hcd⟩:=F.ex
 exact .all (h kV doc pm an cdv ct)
theorem yG {x qual:Str}{st:Stmt}{f:Addr}{oc:MG}{od an:Option Addr}{osl:Array (Option MG)}{kV doc pm cdv ct:MG}(l:K.lookup f=some ⟨oc,od,.func (PySem.W.fnOf x qual (fk st) (cx st) (aL st) .none kV doc pm an cdv ct),osl⟩)
 (c:PySem.W.codeIn K cdv qual=true) (k:PySem.W.keepIn K (.ref f)=true):oJ K x qual st f (PySem.W.fnOf x qual (fk st) (cx st) (aL st) .none kV doc pm an cdv ct):=⟨⟨oc,od,kV,doc,pm,an,cdv,ct,osl,rfl,l,c⟩,k⟩
end
end L2
namespace LD
open PySem
inductive D where
 |non|bl (b:Bool)|int (i:Int)|str (x:Str)|tup (ds:List D)|lst (ds:List D)|frz (ds:List D)|cell (k:Nat)|fn (f:Nat)|exc (c:Nat) (p:Option Int)
 deriving Inhabited
abbrev Mem:=List (List D)
abbrev Env:=List (Option D)
inductive Res (α:Type) where
 |ok (a:α) (M:Mem)
 |err (x:D) (M:Mem)
 |bad
noncomputable def Res.bind {α β:Type}(r:Res α)(f:α->Mem->Res β):Res β:=match r with
 |.ok a M=>f a M
 |.err x M=>.err x M
 |.bad=>.bad
@[simp] theorem Res.bind_ok {α β:Type}(a:α)(M:Mem)(f:α->Mem->Res β):(Res.ok a M).bind f=f a M:=rfl
@[simp] theorem Res.bind_err {α β:Type}(x:D)(M:Mem)(f:α->Mem->Res β):(Res.err x M:Res α).bind f=.err x M:=rfl
@[simp] theorem Res.bind_bad {α β:Type}(f:α->Mem->Res β):(Res.bad:Res α).bind f=.bad:=rfl
inductive mS where
 |add|sub|mul|fdiv|mod|pow
 deriving DecidableEq
inductive iJ where
 |eq|ne|lt|le|gt|ge|isN|notN|isin|notin
 deriving DecidableEq
inductive Ty where
 |int|bool|str|tuple|list|own (c:Str)
 deriving DecidableEq
inductive tR where
 |len|tuple|list (m:Bool)|listR (m:Bool)|all|sum|repr
 deriving DecidableEq
inductive cy where
 |one (i:Nat)
 |tup (l:List Nat)
noncomputable def sz:Nat:=16777216
noncomputable def bf (m:Bool)(ds:List D)(M:Mem):Res D:=if ds.length<=sz then (if m then .ok (.cell M.length) (M++[ds]) else .ok (.lst ds) M) else .bad
noncomputable def kD (ds:List D)(M:Mem):Res D:=if ds.length<=sz then .ok (.tup ds) M else .bad
noncomputable def bG (M:Mem):D->Option (List D)
 |.lst ds=>some ds
 |.tup ds=>some ds
 |.frz ds=>some ds
 |.cell k=>M[k]?
 |_=>none
noncomputable def eF (M:Mem):D->Option (List D)
 |.lst ds=>some ds
 |.frz ds=>some ds
 |.cell k=>M[k]?
 |_=>none
noncomputable def jn (M:Mem):D->Option (List D)
 |.lst ds=>some ds
 |.cell k=>M[k]?
 |_=>none
noncomputable def aA:Nat->D->Bool
 |_,.non=>true
 |_,.bl _=>true
 |_,.int _=>true
 |_,.str x=>x.cps.all (· < 0x110000)
 |n+1,.tup ds=>ds.all (aA n)
 |n+1,.lst ds=>ds.all (aA n)
 |0,.tup _=>false
 |0,.lst _=>false
 |_,.frz _=>false
 |_,.cell _=>false
 |_,.fn _=>false
 |_,.exc _ _=>false
mutual
noncomputable def fz:D->D->Bool
 |.non,.non=>true
 |.bl a,.bl b=>a==b
 |.bl a,.int b=>(if a then 1 else 0)==b
 |.int a,.bl b=>a==(if b then 1 else 0)
 |.int a,.int b=>a==b
 |.str a,.str b=>a==b
 |.tup a,.tup b=>iE a b
 |.lst a,.lst b=>iE a b
 |_,_=>false
noncomputable def iE:List D->List D->Bool
 |[],[]=>true
 |a::r,b::t=>fz a b&&iE r t
 |[],_::_=>false
 |_::_,[]=>false
end
noncomputable def gM:D->Bool
 |.str _=>true
 |_=>false
noncomputable def sU (a b:D):Option Bool:=if gM a&&gM b||aA 64 a&&aA 64 b then some (fz a b) else none
noncomputable def view (M:Mem):D->D
 | .cell k => match M[k]? with
   |some ds=>.lst ds
   |none=>.cell k
 |.frz ds=>.lst ds
 |d=>d
noncomputable def cU:Nat->Mem->D->D
 |0,_,d=>d
 | n + 1, M, .cell k => match M[k]? with
   |some ds=>.lst (ds.map (cU n M))
   |none=>.cell k
 |n+1,M,.frz ds=>.lst (ds.map (cU n M))
 |n+1,M,.lst ds=>.lst (ds.map (cU n M))
 |n+1,M,.tup ds=>.tup (ds.map (cU n M))
 |_+1,_,d=>d
noncomputable def lM (M:Mem)(a b:D):Option Bool:=match sU (view M a) (view M b) with
 |some r=>some r
 |none=>sU (cU 64 M a) (cU 64 M b)
noncomputable def jN (M:Mem):D->Option Bool
 |.non=>some false
 |.bl b=>some b
 |.int i=>some (i != 0)
 |.str x=>if x.cps.size<=sz then some (x.cps.size != 0) else none
 |.tup ds=>some (!ds.isEmpty)
 |.lst ds=>some (!ds.isEmpty)
 |.frz ds=>some (!ds.isEmpty)
 |.cell k=>(M[k]?).map fun ds=>!ds.isEmpty
 |.fn _=>none
 |.exc _ _=>none
noncomputable def bI (n:Nat)(i:Int):Option Nat:=if 0<=i then (if i<n then some i.toNat else none) else if -(n:Int)<=i then some (i+n).toNat else none
noncomputable def gY (m:Bool)(o:mS)(a b:D)(M:Mem):Res D:=match o,a,b with
 |.add,.int i,.int j=>.ok (.int (i+j)) M
 |.add,.str x,.str y=>if x.cps.size+y.cps.size<=sz then .ok (.str ⟨x.cps++y.cps⟩) M else .bad
 |.add,.tup x,.tup y=>kD (x++y) M
 | .add, a, b => match jn M a, jn M b with
   |some x,some y=>bf m (x++y) M
   |_,_=>.bad
 |.sub,.int i,.int j=>.ok (.int (i-j)) M
 |.mul,.int i,.int j=>if (-(2^64)<i/\i<2^64)\/(-(2^64)<j/\j<2^64) then .ok (.int (i*j)) M else .bad
 |.mul,.tup x,.int j=>if x.length*j.toNat<=sz/\-(2^63)<=j/\j<2^63 then .ok (.tup (List.replicate j.toNat x).flatten) M else .bad
 | .mul, a, .int j => match jn M a with
   |some x=>if x.length*j.toNat<=sz/\-(2^63)<=j/\j<2^63 then bf m (List.replicate j.toNat x).flatten M else .bad
   |none=>.bad
 |.fdiv,.int i,.int j=>if 0<j/\j<1073741824 then .ok (.int (i / j)) M else .bad
 |.mod,.int i,.int j=>if 0<j then .ok (.int (i % j)) M else .bad
 |.pow,.int i,.int j=>if 0<=j/\j<=1000000/\i.natAbs<2^64 then .ok (.int (i^j.toNat)) M else .bad
 |_,_,_=>.bad
noncomputable def lG (x:D)(ds:List D):Option Bool:=if aA 64 x&&ds.all (aA 63) then some (ds.any fun y=>fz y x) else none
noncomputable def nN (x y:Str):Bool:=!(Builtin.Str.occurrences y x 0 y.length 1).isEmpty
noncomputable def iP:D->Bool
 |.non=>true
 |_=>false
noncomputable def bx (o:iJ)(a b:D)(M:Mem):Option Bool:=match o,a,b with
 |.eq,a,b=>lM M a b
 |.ne,a,b=>(lM M a b).map (!·)
 |.lt,.int i,.int j=>some (decide (i<j))
 |.le,.int i,.int j=>some (decide (i<=j))
 |.gt,.int i,.int j=>some (decide (j<i))
 |.ge,.int i,.int j=>some (decide (j<=i))
 |.isN,a,.non=>some (iP a)
 |.notN,a,.non=>some (!iP a)
 |.isin,.str x,.str y=>some (nN x y)
 |.notin,.str x,.str y=>some (!nN x y)
 |.isin,a,b=>(bG M b).bind (lG (view M a))
 |.notin,a,b=>((bG M b).bind (lG (view M a))).map (!·)
 |_,_,_=>none
noncomputable def cH (a i:D)(M:Mem):Option D:=match a,i with
 |.str x,.int i=>if x.cps.size<=sz then (bI x.cps.size i).bind fun j=>(x.cps[j]?).map fun c=>.str ⟨#[c]⟩ else none
 |a,.int i=>(bG M a).bind fun ds=>(bI ds.length i).bind fun j=>ds[j]?
 |_,_=>none
noncomputable def aJ (n d:Nat):D->Option Nat
 |.non=>some d
 |.int v=>some (if v<0 then (v+(n:Int)).toNat else min v.toNat n)
 |_=>none
noncomputable def dn:Bool->D->Bool
 |true,.int _=>true
 |false,.non=>true
 |_,_=>false
noncomputable def cut {α:Type}(xs:List α)(lo hi:Nat):List α:=(xs.drop lo).take (hi-lo)
noncomputable def fP (m:Bool)(a lo hi:D)(M:Mem):Res D:=match a with
 | .tup xs => match aJ xs.length 0 lo, aJ xs.length xs.length hi with
   |some l,some h=>.ok (.tup (cut xs l h)) M
   |_,_=>.bad
 | a => match eF M a with
   | some xs => match aJ xs.length 0 lo, aJ xs.length xs.length hi with
     |some l,some h=>bf m (cut xs l h) M
     |_,_=>.bad
   |none=>.bad
noncomputable def dF (t:Ty):D->Option Bool
 |.non=>some false
 |.bl _=>some (t==.bool||t==.int)
 |.int _=>some (t==.int)
 |.str _=>some (t==.str)
 |.tup _=>some (t==.tuple)
 |.lst _=>some (t==.list)
 |.frz _=>some (t==.list)
 |.cell _=>some (t==.list)
 |.fn _=>none
 |.exc _ _=>none
noncomputable def boolsOf:List D->Option (List Bool)
 |[]=>some []
 |.bl b::r=>(boolsOf r).map (b::·)
 |_=>none
noncomputable def intsOf:List D->Option (List Int)
 |[]=>some []
 |.int b::r=>(intsOf r).map (b::·)
 |_=>none
noncomputable def dA (f:tR)(ds:List D)(M:Mem):Res D:=match f,ds with
 |.len,[.str x]=>if x.cps.size<=sz then .ok (.int x.cps.size) M else .bad
 | .len, [d] => match bG M d with
   |some xs=>.ok (.int xs.length) M
   |none=>.bad
 |.tuple,[.tup xs]=>.ok (.tup xs) M
 | .tuple, [d] => match eF M d with
   |some xs=>.ok (.tup xs) M
   |none=>.bad
 | .list m, [d] => match bG M d with
   |some xs=>bf m xs M
   |none=>.bad
 |.listR m,[.int n]=>if n<2^20 then bf m ((List.range n.toNat).map fun (k:Nat)=>D.int (k:Int)) M else .bad
 | .all, [d] => match eF M d with
   | some xs => match boolsOf xs with
     |some bs=>.ok (.bl (bs.all id)) M
     |none=>.bad
   |none=>.bad
 | .sum, [d] => match eF M d with
   | some xs => match intsOf xs with
     |some is=>.ok (.int is.sum) M
     |none=>.bad
   |none=>.bad
 |_,_=>.bad
noncomputable def eQ:List Nat->List D->Env->Option Env
 |[],[],Z=>some Z
 |i::l,d::ds,Z=>eQ l ds (Z.set i (some d))
 |_,_,_=>none
noncomputable def bN (t:cy)(d:D)(Z:Env):Option Env:=match t,d with
 |.one i,d=>some (Z.set i (some d))
 |.tup l,.tup ds=>eQ l ds Z
 |.tup _,_=>none
abbrev Walk:=Mem->Option (List D)
noncomputable def dP:Nat->List D->List D
 |_,[]=>[]
 |k,d::r=>.tup [.int k,d]::dP (k+1) r
noncomputable def gP:List D->List D->List D
 |a::r,b::t=>.tup [a,b]::gP r t
 |_,_=>[]
noncomputable def fc:List D->List D->List D->List D
 |a::r,b::t,c::q=>.tup [a,b,c]::fc r t q
 |_,_,_=>[]
noncomputable def CH {α:Type}(f:α->D->Mem->Res α):List D->α->Mem->Res α
 |[],a,M=>.ok a M
 |d::r,a,M=>(f a d M).bind (CH f r)
noncomputable def ez {α:Type}(f:α->D->Mem->Res α)(w:Walk):Nat->Nat->α->Mem->Res α
 |0,_,_,_=>.bad
 | n + 1, i, a, M => match w M with
   |none=>.bad
   | some ds => match ds[i]? with
     |none=>.ok a M
     |some d=>(f a d M).bind (ez f w n (i+1))
noncomputable def dj {α:Type}(f:α->D->Mem->Res α)(w:Walk)(a:α)(M:Mem):Res α:=ez f w (((w M).getD []).length+1) 0 a M
noncomputable def bK {α:Type}(M:Mem):Option α->Res α
 |some a=>.ok a M
 |none=>.bad
@[simp] theorem Ln {α:Type}(M:Mem)(a:α):bK M (some a)=.ok a M:=rfl
@[simp] theorem Lo {α:Type}(M:Mem):(bK M none:Res α)=.bad:=rfl
inductive Fl where
 |next (Z:Env)
 |ret (d:D)
 |exc (x:D) (Z:Env)
end LD
namespace LD
open PySem PySem.Spec PyProof.Rows L2
structure Mu where
 pub:Nat->Option Addr
 priv:List Addr
 ob:Nat->Option Addr
noncomputable def Mu.Mt (μ:Mu)(a:Addr):Prop:=(∃k,μ.pub k=some a)\/a∈μ.priv
abbrev Fa:=Nat->Option Addr
noncomputable def KL (K:MF)(a:Addr)(xs:List V):Prop:=
 ∃(o:Obj) (its:Array MG) (n:Nat),K.lookup a=some o/\o.cls=.type "list"/\o.dict=none/\o.data=.seq its n/\its.size<=sizeLine/\Vals xs its.toList
noncomputable def XAt (C:Addr)(dx:Option Addr)(a:Addr)(h:Heap):Prop:=∃o vs,h.get? a=some o/\o.cls=.ref C/\o.dict=dx/\o.data=.fields vs/\1<vs.size
noncomputable def f7 (c:Nat):Str:=if c=1 then "number" else "place"
noncomputable def tP (H:Hp)(c:Nat)(dx:Option Addr):Option Int->Prop
 |none=>dx=none
 |some i=>∃d,dx=some d/\H d=some (.xd [(f7 c,.int i)])
noncomputable def eI (c:Nat):Nat:=1000+c
noncomputable def gL (c:Nat):Nat:=900+c
section
variable (fa:Fa)(K:MF)(μ:Mu)(H:Hp)
mutual
noncomputable def Rep:D->V->Prop
 |.non,v=>v=.non
 |.bl b,v=>v=.bl b
 |.int i,v=>v=.int i
 |.str x,v=>v=.str x
 |.tup ds,v=>∃a vs,v=.ref a/\di K H a vs/\aF ds vs
 |.lst ds,v=>∃a vs,v=.ref a/\(H a=some (.lst vs)/\¬ μ.Mt a)/\aF ds vs
 |.frz ds,v=>∃a vs,v=.ref a/\((∃ob,H a=some (.frz ob (.lst vs)))\/KL K a vs)/\aF ds vs
 |.cell k,v=>∃a,v=.ref a/\μ.pub k=some a
 |.fn f,v=>∃a,v=.ref a/\(fa f=some a\/(fa f=none/\μ.ob f=some a))
 |.exc c p,v=>∃a C dx,v=.ref a/\fa (eI c)=some C/\H a=some (.ext (XAt C dx a))/\tP H c dx p
noncomputable def aF:List D->List V->Prop
 |[],vs=>vs=[]
 |d::ds,vs=>∃v r,vs=v::r/\Rep d v/\aF ds r
end
end
noncomputable def IsX (o:HO):Prop:=(∃φ,o=.ext φ)\/∃fs,o=.xd fs
structure ExtW (μ:Mu) (H:Hp) (μ':Mu) (H':Hp):Prop where
 mu:∀k a,μ.pub k=some a->μ'.pub k=some a
 tups:∀a vs,Rd H a (.tup vs)->Rd H' a (.tup vs)
 lsts:∀a vs,H a=some (.lst vs)->¬ μ.Mt a->H' a=some (.lst vs)/\¬ μ'.Mt a
 frzs:∀a ob u,H a=some (.frz ob u)->H' a=some (.frz ob u)
 exts:∀a o,IsX o->H a=some o->H' a=some o
 obs:∀k a,μ.ob k=some a->μ'.ob k=some a
structure Ext (μ:Mu) (H:Hp) (μ':Mu) (H':Hp):Prop extends ExtW μ H μ' H' where
 pr:μ'.priv=μ.priv
 pk:∀a∈μ.priv,H' a=H a
theorem ExtW.refl {μ:Mu}{H:Hp}:ExtW μ H μ H:=⟨fun _ _ h=>h,fun _ _ h=>h,fun _ _ h n=>⟨h,n⟩,fun _ _ _ h=>h,fun _ _ _ h=>h,fun _ _ h=>h⟩
theorem ExtW.trans {μ μ1 μ2:Mu}{H H1 H2:Hp}(a:ExtW μ H μ1 H1)(b:ExtW μ1 H1 μ2 H2):ExtW μ H μ2 H2:=
 ⟨fun k x h=>b.mu k x (a.mu k x h),fun x vs h=>b.tups x vs (a.tups x vs h),fun x vs h n=>b.lsts x vs (a.lsts x vs h n).1 (a.lsts x vs h n).2,fun x ob u h=>b.frzs x ob u (a.frzs x ob u h),fun x o i h=>b.exts x o i (a.exts x o i h),fun k x h=>b.obs k x (a.obs k x h)⟩
theorem Ext.refl {μ:Mu}{H:Hp}:Ext μ H μ H:=⟨.refl,rfl,fun _ _=>rfl⟩
theorem Ext.trans {μ μ1 μ2:Mu}{H H1 H2:Hp}(a:Ext μ H μ1 H1)(b:Ext μ1 H1 μ2 H2):Ext μ H μ2 H2:=
 ⟨a.toExtW.trans b.toExtW,b.pr.trans a.pr,fun x hx=>(b.pk x (by rw [a.pr];exact hx)).trans (a.pk x hx)⟩
section
variable {fa:Fa}{K:MF}{μ μ':Mu}{H H':Hp}
theorem ExtW.sqT {a:Addr}{vs:List V}(x:ExtW μ H μ' H')(h:di K H a vs):di K H' a vs:=h.elim (fun z=>.inl (x.tups a vs z)) .inr
mutual
theorem Rep.extW (x:ExtW μ H μ' H'):∀{d:D}{v:V},Rep fa K μ H d v->Rep fa K μ' H' d v
 |.non,v,h=>h
 |.bl b,v,h=>h
 |.int i,v,h=>h
 |.str y,v,h=>h
 | .tup ds, v, h => by
   obtain ⟨a,vs,e,s,r⟩:=h
   exact ⟨a,vs,e,x.sqT s,aF.extW x r⟩
 | .lst ds, v, h => by
   obtain ⟨a,vs,e,s,r⟩:=h
   exact ⟨a,vs,e,x.lsts a vs s.1 s.2,aF.extW x r⟩
 | .frz ds, v, h => by
   obtain ⟨a,vs,e,s,r⟩:=h
   exact ⟨a,vs,e,s.elim (fun ⟨ob,z⟩=>.inl ⟨ob,x.frzs a ob _ z⟩) .inr,aF.extW x r⟩
 | .cell k, v, h => by
   obtain ⟨a,e,m⟩:=h
   exact ⟨a,e,x.mu k a m⟩
 | .fn f, v, h => by
   obtain ⟨a,e,m⟩:=h
   exact ⟨a,e,m.imp id fun z=>⟨z.1,x.obs _ _ z.2⟩⟩
 | .exc c p, v, h => by
   obtain ⟨a,C,dx,e,f,g,n⟩:=h
   refine ⟨a,C,dx,e,f,x.exts _ _ (.inl ⟨_,rfl⟩) g,?_⟩
   cases p with
   |none=>exact n
   |some i=>exact let ⟨d,h1,h2⟩:=n;⟨d,h1,x.exts _ _ (.inr ⟨_,rfl⟩) h2⟩
theorem aF.extW (x:ExtW μ H μ' H'):∀{ds:List D}{vs:List V},aF fa K μ H ds vs->aF fa K μ' H' ds vs
 |[],vs,h=>h
 | d :: ds, vs, h => by
   obtain ⟨v,r,e,p,q⟩:=h
   exact ⟨v,r,e,Rep.extW x p,aF.extW x q⟩
end
theorem Rep.ext (x:Ext μ H μ' H'){d:D}{v:V}(h:Rep fa K μ H d v):Rep fa K μ' H' d v:=Rep.extW x.toExtW h
theorem aF.ext (x:Ext μ H μ' H'){d:List D}{v:List V}(h:aF fa K μ H d v):aF fa K μ' H' d v:=aF.extW x.toExtW h
theorem aF.length:∀{ds:List D}{vs:List V},aF fa K μ H ds vs->vs.length=ds.length
 | [], vs, h => by
   have h:vs=[]:=h
   subst h;rfl
 | d :: ds, vs, h => by
   obtain ⟨v,r,e,p,q⟩:=h
   subst e
   simp [aF.length q]
theorem aF.get:∀{ds:List D}{vs:List V}{i:Nat}{d:D},aF fa K μ H ds vs->ds[i]?=some d->∃v,vs[i]?=some v/\Rep fa K μ H d v
 |[],_,_,_,_,e=>by simp at e
 | d :: ds, vs, 0, d', h, e => by
   obtain ⟨v,r,rfl,p,q⟩:=h
   simp at e;subst e
   exact ⟨v,rfl,p⟩
 | d :: ds, vs, i + 1, d', h, e => by
   obtain ⟨v,r,rfl,p,q⟩:=h
   obtain ⟨u,h1,h2⟩:=aF.get (i:=i) q (by simpa using e)
   exact ⟨u,by simpa using h1,h2⟩
theorem aF.append:∀{ds es:List D}{vs ws:List V},aF fa K μ H ds vs->aF fa K μ H es ws->aF fa K μ H (ds++es) (vs++ws)
 | [], _, vs, _, h, g => by
   have h:vs=[]:=h
   subst h;exact g
 | d :: ds, es, vs, ws, h, g => by
   obtain ⟨v,r,rfl,p,q⟩:=h
   exact ⟨v,r++ws,rfl,p,aF.append q g⟩
theorem aF.one {d:D}{v:V}(h:Rep fa K μ H d v):aF fa K μ H [d] [v]:=⟨v,[],rfl,h,rfl⟩
theorem aF.drop:∀(n:Nat) {ds:List D}{vs:List V},aF fa K μ H ds vs->aF fa K μ H (ds.drop n) (vs.drop n)
 |0,_,_,h=>h
 | n + 1, [], vs, h => by
   have h:vs=[]:=h
   subst h;exact rfl
 | n + 1, d :: ds, vs, h => by
   obtain ⟨v,r,rfl,p,q⟩:=h
   exact aF.drop n q
theorem aF.take:∀(n:Nat) {ds:List D}{vs:List V},aF fa K μ H ds vs->aF fa K μ H (ds.take n) (vs.take n)
 |0,_,_,h=>rfl
 | n + 1, [], vs, h => by
   have h:vs=[]:=h
   subst h;exact rfl
 | n + 1, d :: ds, vs, h => by
   obtain ⟨v,r,rfl,p,q⟩:=h
   exact ⟨v,r.take n,rfl,p,aF.take n q⟩
theorem aF.set:∀(n:Nat) {ds:List D}{vs:List V}{d:D}{v:V},aF fa K μ H ds vs->Rep fa K μ H d v->aF fa K μ H (ds.set n d) (vs.set n v)
 | _, [], vs, _, _, h, _ => by
   have h:vs=[]:=h
   subst h;exact rfl
 | 0, d :: ds, vs, _, v', h, g => by
   obtain ⟨v,r,rfl,p,q⟩:=h
   exact ⟨v',r,rfl,g,q⟩
 | n + 1, d :: ds, vs, _, v', h, g => by
   obtain ⟨v,r,rfl,p,q⟩:=h
   exact ⟨v,r.set n v',rfl,p,aF.set n q g⟩
theorem aF.reverse:∀{ds:List D}{vs:List V},aF fa K μ H ds vs->aF fa K μ H ds.reverse vs.reverse
 | [], vs, h => by
   have h:vs=[]:=h
   subst h;exact rfl
 | d :: ds, vs, h => by
   obtain ⟨v,r,rfl,p,q⟩:=h
   rw [OC,OC]
   exact aF.append (aF.reverse q) (.one p)
theorem aF.rep:∀(n:Nat) {ds:List D}{vs:List V},aF fa K μ H ds vs->aF fa K μ H (List.replicate n ds).flatten (List.replicate n vs).flatten
 |0,_,_,_=>rfl
 | n + 1, ds, vs, h => by
   rw [Oe,Oe,OD,OD]
   exact h.append (aF.rep n h)
theorem aF.ints:∀(ns:List Int),aF fa K μ H (ns.map D.int) (ns.map V.int)
 |[]=>rfl
 |n::ns=>⟨.int n,ns.map V.int,rfl,rfl,aF.ints ns⟩
end
noncomputable def bT:Nat->List Str
 |40=>["machine","standing","earlier"]
 |_=>[]
noncomputable def aG (k:Nat):Nat:=5000+k
noncomputable def Kh (fa:Fa)(K:MF)(μ:Mu)(H:Hp)(k:Nat)(ds:List D):Prop:=
 (∃a vs,μ.pub k=some a/\H a=some (.lst vs)/\aF fa K μ H ds vs)\/
 ∃a c C dx fs es,μ.ob (aG k)=some a/\μ.pub k=none/\fa (gL c)=some C/\H a=some (.ins C dx fs)/\fs.map (·.1)=(bT c).take fs.length/\ds=.int c::es/\aF fa K μ H es (fs.map (·.2))
structure RelM (fa:Fa) (K:MF) (μ:Mu) (H:Hp) (M:Mem):Prop where
 at':∀(k:Nat) (ds:List D),M[k]?=some ds->Kh fa K μ H k ds
 out:∀(k:Nat),M.length<=k->μ.pub k=none
 oout:∀(k:Nat),M.length<=k->μ.ob (aG k)=none
 inj:∀j k a,μ.pub j=some a->μ.pub k=some a->j=k
 oinj:∀j k a,μ.ob (aG j)=some a->μ.ob (aG k)=some a->j=k
 sep:∀k a,μ.pub k=some a->μ.ob (aG k)=none
 pv:∀a∈μ.priv,(∃vs,H a=some (.lst vs))/\∀k,μ.pub k≠some a
structure a8 (fa:Fa) (K:MF) (μ:Mu) (H:Hp) (σ:L2.St) (Z:Env):Prop where
 len:σ.length=Z.length
 at':∀(i:Nat) (d:D),Z[i]?=some (some d)->∃v,σ[i]?=some (some v)/\Rep fa K μ H d v
section
variable {fa:Fa}{K:MF}{μ μ':Mu}{H H':Hp}{σ:L2.St}{Z:Env}{M:Mem}
theorem a8.ext (h:a8 fa K μ H σ Z)(x:Ext μ H μ' H'):a8 fa K μ' H' σ Z:=
 ⟨h.len,fun i d e=>let ⟨v,h1,h2⟩:=h.at' i d e;⟨v,h1,h2.ext x⟩⟩
theorem a8.set (h:a8 fa K μ H σ Z){i:Nat}{d:D}{v:V}(r:Rep fa K μ H d v):a8 fa K μ H (σ.set i (some v)) (Z.set i (some d)):=by
 refine ⟨by simp [h.len],fun j d' e=>?_⟩
 by_cases hj:j=i
 ·subst hj
  have hl:j<Z.length:=by
   have:=(MH.mp e).1
   simpa using this
  rw [Nf hl] at e
  cases e
  exact ⟨v,Nf (by rw [h.len];exact hl),r⟩
 ·rw [MW (NV hj)] at e
  obtain ⟨u,h1,h2⟩:=h.at' j d' e
  exact ⟨u,by rw [MW (NV hj)];exact h1,h2⟩
theorem a8.extW (h:a8 fa K μ H σ Z)(x:ExtW μ H μ' H'):a8 fa K μ' H' σ Z:=
 ⟨h.len,fun i d e=>let ⟨v,h1,h2⟩:=h.at' i d e;⟨v,h1,h2.extW x⟩⟩
theorem RelM.mu_lt (h:RelM fa K μ H M){k:Nat}{a:Addr}(e:μ.pub k=some a):∃ds vs,M[k]?=some ds/\H a=some (.lst vs)/\aF fa K μ H ds vs:=by
 by_cases hk:k<M.length
 ·rcases h.at' k M[k] (by simp [hk]) with ⟨a',vs,h1,h2,h3⟩|⟨_,_,_,_,_,_,_,z,_⟩
  ·rw [e] at h1;cases h1
   exact ⟨_,vs,by simp [hk],h2,h3⟩
  ·rw [e] at z;cases z
 ·rw [h.out k (by omega)] at e;cases e
theorem RelM.at_ (h:RelM fa K μ H M){k:Nat}{ds:List D}{a:Addr}(e:M[k]?=some ds)(p:μ.pub k=some a):∃vs,H a=some (.lst vs)/\aF fa K μ H ds vs:=by
 obtain ⟨ds',vs,h1,h2,h3⟩:=h.mu_lt p
 rw [e] at h1;cases h1
 exact ⟨vs,h2,h3⟩
theorem RelM.fresh (h:RelM fa K μ H M){p:Addr}(hp:H p=none):¬ μ.Mt p:=fun e=>by
 rcases e with ⟨k,e⟩|e
 ·obtain ⟨ds,vs,_,h2,_⟩:=h.mu_lt e
  rw [hp] at h2;cases h2
 ·obtain ⟨⟨vs,h2⟩,_⟩:=h.pv p e
  rw [hp] at h2;cases h2
theorem RelM.pne (h:RelM fa K μ H M){p a:Addr}(hp:H p=none)(ha:a∈μ.priv):a≠p:=fun e=>by
 obtain ⟨⟨vs,h2⟩,_⟩:=h.pv a ha
 rw [e,hp] at h2;cases h2
theorem Ext.alloc {p:Addr}{o:HO}(h:RelM fa K μ H M)(hp:H p=none):Ext μ H μ (upd H p o):=by
 have rd:∀a u,Rd H a u->Rd (upd H p o) a u:=fun a u h=>by
  rcases h with h|⟨ob,h⟩
  ·exact .inl (by rw [ax (aP h hp)];exact h)
  ·exact .inr ⟨ob,by rw [ax (aP h hp)];exact h⟩
 exact ⟨⟨fun _ _ h=>h,fun a vs h=>rd a _ h,fun a vs h n=>⟨by rw [ax (aP h hp)];exact h,n⟩,fun a ob u h=>by rw [ax (aP h hp)];exact h,fun a o _ h=>by rw [ax (aP h hp)];exact h,fun _ _ h=>h⟩,rfl,fun a ha=>by rw [ax (h.pne hp ha)]⟩
theorem RelM.alloc (h:RelM fa K μ H M){p:Addr}{o:HO}(hp:H p=none):RelM fa K μ (upd H p o) M:=
 ⟨fun k ds e=>(h.at' k ds e).imp (fun ⟨a,vs,h1,h2,h3⟩=>⟨a,vs,h1,by rw [ax (aP h2 hp)];exact h2,h3.ext (Ext.alloc h hp)⟩) fun ⟨a,c,C,dx,fs,es,h1,h2,h3,h4,h5,h6,h7⟩=>⟨a,c,C,dx,fs,es,h1,h2,h3,by rw [ax (aP h4 hp)];exact h4,h5,h6,h7.ext (Ext.alloc h hp)⟩,h.out,h.oout,h.inj,h.oinj,h.sep,fun a ha=>⟨let ⟨⟨vs,e⟩,_⟩:=h.pv a ha;⟨vs,by rw [ax (h.pne hp ha)];exact e⟩,(h.pv a ha).2⟩⟩
noncomputable def fh (μ:Mu)(n:Nat)(p:Addr):Mu:=⟨fun k=>if k=n then some p else μ.pub k,μ.priv,μ.ob⟩
theorem Ext.cell {p:Addr}{o:HO}(h:RelM fa K μ H M)(hp:H p=none):Ext μ H (fh μ M.length p) (upd H p o):=by
 have rd:∀a u,Rd H a u->Rd (upd H p o) a u:=fun a u h=>by
  rcases h with h|⟨ob,h⟩
  ·exact .inl (by rw [ax (aP h hp)];exact h)
  ·exact .inr ⟨ob,by rw [ax (aP h hp)];exact h⟩
 refine ⟨⟨fun k a e=>?_,fun a vs g=>rd a _ g,fun a vs g n=>⟨by rw [ax (aP g hp)];exact g,fun e=>?_⟩,fun a ob u h=>by rw [ax (aP h hp)];exact h,fun a o _ h=>by rw [ax (aP h hp)];exact h,fun _ _ h=>h⟩,rfl,fun a ha=>by rw [ax (h.pne hp ha)]⟩
 ·show (if k=M.length then some p else μ.pub k)=some a
  split
  ·next q=>rw [q,h.out _ (MN _)] at e;cases e
  ·exact e
 ·rcases e with ⟨k,e⟩|e
  ·have e:(if k=M.length then some p else μ.pub k)=some a:=e
   split at e
   ·cases e;exact aP g hp rfl
   ·exact n (.inl ⟨k,e⟩)
  ·exact n (.inr e)
theorem RelM.cell (h:RelM fa K μ H M){p:Addr}{ds:List D}{vs:List V}(hp:H p=none)(r:aF fa K μ H ds vs) :
 RelM fa K (fh μ M.length p) (upd H p (.lst vs)) (M++[ds]):=by
 have x:Ext μ H (fh μ M.length p) (upd H p (.lst vs)):=Ext.cell h hp
 have np:=h.fresh hp
 refine ⟨fun k ds' e=>?_,fun k hk=>?_,fun k hk=>h.oout k (by simp at hk;omega),fun j k a h1 h2=>?_,h.oinj,fun k a z=>?_,fun a ha=>?_⟩
 ·by_cases hk:k<M.length
  ·rw [Nh hk] at e
   rcases h.at' k ds' e with ⟨a,ws,h1,h2,h3⟩|⟨a,c,C,dx,fs,es,h1,h2,h3,h4,h5,h6,h7⟩
   ·exact .inl ⟨a,ws,x.mu k a h1,by rw [ax (aP h2 hp)];exact h2,h3.ext x⟩
   ·exact .inr ⟨a,c,C,dx,fs,es,h1,by show (if k=M.length then some p else μ.pub k)=none;rw [if_neg (Nz hk)];exact h2,h3,by rw [ax (aP h4 hp)];exact h4,h5,h6,h7.ext x⟩
  ·have hk':k=M.length:=by
    have:=(MH.mp e).1
    simp at this;omega
   subst hk'
   rw [NP (MN _)] at e
   simp at e
   subst e
   exact .inl ⟨p,vs,by simp [fh],bt,r.ext x⟩
 ·simp at hk
  show (if k=M.length then some p else μ.pub k)=none
  rw [if_neg (by omega)]
  exact h.out k (by omega)
 ·have h1:(if j=M.length then some p else μ.pub j)=some a:=h1
  have h2:(if k=M.length then some p else μ.pub k)=some a:=h2
  split at h1<;>split at h2
  ·omega
  ·cases h1;exact absurd (.inl ⟨k,h2⟩) np
  ·cases h2;exact absurd (.inl ⟨j,h1⟩) np
  ·exact h.inj j k a h1 h2
 ·have z:(if k=M.length then some p else μ.pub k)=some a:=z
  show μ.ob (aG k)=none
  split at z
  ·next e=>rw [e];exact h.oout _ (MN _)
  ·exact h.sep k a z
 ·obtain ⟨⟨ws,e⟩,n⟩:=h.pv a ha
  refine ⟨⟨ws,by rw [ax (h.pne hp ha)];exact e⟩,fun k e2=>?_⟩
  have e2:(if k=M.length then some p else μ.pub k)=some a:=e2
  split at e2
  ·cases e2;exact h.pne hp ha rfl
  ·exact n k e2
theorem ExtW.write {a:Addr}{vs ws:List V}(h2:H a=some (.lst vs))(e:μ.Mt a):ExtW μ H μ (upd H a (.lst ws)):=by
 have ne:∀b u,Rd H b u->(∀xs,u≠.lst xs)->b≠a:=fun b u g nu q=>by
  subst q
  rcases g with g|⟨ob,g⟩
  ·rw [h2] at g;cases g;exact nu _ rfl
  ·rw [h2] at g;cases g
 have rd:∀b u,b≠a->Rd H b u->Rd (upd H a (.lst ws)) b u:=fun b u nb g=>by
  rcases g with g|⟨ob,g⟩
  ·exact .inl (by rw [ax nb];exact g)
  ·exact .inr ⟨ob,by rw [ax nb];exact g⟩
 exact ⟨fun _ _ q=>q,fun b us g=>rd b _ (ne b _ g (fun xs q=>by cases q)) g,fun b us g n=>⟨by rw [ax (fun q=>n (by rw [q];exact e))];exact g,n⟩,fun b ob u g=>by rw [ax (fun q=>by rw [q,h2] at g;cases g)];exact g,fun b o i g=>by rw [ax (fun q=>by rw [q,h2] at g;cases g;rcases i with ⟨_,i⟩|⟨_,i⟩<;>cases i)];exact g,fun _ _ q=>q⟩
theorem Ext.write {k:Nat}{a:Addr}{vs ws:List V}(h:RelM fa K μ H M)(e:μ.pub k=some a):Ext μ H μ (upd H a (.lst ws)):=by
 obtain ⟨ds,vs,_,h2,_⟩:=h.mu_lt e
 exact ⟨ExtW.write h2 (.inl ⟨k,e⟩),rfl,fun b hb=>by rw [ax (fun q=>(h.pv b hb).2 k (by rw [q];exact e))]⟩
theorem RelM.write (h:RelM fa K μ H M){k:Nat}{a:Addr}{ds:List D}{ws:List V}(e:μ.pub k=some a)(r:aF fa K μ H ds ws):RelM fa K μ (upd H a (.lst ws)) (M.set k ds):=by
 have x:Ext μ H μ (upd H a (.lst ws)):=Ext.write (vs:=ws) h e
 refine ⟨fun j es q=>?_,fun j hj=>h.out j (by simpa using hj),fun j hj=>h.oout j (by simpa using hj),h.inj,h.oinj,h.sep,fun b hb=>⟨let ⟨⟨vs,g⟩,_⟩:=h.pv b hb;⟨vs,by rw [x.pk b hb];exact g⟩,(h.pv b hb).2⟩⟩
 by_cases hj:j=k
 ·subst hj
  have hl:j<M.length:=by have:=(MH.mp q).1;simpa using this
  rw [Nf hl] at q
  cases q
  exact .inl ⟨a,ws,e,bt,r.ext x⟩
 ·rw [MW (NV hj)] at q
  rcases h.at' j es q with ⟨b,vs,h1,h2,h3⟩|⟨b,c,C,dx,fs,es,h1,h2,h3,h4,h5,h6,h7⟩
  ·have nb:b≠a:=fun z=>hj (h.inj j k a (z ▸ h1) e)
   exact .inl ⟨b,vs,h1,by rw [ax nb];exact h2,h3.ext x⟩
  ·obtain ⟨_,_,_,hl,_⟩:=h.mu_lt e
   have nb:b≠a:=fun z=>by rw [z,hl] at h4;cases h4
   exact .inr ⟨b,c,C,dx,fs,es,h1,h2,h3,by rw [ax nb];exact h4,h5,h6,h7.ext x⟩
end
noncomputable def ag {α:Type}(r:Res α)(k:α->Mem->Prop):Prop:=match r with
 |.ok a M=>k a M
 |_=>False
theorem aI {α β:Type}{r:Res α}{f:α->Mem->Res β}{k:β->Mem->Prop}(h:ag (r.bind f) k):∃a M,r=.ok a M/\ag (f a M) k:=by
 cases r with
 |ok a M=>exact ⟨a,M,rfl,h⟩
 |err=>exact h.elim
 |bad=>exact h.elim
theorem jZ {α:Type}{M:Mem}{o:Option α}{k:α->Mem->Prop}(h:ag (bK M o) k):∃a,o=some a/\k a M:=by
 cases o with
 |none=>exact h.elim
 |some a=>exact ⟨a,rfl,h⟩
theorem aO {α:Type}{r:Res α}{k k':α->Mem->Prop}(h:ag r k)(m:∀a M,k a M->k' a M):ag r k':=by
 cases r with
 |ok a M=>exact m a M h
 |err=>exact h
 |bad=>exact h
section
variable (fa:Fa)(K:MF)
noncomputable def aY (μ:Mu)(H:Hp)(Q:VK)(d:D)(M':Mem):Prop:=∀v H' μ',Ext μ H μ' H'->RelM fa K μ' H' M'->Rep fa K μ' H' d v->Q v H'
noncomputable def tE (g:Env->Mem->Res D):TE:=fun σ H Q=>∃μ Z M,a8 fa K μ H σ Z/\RelM fa K μ H M/\ag (g Z M) (aY fa K μ H Q)
noncomputable def tT (g:Env->Mem->Res Bool):TT:=fun σ H Q=>∃μ Z M,a8 fa K μ H σ Z/\RelM fa K μ H M/\ag (g Z M) fun b M'=>∀H' μ',Ext μ H μ' H'->RelM fa K μ' H' M'->Q b H'
noncomputable def tA (g:Env->Mem->Res (List D)):TA:=fun σ H Q=>∃μ Z M,a8 fa K μ H σ Z/\RelM fa K μ H M/\ag (g Z M) fun ds M'=>∀vs H' μ',Ext μ H μ' H'->RelM fa K μ' H' M'->aF fa K μ' H' ds vs->Q vs H'
end
noncomputable def lX (New:Addr->Prop)(C:Addr)(dx:Option Addr)(a:Addr)(h:Heap)(H:Hp):Prop:=New a/\H a=none/\∃o vs,h.get? a=some o/\o.cls=.ref C/\o.dict=dx/\o.data=.fields vs/\
 (vs[1]?=some .none\/∃T oT ts,vs[1]?=some (.ref T)/\T≠a/\New T/\H T=none/\h.get? T=some oT/\oT.data=.fields ts/\ts[3]?=some .none)
noncomputable def lV (X:Cx)(b:Addr):Prop:=X.s₀.heap.get? b=none/\∀p∈X.pn,p.1≠b
noncomputable def XW (fa:Fa)(X:Cx)(μ:Mu)(H:Hp)(x:D)(Z:Env)(M:Mem):Prop:=∀pins σ' H' μ' s' a C dx c p,Inv X pins σ' H' s'->Ext μ H μ' H'->a8 fa X.K μ' H' σ' Z->RelM fa X.K μ' H' M->x=.exc c p->fa (eI c)=some C->tP H' c dx p->lX (lV X) C dx a s'.heap H'->X.xe (.ref a) s'
noncomputable def mQ (fa:Fa)(X:Cx)(μ:Mu)(H:Hp)(D:Ends):Fl->Mem->Prop
 |.next ρ',M'=>∀σ' H' μ',Ext μ H μ' H'->a8 fa X.K μ' H' σ' ρ'->RelM fa X.K μ' H' M'->D.nx σ' H'
 |.ret d,M'=>aY fa X.K μ H D.rt d M'
 |.exc x ρ',M'=>XW fa X μ H x ρ' M'
noncomputable def tF (fa:Fa)(X:Cx)(g:Env->Mem->Res Fl):TS:=fun D σ H=>∃μ Z M,a8 fa X.K μ H σ Z/\RelM fa X.K μ H M/\ag (g Z M) (mQ fa X μ H D)
theorem XW.ext {fa:Fa}{X:Cx}{μ μ':Mu}{H H':Hp}{x:D}{Z:Env}{M:Mem}(h:XW fa X μ H x Z M)(y:Ext μ H μ' H'):XW fa X μ' H' x Z M:=fun pins σ1 H1 μ1 s1 a C dx c p I e=>h pins σ1 H1 μ1 s1 a C dx c p I (y.trans e)
section
variable {fa:Fa}{K:MF}{μ μ':Mu}{H H':Hp}{Q:VK}
theorem aY.ext {d:D}{M:Mem}(h:aY fa K μ H Q d M)(x:Ext μ H μ' H'):aY fa K μ' H' Q d M:=fun v H'' μ'' y m r=>h v H'' μ'' (x.trans y) m r
theorem jz {r:Res D}(h:ag r (aY fa K μ H Q))(x:Ext μ H μ' H'):ag r (aY fa K μ' H' Q):=aO h fun _ _ w=>w.ext x
end
theorem br {X:Cx}{e:Expr}{t t':TE}(h:PE X e t)(i:∀σ H Q,t' σ H Q->t σ H Q):PE X e t':=fun pins s σ H Q I q=>h pins s σ H Q I (i σ H Q q)
theorem jW {X:Cx}{e:Expr}{t t':TT}(h:PT X e t)(i:∀σ H Q,t' σ H Q->t σ H Q):PT X e t':=fun pins s σ H Q I q=>h pins s σ H Q I (i σ H Q q)
theorem xH {X:Cx}{e:Expr}{t t':TT}(h:PW X e t)(i:∀σ H Q,t' σ H Q->t σ H Q):PW X e t':=fun w pins s σ H Q I q=>h w pins s σ H Q I (i σ H Q q)
theorem xX {X:Cx}{e:List Expr}{t t':TA}(h:PA X e t)(i:∀σ H Q,t' σ H Q->t σ H Q):PA X e t':=fun pos pins s σ H Q I q=>h pos pins s σ H Q I (i σ H Q q)
theorem dY {X:Cx}{e:Stmt}{t t':TS}(h:PS X e t)(i:∀D σ H,t' D σ H->t D σ H):PS X e t':=fun pins s σ H D I q=>h pins s σ H D I (i D σ H q)
theorem uA {X:Cx}{e:List Stmt}{t t':TS}(h:lU X e t)(i:∀D σ H,t' D σ H->t D σ H):lU X e t':=fun pins s σ H D I q=>h pins s σ H D I (i D σ H q)
section
variable {fa:Fa}{K:MF}{μ:Mu}{H:Hp}{σ:L2.St}{Z:Env}{M:Mem}
theorem t1 {g:Env->Mem->Res D}{β:Type}{f:D->Mem->Res β}{P:β->Mem->Prop}{R:V->Hp->Prop}(hE:a8 fa K μ H σ Z)(hM:RelM fa K μ H M)(h:ag ((g Z M).bind f) P)
 (k:∀x M1 v H1 μ1,Ext μ H μ1 H1->a8 fa K μ1 H1 σ Z->RelM fa K μ1 H1 M1->Rep fa K μ1 H1 x v->ag (f x M1) P->R v H1):tE fa K g σ H R:=by
 obtain ⟨x,M1,e,q⟩:=aI h
 refine ⟨μ,Z,M,hE,hM,?_⟩
 rw [e]
 exact fun v H1 μ1 x1 m1 r1=>k x M1 v H1 μ1 x1 (hE.ext x1) m1 r1 q
theorem xj {g:Env->Mem->Res Bool}{β:Type}{f:Bool->Mem->Res β}{P:β->Mem->Prop}{R:Bool->Hp->Prop}(hE:a8 fa K μ H σ Z)(hM:RelM fa K μ H M)(h:ag ((g Z M).bind f) P)
 (k:∀b M1 H1 μ1,Ext μ H μ1 H1->a8 fa K μ1 H1 σ Z->RelM fa K μ1 H1 M1->ag (f b M1) P->R b H1):tT fa K g σ H R:=by
 obtain ⟨b,M1,e,q⟩:=aI h
 refine ⟨μ,Z,M,hE,hM,?_⟩
 rw [e]
 exact fun H1 μ1 x1 m1=>k b M1 H1 μ1 x1 (hE.ext x1) m1 q
theorem pQ {g:Env->Mem->Res (List D)}{β:Type}{f:List D->Mem->Res β}{P:β->Mem->Prop}{R:List V->Hp->Prop}(hE:a8 fa K μ H σ Z)(hM:RelM fa K μ H M)(h:ag ((g Z M).bind f) P)
 (k:∀ds M1 vs H1 μ1,Ext μ H μ1 H1->a8 fa K μ1 H1 σ Z->RelM fa K μ1 H1 M1->aF fa K μ1 H1 ds vs->ag (f ds M1) P->R vs H1):tA fa K g σ H R:=by
 obtain ⟨ds,M1,e,q⟩:=aI h
 refine ⟨μ,Z,M,hE,hM,?_⟩
 rw [e]
 exact fun v H1 μ1 x1 m1 r1=>k ds M1 v H1 μ1 x1 (hE.ext x1) m1 r1 q
end
end LD
namespace LD
open PySem PySem.Spec PyProof.Rows L2
mutual
noncomputable def toPy:D->PyData
 |.non=>.none
 |.bl b=>.bool b
 |.int i=>.int i
 |.str x=>.str x
 |.tup ds=>.tuple (bZ ds)
 |.lst ds=>.list (bZ ds)
 |.frz _=>.none
 |.cell _=>.none
 |.fn _=>.none
 |.exc _ _=>.none
noncomputable def bZ:List D->List PyData
 |[]=>[]
 |d::r=>toPy d::bZ r
end
theorem oN:∀(n:Nat) (d:D),aA n d=true->(toPy d).canLay0=true/\(toPy d).depth<=n:=by
 have all:∀(n:Nat),(∀d,aA n d=true->(toPy d).canLay0=true/\(toPy d).depth<=n)->∀ds:List D,ds.all (aA n)=true->PyData.canLayAll0 (bZ ds)=true/\PyData.depthAll (bZ ds)<=n:=by
  intro n h ds
  induction ds with
  |nil=>intro _;simp [bZ,PyData.canLayAll0,PyData.depthAll]
  | cons d r ih =>
    intro q
    simp only [Ny,MM] at q
    obtain ⟨h1,h2⟩:=h d q.1
    obtain ⟨h3,h4⟩:=ih q.2
    simp only [bZ,PyData.canLayAll0,PyData.depthAll,h1,h3,Bool.and_self,true_and]
    omega
 intro n
 induction n with
 | zero =>
   intro d h
   cases d with
   |str x=>exact ⟨by simpa [toPy,PyData.canLay0,PyData.strOk,aA] using h,by simp [toPy,PyData.depth]⟩
   |tup _=>simp [aA] at h
   |lst _=>simp [aA] at h
   |frz _=>simp [aA] at h
   |cell _=>simp [aA] at h
   |fn _=>simp [aA] at h
   |exc y p=>simp [aA] at h
   |_=>exact ⟨by simp [toPy,PyData.canLay0],by simp [toPy,PyData.depth]⟩
 | succ n ih =>
   intro d h
   cases d with
   |str x=>exact ⟨by simpa [toPy,PyData.canLay0,PyData.strOk,aA] using h,by simp [toPy,PyData.depth]⟩
   | tup ds =>
     obtain ⟨h1,h2⟩:=all n ih ds (by simpa [aA] using h)
     simp only [toPy,PyData.canLay0,PyData.depth,h1,true_and]
     omega
   | lst ds =>
     obtain ⟨h1,h2⟩:=all n ih ds (by simpa [aA] using h)
     simp only [toPy,PyData.canLay0,PyData.depth,h1,true_and]
     omega
   |frz _=>simp [aA] at h
   |cell _=>simp [aA] at h
   |fn _=>simp [aA] at h
   |exc y p=>simp [aA] at h
   |_=>exact ⟨by simp [toPy,PyData.canLay0],by simp [toPy,PyData.depth]⟩
theorem jy {d:D}(h:aA 64 d=true):SeqAt.shaped (toPy d)=true:=by
 obtain ⟨h1,h2⟩:=oN 64 d h
 simp [SeqAt.shaped,h1,h2]
mutual
theorem mr:∀(n m:Nat) (a b:D),aA n a=true->aA m b=true->PyData.eqv (toPy a) (toPy b)=fz a b
 | n, m, .tup a, .tup b, ha, hb => by
   cases n with
   |zero=>simp [aA] at ha
   | succ n =>
     cases m with
     |zero=>simp [aA] at hb
     | succ m =>
       exact nt n m a b (by simpa [aA] using ha) (by simpa [aA] using hb)
 | n, m, .lst a, .lst b, ha, hb => by
   cases n with
   |zero=>simp [aA] at ha
   | succ n =>
     cases m with
     |zero=>simp [aA] at hb
     | succ m =>
       exact nt n m a b (by simpa [aA] using ha) (by simpa [aA] using hb)
 |n,m,.frz _,_,ha,hb=>by cases n<;>simp [aA] at ha
 |n,m,.cell _,_,ha,hb=>by cases n<;>simp [aA] at ha
 |n,m,.fn _,_,ha,hb=>by cases n<;>simp [aA] at ha
 |n,m,.exc _ _,_,ha,hb=>by cases n<;>simp [aA] at ha
 |n,m,_,.frz _,ha,hb=>by cases m<;>simp [aA] at hb
 |n,m,_,.cell _,ha,hb=>by cases m<;>simp [aA] at hb
 |n,m,_,.fn _,ha,hb=>by cases m<;>simp [aA] at hb
 |n,m,_,.exc _ _,ha,hb=>by cases m<;>simp [aA] at hb
 |_,_,.non,.non,_,_=>by first|rfl|simp [toPy,PyData.eqv];rfl
 |_,_,.non,.bl _,_,_=>by first|rfl|simp [toPy,PyData.eqv];rfl
 |_,_,.non,.int _,_,_=>by first|rfl|simp [toPy,PyData.eqv];rfl
 |_,_,.non,.str _,_,_=>by first|rfl|simp [toPy,PyData.eqv];rfl
 |_,_,.non,.tup _,_,_=>by first|rfl|simp [toPy,PyData.eqv];rfl
 |_,_,.non,.lst _,_,_=>by first|rfl|simp [toPy,PyData.eqv];rfl
 |_,_,.bl _,.non,_,_=>by first|rfl|simp [toPy,PyData.eqv];rfl
 |_,_,.bl _,.bl _,_,_=>by first|rfl|simp [toPy,PyData.eqv];rfl
 |_,_,.bl _,.int _,_,_=>by first|rfl|simp [toPy,PyData.eqv];rfl
 |_,_,.bl _,.str _,_,_=>by first|rfl|simp [toPy,PyData.eqv];rfl
 |_,_,.bl _,.tup _,_,_=>by first|rfl|simp [toPy,PyData.eqv];rfl
 |_,_,.bl _,.lst _,_,_=>by first|rfl|simp [toPy,PyData.eqv];rfl
 |_,_,.int _,.non,_,_=>by first|rfl|simp [toPy,PyData.eqv];rfl
 |_,_,.int _,.bl _,_,_=>by first|rfl|simp [toPy,PyData.eqv];rfl
 |_,_,.int _,.int _,_,_=>by first|rfl|simp [toPy,PyData.eqv];rfl
 |_,_,.int _,.str _,_,_=>by first|rfl|simp [toPy,PyData.eqv];rfl
 |_,_,.int _,.tup _,_,_=>by first|rfl|simp [toPy,PyData.eqv];rfl
 |_,_,.int _,.lst _,_,_=>by first|rfl|simp [toPy,PyData.eqv];rfl
 |_,_,.str _,.non,_,_=>by first|rfl|simp [toPy,PyData.eqv];rfl
 |_,_,.str _,.bl _,_,_=>by first|rfl|simp [toPy,PyData.eqv];rfl
 |_,_,.str _,.int _,_,_=>by first|rfl|simp [toPy,PyData.eqv];rfl
 |_,_,.str _,.str _,_,_=>by first|rfl|simp [toPy,PyData.eqv];rfl
 |_,_,.str _,.tup _,_,_=>by first|rfl|simp [toPy,PyData.eqv];rfl
 |_,_,.str _,.lst _,_,_=>by first|rfl|simp [toPy,PyData.eqv];rfl
 |_,_,.tup _,.non,_,_=>by first|rfl|simp [toPy,PyData.eqv];rfl
 |_,_,.tup _,.bl _,_,_=>by first|rfl|simp [toPy,PyData.eqv];rfl
 |_,_,.tup _,.int _,_,_=>by first|rfl|simp [toPy,PyData.eqv];rfl
 |_,_,.tup _,.str _,_,_=>by first|rfl|simp [toPy,PyData.eqv];rfl
 |_,_,.tup _,.lst _,_,_=>by first|rfl|simp [toPy,PyData.eqv];rfl
 |_,_,.lst _,.non,_,_=>by first|rfl|simp [toPy,PyData.eqv];rfl
 |_,_,.lst _,.bl _,_,_=>by first|rfl|simp [toPy,PyData.eqv];rfl
 |_,_,.lst _,.int _,_,_=>by first|rfl|simp [toPy,PyData.eqv];rfl
 |_,_,.lst _,.str _,_,_=>by first|rfl|simp [toPy,PyData.eqv];rfl
 |_,_,.lst _,.tup _,_,_=>by first|rfl|simp [toPy,PyData.eqv];rfl
theorem nt:∀(n m:Nat) (a b:List D),a.all (aA n)=true->b.all (aA m)=true->PyData.eqvAll (bZ a) (bZ b)=iE a b
 |n,m,[],[],_,_=>by simp [bZ,PyData.eqvAll,iE]
 |n,m,[],_::_,_,_=>by simp [bZ,PyData.eqvAll,iE]
 |n,m,_::_,[],_,_=>by simp [bZ,PyData.eqvAll,iE]
 | n, m, x :: a, y :: b, ha, hb => by
   simp only [Ny,MM] at ha hb
   simp only [bZ,PyData.eqvAll,iE]
   rw [mr n m x y ha.1 hb.1,nt n m a b ha.2 hb.2]
end
section
variable {fa:Fa}{X:Cx}{μ:Mu}{H:Hp}{σ:L2.St}{pins:List (Addr×Obj)}{s:MI}{M:Mem}
theorem jh {d:D}{v:V}{ds:List D}(hM:RelM fa X.K μ H M)(h:Rep fa X.K μ H d v)(e:jn M d=some ds):∃a vs,v=.ref a/\H a=some (.lst vs)/\aF fa X.K μ H ds vs:=by
 cases d with
 | lst xs =>
   cases e
   obtain ⟨a,vs,e,s,r⟩:=h
   exact ⟨a,vs,e,s.1,r⟩
 | cell k =>
   obtain ⟨a,rfl,hk⟩:=h
   obtain ⟨vs,h2,h3⟩:=hM.at_ e hk
   exact ⟨a,vs,rfl,h2,h3⟩
 |_=>cases e
theorem bB {d:D}{v:V}{ds:List D}(hM:RelM fa X.K μ H M)(h:Rep fa X.K μ H d v)(e:eF M d=some ds):∃a vs,v=.ref a/\bV X.K H a vs/\aF fa X.K μ H ds vs:=by
 cases d with
 | lst xs =>
   obtain ⟨a,vs,h1,h2,h3⟩:=jh (ds:=ds) hM h e
   exact ⟨a,vs,h1,.of h2,h3⟩
 | frz xs =>
   cases e
   obtain ⟨a,vs,e,s,r⟩:=h
   exact ⟨a,vs,e,s.elim (fun z=>.inl (.inr z)) .inr,r⟩
 | cell k =>
   obtain ⟨a,vs,h1,h2,h3⟩:=jh (ds:=ds) hM h e
   exact ⟨a,vs,h1,.of h2,h3⟩
 |_=>cases e
theorem jg {d:D}{v:V}{ds:List D}(hM:RelM fa X.K μ H M)(h:Rep fa X.K μ H d v)(e:bG M d=some ds):∃a vs,v=.ref a/\(bV X.K H a vs\/di X.K H a vs)/\aF fa X.K μ H ds vs:=by
 cases d with
 | tup xs =>
   cases e
   obtain ⟨a,vs,rfl,h1,h2⟩:=h
   exact ⟨a,vs,rfl,.inr h1,h2⟩
 | lst xs =>
   obtain ⟨a,vs,h1,h2,h3⟩:=bB (ds:=ds) hM h e
   exact ⟨a,vs,h1,.inl h2,h3⟩
 | frz xs =>
   obtain ⟨a,vs,h1,h2,h3⟩:=bB (ds:=ds) hM h e
   exact ⟨a,vs,h1,.inl h2,h3⟩
 | cell k =>
   obtain ⟨a,vs,h1,h2,h3⟩:=bB (ds:=ds) hM h e
   exact ⟨a,vs,h1,.inl h2,h3⟩
 |_=>cases e
mutual
theorem dD (I:Inv X pins σ H s):∀(d:D) (n:Nat) (v:V) (u:MG),aA n d=true->Rep fa X.K μ H d v->RelV v u->∃as,Reads s.heap u (toPy d) as
 | .non, n, v, u, _, h, r => by
   obtain rfl:v=.non:=h
   obtain rfl:u=Value.none:=r
   exact ⟨_,.none⟩
 | .bl b, n, v, u, _, h, r => by
   obtain rfl:v=.bl b:=h
   obtain rfl:u=Value.bool b:=r
   exact ⟨_,.bool b⟩
 | .int i, n, v, u, _, h, r => by
   obtain rfl:v=.int i:=h
   obtain ⟨t,rfl⟩:=r
   exact ⟨_,.int i t⟩
 | .str x, n, v, u, _, h, r => by
   obtain rfl:v=.str x:=h
   obtain ⟨t,rfl⟩:=r
   exact ⟨_,.str x t⟩
 | .tup ds, n, v, u, hp, h, r => by
   cases n with
   |zero=>simp [aA] at hp
   | succ n =>
     obtain ⟨a,vs,rfl,h1,h2⟩:=h
     obtain rfl:u=Value.ref a:=r
     obtain ⟨its,rv,⟨o,e1,e2,k,e3⟩,_⟩:=I.tuple h1
     obtain ⟨as,q⟩:=ff I ds n vs its (by simpa [aA] using hp) h2 rv
     exact ⟨_,.tuple e1 e2 e3 (by simpa using q)⟩
 | .lst ds, n, v, u, hp, h, r => by
   cases n with
   |zero=>simp [aA] at hp
   | succ n =>
     obtain ⟨a,vs,rfl,h1,h2⟩:=h
     obtain rfl:u=Value.ref a:=r
     obtain ⟨its,rv,⟨o,k,e1,e2,e4,e3⟩,_⟩:=I.list (bV.of h1.1)
     obtain ⟨as,q⟩:=ff I ds n vs its (by simpa [aA] using hp) h2 rv
     exact ⟨_,.list e1 e2 e3 (by simpa using q)⟩
 |.frz k,n,v,u,hp,_,_=>by cases n<;>simp [aA] at hp
 |.cell k,n,v,u,hp,_,_=>by cases n<;>simp [aA] at hp
 |.fn f,n,v,u,hp,_,_=>by cases n<;>simp [aA] at hp
 |.exc _ _,n,v,u,hp,_,_=>by cases n<;>simp [aA] at hp
theorem ff (I:Inv X pins σ H s):∀(ds:List D) (n:Nat) (vs:List V) (us:List MG),ds.all (aA n)=true->aF fa X.K μ H ds vs->Vals vs us->∃as,ReadsAll s.heap us (bZ ds) as
 | [], n, vs, us, _, h, r => by
   obtain rfl:vs=[]:=h
   cases r
   exact ⟨_,.nil⟩
 | d :: ds, n, vs, us, hp, h, r => by
   obtain ⟨v,vr,rfl,h1,h2⟩:=h
   simp only [Ny,MM] at hp
   cases r with
   | cons r1 r2 =>
     obtain ⟨as,q1⟩:=dD I d n v _ hp.1 h1 r1
     obtain ⟨bs,q2⟩:=ff I ds n vr _ hp.2 h2 r2
     exact ⟨_,.cons q1 q2⟩
end
theorem Dh {d:D}{n:Nat}(h:aA n (view M d)=true):(view M d=d/\aA n d=true)\/∃ds,eF M d=some ds/\view M d=.lst ds:=by
 cases d with
 | cell k =>
   cases e:M[k]? with
   | none =>
     have ev:view M (.cell k)=.cell k:=by simp [view,e]
     rw [ev] at h
     cases n<;>simp [aA] at h
   |some ds=>exact .inr ⟨ds,e,by simp [view,e]⟩
 |frz ds=>exact .inr ⟨ds,rfl,rfl⟩
 |_=>exact .inl ⟨rfl,h⟩
theorem kn (I:Inv X pins σ H s)(hM:RelM fa X.K μ H M){d:D}{v:V}{u:MG}(hp:aA 64 (view M d)=true)(h:Rep fa X.K μ H d v)(r:RelV v u):∃as,Reads s.heap u (toPy (view M d)) as:=by
 rcases Dh hp with ⟨e,hp'⟩|⟨ds,e,ev⟩
 ·rw [e];exact dD I _ 64 v u hp' h r
 ·rw [ev] at hp ⊢
  obtain ⟨a,vs,rfl,h1,h2⟩:=bB (ds:=ds) hM h e
  obtain rfl:u=Value.ref a:=r
  obtain ⟨its,rv,⟨o,k,e1,e2,e4,e3⟩,_⟩:=I.list h1
  obtain ⟨as,q⟩:=ff I ds 63 vs its (by simpa [aA] using hp) h2 rv
  exact ⟨_,.list e1 e2 e3 (by simpa using q)⟩
theorem jM (I:Inv X pins σ H s)(hM:RelM fa X.K μ H M):∀(n m:Nat) (d:D) (v:V) (u:MG),aA m (cU n M d)=true->Rep fa X.K μ H d v->RelV v u->∃as,Reads s.heap u (toPy (cU n M d)) as
 |0,m,d,v,u,hp,h,r=>dD I d m v u hp h r
 | n + 1, m, d, v, u, hp, h, r => by
   have ih:=jM I hM n
   have all:∀(m:Nat) (ds:List D) (vs:List V) (us:List MG),(ds.map (cU n M)).all (aA m)=true->aF fa X.K μ H ds vs->Vals vs us->∃as,ReadsAll s.heap us (bZ (ds.map (cU n M))) as:=by
    intro m ds
    induction ds with
    | nil =>
      intro vs us _ h r
      obtain rfl:vs=[]:=h
      cases r
      exact ⟨_,.nil⟩
    | cons d ds ihl =>
      intro vs us hp h r
      obtain ⟨v,vr,rfl,h1,h2⟩:=h
      simp only [NQ,Ny,MM] at hp
      cases r with
      | cons r1 r2 =>
        obtain ⟨as,q1⟩:=ih m d v _ hp.1 h1 r1
        obtain ⟨bs,q2⟩:=ihl vr _ hp.2 h2 r2
        exact ⟨_,.cons q1 q2⟩
   have lst:∀(ds:List D) (a:Addr) (vs:List V),aA m (.lst (ds.map (cU n M)))=true->bV X.K H a vs->aF fa X.K μ H ds vs->u=.ref a->∃as,Reads s.heap u (toPy (.lst (ds.map (cU n M)))) as:=by
    intro ds a vs hp h1 h2 e
    subst e
    cases m with
    |zero=>simp [aA] at hp
    | succ m =>
      obtain ⟨its,rv,⟨o,k,e1,e2,e4,e3⟩,_⟩:=I.list h1
      obtain ⟨as,q⟩:=all m ds vs its (by simpa [aA] using hp) h2 rv
      exact ⟨_,.list e1 e2 e3 (by simpa using q)⟩
   cases d with
   | cell k =>
     cases e:M[k]? with
     | none =>
       have ev:cU (n+1) M (.cell k)=.cell k:=by simp [cU,e]
       rw [ev] at hp
       cases m<;>simp [aA] at hp
     | some ds =>
       have ev:cU (n+1) M (.cell k)=.lst (ds.map (cU n M)):=by simp [cU,e]
       rw [ev] at hp ⊢
       obtain ⟨a,vs,rfl,h1,h2⟩:=bB (ds:=ds) hM h e
       exact lst ds a vs hp h1 h2 r
   | frz ds =>
     obtain ⟨a,vs,rfl,h1,h2⟩:=bB (ds:=ds) hM h rfl
     exact lst ds a vs hp h1 h2 r
   | lst ds =>
     obtain ⟨a,vs,rfl,h1,h2⟩:=bB (ds:=ds) hM h rfl
     exact lst ds a vs hp h1 h2 r
   | tup ds =>
     have hp:aA m (.tup (ds.map (cU n M)))=true:=hp
     cases m with
     |zero=>simp [aA] at hp
     | succ m =>
       obtain ⟨a,vs,rfl,h1,h2⟩:=h
       obtain rfl:u=Value.ref a:=r
       obtain ⟨its,rv,⟨o,e1,e2,k,e3⟩,_⟩:=I.tuple h1
       obtain ⟨as,q⟩:=all m ds vs its (by simpa [aA] using hp) h2 rv
       exact ⟨_,.tuple e1 e2 e3 (by simpa using q)⟩
   |non=>exact dD I .non m v u hp h r
   |bl b=>exact dD I (.bl b) m v u hp h r
   |int i=>exact dD I (.int i) m v u hp h r
   |str x=>exact dD I (.str x) m v u hp h r
   |fn f=>exact dD I (.fn f) m v u hp h r
   |exc y p=>exact dD I (.exc y p) m v u hp h r
abbrev Rm (X:Cx):Prop:=X.A.units+100<cLine
noncomputable def gp (fa:Fa)(K:MF)(o:iJ):R2:=fun x y H Q=>∃μ M dx dy b,RelM fa K μ H M/\Rep fa K μ H dx x/\Rep fa K μ H dy y/\bx o dx dy M=some b/\Q (.bl b) H
theorem sT {a b:D}{k:Bool}(hs:(gM a&&gM b)=false)(h:sU a b=some k):aA 64 a=true/\aA 64 b=true/\k=fz a b:=by
 unfold sU at h
 rw [hs,Bool.false_or] at h
 split at h
 ·next q=>
  simp only [MM] at q
  exact ⟨q.1,q.2,(MO h).symm⟩
 ·cases h
theorem sM (d:D):gM (view M d)=gM d:=by
 cases d with
 |cell k=>cases e:M[k]?<;>simp [view,e,gM]
 |_=>rfl
theorem qj (n:Nat)(d:D):gM (cU n M d)=gM d:=by
 cases n with
 |zero=>rfl
 | succ n =>
   cases d with
   |cell k=>cases e:M[k]?<;>simp [cU,e,gM]
   |_=>rfl
theorem qo (I:Inv X pins σ H s)(hM:RelM fa X.K μ H M){a b:D}{x y:V}{v u:MG}{k:Bool}(hs:(gM a&&gM b)=false)(h:lM M a b=some k)(h1:Rep fa X.K μ H a x)(h2:Rep fa X.K μ H b y)(rx:RelV x v)(ry:RelV y u) :
 ∃c e as bs,aA 64 c=true/\aA 64 e=true/\k=fz c e/\Reads s.heap v (toPy c) as/\Reads s.heap u (toPy e) bs:=by
 unfold lM at h
 cases q:sU (view M a) (view M b) with
 | some r =>
   rw [q] at h
   cases h
   obtain ⟨p1,p2,e⟩:=sT (by rw [sM,sM];exact hs) q
   obtain ⟨as,r1⟩:=kn I hM p1 h1 rx
   obtain ⟨bs,r2⟩:=kn I hM p2 h2 ry
   exact ⟨_,_,as,bs,p1,p2,e,r1,r2⟩
 | none =>
   rw [q] at h
   obtain ⟨p1,p2,e⟩:=sT (by rw [qj,qj];exact hs) h
   obtain ⟨as,r1⟩:=jM I hM 64 64 a x v p1 h1 rx
   obtain ⟨bs,r2⟩:=jM I hM 64 64 b y u p2 h2 ry
   exact ⟨_,_,as,bs,p1,p2,e,r1,r2⟩
theorem rJ {a b:D}(h:(gM a&&gM b)=true):∃x y,a=.str x/\b=.str y:=by
 cases a with
 | str x =>
   cases b with
   |str y=>exact ⟨x,y,rfl,rfl⟩
   |_=>cases h
 |_=>cases h
theorem uT {x y:Str}:lM M (.str x) (.str y)=some (x==y):=by
 have e:fz (.str x) (.str y)=(x==y):=rfl
 rw [<- e];rfl
theorem Mc (hu:Rm X):bz X (compareOp .Eq) (gp fa X.K .eq):=by
 intro pins s σ H x y v u Q I rx ry h
 obtain ⟨μ,M,dx,dy,b,hM,h1,h2,e,q⟩:=h
 cases hs:gM dx&&gM dy with
 | true =>
   obtain ⟨i,j,rfl,rfl⟩:=rJ hs
   obtain rfl:x=.str i:=h1
   obtain rfl:y=.str j:=h2
   obtain rfl:(i==j)=b:=MO (uT.symm.trans e)
   exact Jy pins s σ H _ _ v u Q I rx ry ⟨rfl,by rw [mx];exact q⟩
 | false =>
   obtain ⟨_,_,as,bs,p1,p2,rfl,r1,r2⟩:=qo I hM hs (show lM M dx dy=some b from e) h1 h2 rx ry
   refine SeqAt.compareEq_shaped r1 r2 (jy p1) (jy p2) (by unfold Rm at hu;omega) ?_
   rw [mr 64 64 _ _ p1 p2]
   exact ⟨.bl _,H,I,rfl,q⟩
theorem L4 (hu:Rm X):bz X (compareOp .NotEq) (gp fa X.K .ne):=by
 intro pins s σ H x y v u Q I rx ry h
 obtain ⟨μ,M,dx,dy,b,hM,h1,h2,e,q⟩:=h
 have e:(lM M dx dy).map (!·)=some b:=e
 cases e':lM M dx dy with
 |none=>rw [e'] at e;cases e
 | some k =>
   rw [e'] at e
   obtain rfl:(!k)=b:=MO e
   cases hs:gM dx&&gM dy with
   | true =>
     obtain ⟨i,j,rfl,rfl⟩:=rJ hs
     obtain rfl:x=.str i:=h1
     obtain rfl:y=.str j:=h2
     obtain rfl:(i==j)=k:=MO (uT.symm.trans e')
     exact Jt pins s σ H _ _ v u Q I rx ry ⟨rfl,by rw [mx];exact q⟩
   | false =>
     obtain ⟨_,_,as,bs,p1,p2,rfl,r1,r2⟩:=qo I hM hs e' h1 h2 rx ry
     refine SeqAt.compareNe_shaped r1 r2 (jy p1) (jy p2) (by unfold Rm at hu;omega) ?_
     rw [mr 64 64 _ _ p1 p2]
     exact ⟨.bl _,H,I,rfl,q⟩
end
end LD
namespace LD
open PySem PySem.Spec PyProof.Rows L2
section
variable {fa:Fa}{X:Cx}{μ:Mu}{H:Hp}{σ:L2.St}{pins:List (Addr×Obj)}{s:MI}{M:Mem}
theorem ij {f:MG->MG->Sem MG}{r r':R2}(h:bz X f r)(i:∀x y H Q,r' x y H Q->r x y H Q):bz X f r':=fun pins s σ H x y v u Q I rx ry q=>h pins s σ H x y v u Q I rx ry (i x y H Q q)
theorem jr {f:MG}{r r':List V->Hp->VK->Prop}(h:cD X f r)(i:∀xs H Q,r' xs H Q->r xs H Q):cD X f r':=fun pins s σ H xs us Q I rx q=>h pins s σ H xs us Q I rx (i xs H Q q)
theorem my {o:iJ}{g:Int->Int->Bool}(ho:o=.lt\/o=.le\/o=.gt\/o=.ge)(hg:∀i j,bx o (.int i) (.int j) []=some (g i j)){x y:V}{Q:VK}(h:gp fa X.K o x y H Q) :
 ∃i j,x=.int i/\y=.int j/\Q (.bl (g i j)) H:=by
 obtain ⟨μ,M,dx,dy,b,hM,h1,h2,e,q⟩:=h
 have key:∀i j,dx=.int i->dy=.int j->∃i j,x=.int i/\y=.int j/\Q (.bl (g i j)) H:=fun i j e1 e2=>by
  subst e1 e2
  have e3:bx o (.int i) (.int j) M=some (g i j):=by
   have:=hg i j
   rcases ho with rfl|rfl|rfl|rfl<;>exact this
  rw [e] at e3
  have e4:=MO e3
  subst e4
  exact ⟨i,j,h1,h2,q⟩
 rcases ho with rfl|rfl|rfl|rfl<;>
 ·cases dx with
  |int i=>cases dy<;>first|exact key _ _ rfl rfl|cases e
  |_=>cases e
theorem L5:bz X (compareOp .Lt) (gp fa X.K .lt):=ij Ju fun x y H Q h=>my (.inl rfl) (fun _ _=>rfl) h
theorem L6:bz X (compareOp .LtE) (gp fa X.K .le):=ij Jv fun x y H Q h=>my (.inr (.inl rfl)) (fun _ _=>rfl) h
theorem L8:bz X (compareOp .Gt) (gp fa X.K .gt):=ij Jw fun x y H Q h=>my (.inr (.inr (.inl rfl))) (fun _ _=>rfl) h
theorem L9:bz X (compareOp .GtE) (gp fa X.K .ge):=ij Jx fun x y H Q h=>my (.inr (.inr (.inr rfl))) (fun _ _=>rfl) h
theorem uw {d:D}{v:V}{K:MF}(h:Rep fa K μ H d v):decide (v=.non)=iP d:=by
 cases d with
 |non=>obtain rfl:v=.non:=h;rfl
 |bl b=>obtain rfl:v=.bl b:=h;rfl
 |int b=>obtain rfl:v=.int b:=h;rfl
 |str b=>obtain rfl:v=.str b:=h;rfl
 |tup b=>obtain ⟨a,vs,rfl,_⟩:=h;rfl
 |lst b=>obtain ⟨a,vs,rfl,_⟩:=h;rfl
 |frz b=>obtain ⟨a,vs,rfl,_⟩:=h;rfl
 |cell b=>obtain ⟨a,rfl,_⟩:=h;rfl
 |fn b=>obtain ⟨a,rfl,_⟩:=h;rfl
 |exc y p=>obtain ⟨a,_,_,rfl,_⟩:=h;rfl
theorem J9:bz X (compareOp .Is) (gp fa X.K .isN):=ij G1 fun x y H Q h=>by
 obtain ⟨μ,M,dx,dy,b,hM,h1,h2,e,q⟩:=h
 cases dy<;>first|cases (show (none:Option Bool)=some b from e)|skip
 refine ⟨h2,?_⟩
 rw [uw h1]
 have e:some (iP dx)=some b:=e
 rw [MO e];exact q
theorem Iu:bz X (compareOp .IsNot) (gp fa X.K .notN):=ij Es fun x y H Q h=>by
 obtain ⟨μ,M,dx,dy,b,hM,h1,h2,e,q⟩:=h
 cases dy<;>first|cases (show (none:Option Bool)=some b from e)|skip
 refine ⟨h2,?_⟩
 rw [uw h1]
 have e:some (!iP dx)=some b:=e
 rw [MO e];exact q
theorem tN (x:D)(hx:aA 64 x=true):∀(ds:List D),ds.all (aA 63)=true->((bZ ds).any fun y=>PyData.eqv y (toPy x))=ds.any fun y=>fz y x
 |[],_=>rfl
 | d :: r, h => by
   simp only [Ny,MM] at h
   simp only [bZ,List.any_cons,mr 63 64 d x h.1 hx,tN x hx r h.2]
theorem rB (n:Nat):∀ds:List D,ds.all (aA n)=true->PyData.canLayAll0 (bZ ds)=true/\PyData.depthAll (bZ ds)<=n
 |[],_=>by simp [bZ,PyData.canLayAll0,PyData.depthAll]
 | d :: r, h => by
   simp only [Ny,MM] at h
   obtain ⟨h1,h2⟩:=oN n d h.1
   obtain ⟨h3,h4⟩:=rB n r h.2
   simp only [bZ,PyData.canLayAll0,PyData.depthAll,h1,h3,Bool.and_self,true_and]
   omega
theorem xC (I:Inv X pins σ H s)(hM:RelM fa X.K μ H M){d:D}{v:V}{u:MG}{ds:List D}(hp:ds.all (aA 63)=true)(h:Rep fa X.K μ H d v)(r:RelV v u)(e:bG M d=some ds) :
 (∃as,Reads s.heap u (.list (bZ ds)) as)\/∃as,Reads s.heap u (.tuple (bZ ds)) as:=by
 obtain ⟨a,vs,rfl,h1,h2⟩:=jg (ds:=ds) hM h e
 obtain rfl:u=Value.ref a:=r
 rcases h1 with h1|h1
 ·obtain ⟨its,rv,⟨o,k,e1,e2,e4,e3⟩,_⟩:=I.list h1
  obtain ⟨as,q⟩:=ff I ds 63 vs its hp h2 rv
  exact .inl ⟨_,.list e1 e2 e3 (by simpa using q)⟩
 ·obtain ⟨its,rv,⟨o,e1,e2,k,e3⟩,_⟩:=I.tuple h1
  obtain ⟨as,q⟩:=ff I ds 63 vs its hp h2 rv
  exact .inr ⟨_,.tuple e1 e2 e3 (by simpa using q)⟩
theorem yB (hu:Rm X){x y:V}{v u:MG}{dx dy:D}{ds:List D}{b:Bool}{Q:MG->MI->Prop}(I:Inv X pins σ H s)(hM:RelM fa X.K μ H M)(h1:Rep fa X.K μ H dx x)(h2:Rep fa X.K μ H dy y)(rx:RelV x v)(ry:RelV y u)
 (e1:bG M dy=some ds) (e2:lG (view M dx) ds=some b) (neg:Bool) (q:Q (.bool (if neg then !b else b)) s):wpAny (model X.prog X.w) X.A (compareOp (if neg then .NotIn else .In) v u) Q X.xe s:=by
 unfold lG at e2
 split at e2
 ·next z=>
  simp only [MM] at z
  obtain ⟨p1,p2⟩:=z
  have e3:=MO e2
  subst e3
  obtain ⟨as,r1⟩:=kn I hM p1 h1 rx
  obtain ⟨c1,d1⟩:=oN 64 _ p1
  obtain ⟨c2,d2⟩:=rB 63 ds p2
  have hu':X.A.units+1+min (PyData.depthAll (bZ ds)) (toPy (view M dx)).depth<cLine:=by unfold Rm at hu;omega
  rw [<- tN _ p1 ds p2] at q
  rcases xC I hM p2 h2 ry e1 with ⟨bs,r2⟩|⟨bs,r2⟩
  ·cases neg
   ·exact SeqAt.in_list_reads r2 r1 c2 c1 hu' q
   ·exact SeqAt.notIn_list_reads r2 r1 c2 c1 hu' q
  ·cases neg
   ·exact SeqAt.in_tuple_reads r2 r1 c2 c1 hu' q
   ·exact SeqAt.notIn_tuple_reads r2 r1 c2 c1 hu' q
 ·cases e2
theorem L7 (hu:Rm X):bz X (compareOp .In) (gp fa X.K .isin):=by
 intro pins s σ H x y v u Q I rx ry h
 obtain ⟨μ,M,dx,dy,b,hM,h1,h2,e,q⟩:=h
 have gen:(bG M dy).bind (lG (view M dx))=some b->wpAny (model X.prog X.w) X.A (compareOp .In v u) (EP X pins σ Q) X.xe s:=fun e=>by
  cases e1:bG M dy with
  |none=>rw [e1] at e;cases e
  | some ds =>
    rw [e1] at e
    exact yB hu I hM h1 h2 rx ry e1 e false ⟨.bl b,H,I,rfl,q⟩
 by_cases hs:(∃a,dx=.str a)/\∃c,dy=.str c
 ·obtain ⟨⟨a,rfl⟩,c,rfl⟩:=hs
  have e:some (nN a c)=some b:=e
  have e':=MO e
  subst e'
  exact xY pins s σ H x y v u Q I rx ry ⟨a,c,h1,h2,q⟩
 ·refine gen ?_
  cases dx<;>first|exact e|(cases dy<;>first|exact e|exact absurd ⟨⟨_,rfl⟩,_,rfl⟩ hs)
theorem Fe (hu:Rm X):bz X (compareOp .NotIn) (gp fa X.K .notin):=by
 intro pins s σ H x y v u Q I rx ry h
 obtain ⟨μ,M,dx,dy,b,hM,h1,h2,e,q⟩:=h
 have gen:((bG M dy).bind (lG (view M dx))).map (!·)=some b->wpAny (model X.prog X.w) X.A (compareOp .NotIn v u) (EP X pins σ Q) X.xe s:=fun e=>by
  cases e1:bG M dy with
  |none=>rw [e1] at e;cases e
  | some ds =>
    rw [e1] at e
    cases e2:lG (view M dx) ds with
    |none=>rw [Option.bind_some,e2] at e;cases e
    | some k =>
      rw [Option.bind_some,e2] at e
      have e':=MO e
      subst e'
      exact yB hu I hM h1 h2 rx ry e1 e2 true ⟨.bl _,H,I,rfl,q⟩
 by_cases hs:(∃a,dx=.str a)/\∃c,dy=.str c
 ·obtain ⟨⟨a,rfl⟩,c,rfl⟩:=hs
  have e:some (!nN a c)=some b:=e
  have e':=MO e
  subst e'
  exact si pins s σ H x y v u Q I rx ry ⟨a,c,h1,h2,q⟩
 ·refine gen ?_
  cases dx<;>first|exact e|(cases dy<;>first|exact e|exact absurd ⟨⟨_,rfl⟩,_,rfl⟩ hs)
noncomputable def dQ:iJ->CmpOp
 |.eq=>.Eq|.ne=>.NotEq|.lt=>.Lt|.le=>.LtE|.gt=>.Gt|.ge=>.GtE|.isN=>.Is|.notN=>.IsNot|.isin=>.In|.notin=>.NotIn
theorem mz (hu:Rm X):∀o:iJ,bz X (compareOp (dQ o)) (gp fa X.K o)
 |.eq=>Mc hu|.ne=>L4 hu|.lt=>L5|.le=>L6|.gt=>L8|.ge=>L9|.isN=>J9|.notN=>Iu|.isin=>L7 hu|.notin=>Fe hu
noncomputable def lj (fa:Fa)(K:MF)(m:Bool)(o:mS):R2:=fun x y H Q=>∃μ M dx dy,RelM fa K μ H M/\Rep fa K μ H dx x/\Rep fa K μ H dy y/\ag (gY m o dx dy M) (aY fa K μ H Q)
theorem aZ {Q:VK}{d:D}{v:V}(hM:RelM fa X.K μ H M)(h:aY fa X.K μ H Q d M)(r:Rep fa X.K μ H d v):Q v H:=h v H μ .refl hM r
theorem fN {Q:VK}{m:Bool}{ds:List D}{vs:List V}(hM:RelM fa X.K μ H M)(r:aF fa X.K μ H ds vs)(h:ag (bf m ds M) (aY fa X.K μ H Q)):ds.length<=sz/\∀p,H p=none->Q (.ref p) (upd H p (.lst vs)):=by
 unfold bf at h
 split at h
 ·next hz=>
  refine ⟨hz,fun p hp=>?_⟩
  cases m with
  | true =>
    have h:aY fa X.K μ H Q (.cell M.length) (M++[ds]):=h
    exact h (.ref p) _ (fh μ M.length p) (Ext.cell hM hp) (hM.cell hp r) ⟨p,rfl,by simp [fh]⟩
  | false =>
    have h:aY fa X.K μ H Q (.lst ds) M:=h
    exact h (.ref p) _ μ (Ext.alloc hM hp) (hM.alloc hp) ⟨p,vs,rfl,⟨bt,hM.fresh hp⟩,r.ext (Ext.alloc hM hp)⟩
 ·exact h.elim
theorem gQ {Q:VK}{ds:List D}{vs:List V}(hM:RelM fa X.K μ H M)(r:aF fa X.K μ H ds vs)(h:aY fa X.K μ H Q (.tup ds) M):∀p,H p=none->Q (.ref p) (upd H p (.tup vs)):=fun p hp=>
 h (.ref p) _ μ (Ext.alloc hM hp) (hM.alloc hp) ⟨p,vs,rfl,.of bt,r.ext (Ext.alloc hM hp)⟩
theorem cV:sz=sizeLine:=by rw [sizeLine_eq];rfl
theorem AE:bz X (binaryOp .Add) (fun x y H Q=>∃a b ys,x=.ref a/\y=.ref b/\di X.K H a []/\di X.K H b ys/\Q (.ref b) H):=by
 intro pins s σ H x y v u Q I rx ry h
 obtain ⟨a,b,ys,rfl,rfl,ha,hb,q⟩:=h
 cases rx
 cases ry
 obtain ⟨its,r1,p1,_⟩:=I.tuple ha
 obtain ⟨its2,r2,p2,_⟩:=I.tuple hb
 cases r1
 obtain ⟨⟨cls,dd,data,sl⟩,ho,hc,n,hd⟩:=id p1
 obtain ⟨⟨cls2,dd2,data2,sl2⟩,ho2,hc2,n2,hd2⟩:=id p2
 simp only at hc hd hc2 hd2
 subst hc hd hc2 hd2
 exact concat_meets ⟨_,ho,rfl⟩ ⟨_,ho2,rfl⟩ noFill_tuple_add seq_tuple_add PySem.F.slot_tuple_add PySem.F.entry_tuple_add (PySem.F.args_tuple_add_2 _ _)
  (tuple_addW0 a b #[] its2.toArray n n2 dd dd2 sl sl2 rfl) ⟨ho,ho2,⟨.ref b,H,I,rfl,q⟩⟩
theorem Bp {m:Bool}{x y:V}{v u:MG}{dx dy:D}{Q:VK}(I:Inv X pins σ H s)(hM:RelM fa X.K μ H M)(h1:Rep fa X.K μ H dx x)(h2:Rep fa X.K μ H dy y)(rx:RelV x v)(ry:RelV y u)
 (h:ag (match jn M dx,jn M dy with|some x,some y=>bf m (x++y) M|_,_=>.bad) (aY fa X.K μ H Q)):wpAny (model X.prog X.w) X.A (binaryOp .Add v u) (EP X pins σ Q) X.xe s:=by
 cases e1:jn M dx with
 |none=>rw [e1] at h;exact h.elim
 | some xs =>
   cases e2:jn M dy with
   |none=>rw [e1,e2] at h;exact h.elim
   | some ys =>
     rw [e1,e2] at h
     obtain ⟨a,vs,rfl,ha,ra⟩:=jh hM h1 e1
     obtain ⟨b,ws,rfl,hb,rb⟩:=jh hM h2 e2
     obtain ⟨hz,k⟩:=fN hM (ra.append rb) h
     refine G2 pins s σ H _ _ v u Q I rx ry ⟨a,b,vs,ws,rfl,rfl,ha,hb,?_,k⟩
     rw [ra.length,rb.length,<- NG,<- cV];exact hz
theorem Kg (m:Bool):bz X (binaryOp .Add) (lj fa X.K m .add):=by
 intro pins s σ H x y v u Q I rx ry h
 obtain ⟨μ,M,dx,dy,hM,h1,h2,h⟩:=h
 have hi:∀i j,dx=.int i->dy=.int j->wpAny (model X.prog X.w) X.A (binaryOp .Add v u) (EP X pins σ Q) X.xe s:=fun i j e1 e2=>by
  subst e1 e2
  exact G3 pins s σ H x y v u Q I rx ry ⟨i,j,h1,h2,aZ (v:=.int (i+j)) hM h rfl⟩
 have hs:∀i j,dx=.str i->dy=.str j->wpAny (model X.prog X.w) X.A (binaryOp .Add v u) (EP X pins σ Q) X.xe s:=fun i j e1 e2=>by
  subst e1 e2
  have h:ag (if i.cps.size+j.cps.size<=sz then .ok (.str ⟨i.cps++j.cps⟩) M else .bad) (aY fa X.K μ H Q):=h
  split at h
  ·next hz=>exact vA pins s σ H x y v u Q I rx ry ⟨i,j,h1,h2,by rw [<- cV];exact hz,aZ (v:=.str ⟨i.cps++j.cps⟩) hM h rfl⟩
  ·exact h.elim
 have ht:∀i j,dx=.tup i->dy=.tup j->wpAny (model X.prog X.w) X.A (binaryOp .Add v u) (EP X pins σ Q) X.xe s:=fun i j e1 e2=>by
  subst e1 e2
  have h:ag (if (i++j).length<=sz then .ok (.tup (i++j)) M else .bad) (aY fa X.K μ H Q):=h
  split at h
  ·next hz=>
   have h:aY fa X.K μ H Q (.tup (i++j)) M:=h
   obtain ⟨a,vs,e1,ha,ra⟩:=id h1
   obtain ⟨b,ws,e2,hb,rb⟩:=id h2
   by_cases h0:i=[]
   ·subst h0
    obtain rfl:vs=[]:=ra
    exact AE pins s σ H x y v u Q I rx ry ⟨a,b,ws,e1,e2,ha,hb,aZ hM h ⟨b,ws,rfl,hb,rb⟩⟩
   ·have hv:vs≠[]:=fun z=>h0 (by have:=ra.length;rw [z] at this;exact Ow.mp this.symm)
    refine Eu pins s σ H x y v u Q I rx ry ⟨a,b,vs,ws,e1,e2,ha,hb,hv,?_,fun z=>?_,fun _=>gQ hM (ra.append rb) h⟩
    ·rw [ra.length,rb.length,<- NG,<- cV];exact hz
    ·subst z
     have ej:j=[]:=Ow.mp rb.length.symm
     subst ej
     exact aZ hM h ⟨a,vs,rfl,ha,by simpa using ra⟩
  ·exact h.elim
 cases dx<;>cases dy<;>first|exact hi _ _ rfl rfl|exact hs _ _ rfl rfl|exact ht _ _ rfl rfl|exact Bp (m:=m) I hM h1 h2 rx ry h
theorem q8 {op:Operator}{o:mS}{m:Bool}{C:Int->Int->Prop}{g:Int->Int->Int}(hr:bz X (binaryOp op) (rI C fun i j=>.int (g i j)))
 (hD:∀dx dy M (P:D->Mem->Prop),ag (gY m o dx dy M) P->∃i j,dx=.int i/\dy=.int j/\C i j/\P (.int (g i j)) M):bz X (binaryOp op) (lj fa X.K m o):=ij hr fun x y H Q h=>by
 obtain ⟨μ,M,dx,dy,hM,h1,h2,h⟩:=h
 obtain ⟨i,j,rfl,rfl,c,q⟩:=hD dx dy M _ h
 exact ⟨i,j,h1,h2,c,aZ (v:=.int (g i j)) hM q rfl⟩
theorem Kb (m:Bool):bz X (binaryOp .Sub) (lj fa X.K m .sub):=q8 (C:=fun _ _=>True) (g:=fun i j=>i-j) (ij GV fun x y H Q ⟨i,j,e1,e2,_,q⟩=>⟨i,j,e1,e2,q⟩) fun dx dy M P h=>by
 cases dx<;>cases dy<;>first|exact ⟨_,_,rfl,rfl,trivial,h⟩|exact h.elim
theorem Iw (m:Bool):bz X (binaryOp .FloorDiv) (lj fa X.K m .fdiv):=q8 Et fun dx dy M P h=>by
 have key:∀i j,dx=.int i->dy=.int j->∃i j,dx=.int i/\dy=.int j/\IQ i j/\P (.int (i / j)) M:=fun i j e1 e2=>by
  subst e1 e2
  have h:ag (if 0<j/\j<1073741824 then .ok (.int (i / j)) M else .bad) P:=h
  split at h
  ·next c=>exact ⟨i,j,rfl,rfl,c,h⟩
  ·exact h.elim
 cases dx<;>cases dy<;>first|exact key _ _ rfl rfl|exact h.elim
theorem Ke (m:Bool):bz X (binaryOp .Mod) (lj fa X.K m .mod):=q8 G0 fun dx dy M P h=>by
 have key:∀i j,dx=.int i->dy=.int j->∃i j,dx=.int i/\dy=.int j/\0<j/\P (.int (i % j)) M:=fun i j e1 e2=>by
  subst e1 e2
  have h:ag (if 0<j then .ok (.int (i % j)) M else .bad) P:=h
  split at h
  ·next c=>exact ⟨i,j,rfl,rfl,c,h⟩
  ·exact h.elim
 cases dx<;>cases dy<;>first|exact key _ _ rfl rfl|exact h.elim
theorem Kc (m:Bool):bz X (binaryOp .Pow) (lj fa X.K m .pow):=q8 GY fun dx dy M P h=>by
 have key:∀i j,dx=.int i->dy=.int j->∃i j,dx=.int i/\dy=.int j/\IP i j/\P (.int (i^j.toNat)) M:=fun i j e1 e2=>by
  subst e1 e2
  have h:ag (if 0<=j/\j<=1000000/\i.natAbs<2^64 then .ok (.int (i^j.toNat)) M else .bad) P:=h
  split at h
  ·next c=>exact ⟨i,j,rfl,rfl,c,h⟩
  ·exact h.elim
 cases dx<;>cases dy<;>first|exact key _ _ rfl rfl|exact h.elim
theorem An {m:Bool}{x y:V}{v u:MG}{dx:D}{j:Int}{Q:VK}(I:Inv X pins σ H s)(hM:RelM fa X.K μ H M)(h1:Rep fa X.K μ H dx x)(h2:Rep fa X.K μ H (.int j) y)(rx:RelV x v)(ry:RelV y u)
 (h:ag (match jn M dx with|some x=>if x.length*j.toNat<=sz/\-(2^63)<=j/\j<2^63 then bf m (List.replicate j.toNat x).flatten M else .bad|none=>.bad) (aY fa X.K μ H Q)) :
 wpAny (model X.prog X.w) X.A (binaryOp .Mult v u) (EP X pins σ Q) X.xe s:=by
 cases e1:jn M dx with
 |none=>rw [e1] at h;exact h.elim
 | some xs =>
   rw [e1] at h
   simp only at h
   split at h
   ·next c=>
    obtain ⟨a,vs,rfl,ha,ra⟩:=jh hM h1 e1
    obtain ⟨hz,k⟩:=fN hM (ra.rep j.toNat) h
    exact GX pins s σ H _ _ v u Q I rx ry ⟨a,j,vs,rfl,h2,ha,c.2.1,c.2.2,by rw [ra.length,<- cV];exact c.1,k⟩
   ·exact h.elim
end
end LD
namespace LD
open PySem PySem.Spec PyProof.Rows L2 PySem.Builtin
open PySem.Sem (wp)
theorem ni:fillsNumberSlot (.type "tuple") "mul"=pure false:=
 PySem.fillsNumberSlot_seq (id:="tuple.__mul__") (r:=some (.builtin "tuple.__rmul__")) F.slot_tuple_mul.lookup (by decide +kernel) F.slot_tuple_rmul.lookup (by decide +kernel)
theorem rW:seqRepeat? (.type "tuple")=pure (some (.builtin "tuple.__mul__")):=by
 unfold seqRepeat?
 rw [PySem.seqSlot_of (T:="tuple") (name:="__mul__") (id:="tuple.__mul__") F.slot_tuple_mul.lookup (by decide +kernel),PySem.seqSlot_of (T:="tuple") (name:="__rmul__") (id:="tuple.__rmul__") F.slot_tuple_rmul.lookup (by decide +kernel)]
 rfl
theorem oQ (a:Int)(t:Tok)(l:Addr)(items:Array MG)(n:Nat)(dd:Option Addr)(sl:Array (Option MG)) :
 Meets (Builtin.«int.__rmul__» ⟨[.int a t,.ref l],[]⟩) (fun _ R s=>s.heap.get? l=some {cls:=.type "tuple",dict:=dd,data:=.seq items n,slots:=sl}/\R (.ok (.ret Value.notImplemented)) s):=
 .of_wp fun prog w A R s h=>by obtain ⟨hp,g,d,tk,os⟩:=s;obtain ⟨hl,h⟩:=h;wp_walk using wpAny_loadPart' hl;exact ⟨_,rfl,h⟩
theorem vv {x:Int}(h0:-(2^63)<=x)(h1:x<2^63):(decide (x < -2^63)||decide (x≥2^63))=false:=by
 rw [decide_eq_false (by omega),decide_eq_false (by omega)];rfl
theorem oX (l:Addr)(items:Array MG)(n:Nat)(dd:Option Addr)(sl:Array (Option MG))(x:Int)(u:Tok)(h0:-(2^63)<=x)(h1:x<2^63)(hc:(items.isEmpty||x==1)=true) :
 Meets (Builtin.«tuple.__mul__» ⟨[.ref l,.int x u],[]⟩) (fun _ R s=>s.heap.get? l=some {cls:=.type "tuple",dict:=dd,data:=.seq items n,slots:=sl}/\R (.ok (.ret (.ref l))) s):=
 .of_wp fun prog w A R s h=>by
  obtain ⟨hp,g,d,tk,os⟩:=s;obtain ⟨hl,h⟩:=h;have f1:=AutoSeq1.idx_int
  wp_walk using wpAny_loadPart' hl
  refine wpAny_ite_false (by rw [vv h0 h1];rfl) ?_
  wp_walk using wpAny_loadPart' hl
  exact ⟨_,rfl,h⟩
theorem oY (l:Addr)(items:Array MG)(n:Nat)(dd:Option Addr)(sl:Array (Option MG))(x:Int)(u:Tok)(h0:-(2^63)<=x)(h1:x<2^63)(hc:(items.isEmpty||x==1)=false)(hc1:(decide (x<=0)||items.isEmpty)=true) :
 Meets (Builtin.«tuple.__mul__» ⟨[.ref l,.int x u],[]⟩) (fun _ R s=>s.heap.get? l=some {cls:=.type "tuple",dict:=dd,data:=.seq items n,slots:=sl}/\R (.ok (.ret (.ref s.heap.objs.size))) {s with heap:=s.heap.push {cls:=Value.type "tuple",data:=Data.seq #[]},toks:=s.toks}):=
 .of_wp fun prog w A R s h=>by
  obtain ⟨hp,g,d,tk,os⟩:=s;obtain ⟨hl,h⟩:=h;have f1:=AutoSeq1.idx_int
  wp_walk using wpAny_loadPart' hl
  refine wpAny_ite_false (by rw [vv h0 h1];rfl) ?_
  wp_walk using wpAny_loadPart' hl
  exact ⟨_,rfl,h⟩
theorem oZ (l:Addr)(items:Array MG)(n:Nat)(dd:Option Addr)(sl:Array (Option MG))(x:Int)(u:Tok)(h0:-(2^63)<=x)(h1:x<2^63)(hc:(items.isEmpty||x==1)=false)(hc1:(decide (x<=0)||items.isEmpty)=false)
 (hs:(items.size:Int)*x<=16777216) (hs2:(List.foldl (fun x1 x2=>x1++x2) #[] (List.replicate x.toNat items)).size<=sizeLine) :
 Meets (Builtin.«tuple.__mul__» ⟨[.ref l,.int x u],[]⟩) (fun _ R s=>s.heap.get? l=some {cls:=.type "tuple",dict:=dd,data:=.seq items n,slots:=sl}/\R (.ok (.ret (.ref s.heap.objs.size))) {s with heap:=s.heap.push {cls:=Value.type "tuple",data:=Data.seq (List.foldl (fun x1 x2=>x1++x2) #[] (List.replicate x.toNat items))},toks:=s.toks}):=
 .of_wp fun prog w A R s h=>by
  obtain ⟨hp,g,d,tk,os⟩:=s;obtain ⟨hl,h⟩:=h;have f1:=AutoSeq1.idx_int
  wp_walk using wpAny_loadPart' hl
  refine wpAny_ite_false (by rw [vv h0 h1];rfl) ?_
  wp_walk using wpAny_loadPart' hl
  refine wpAny_ite_false (decide_eq_false (by omega)) ?_
  wp_walk using wpAny_loadPart' hl
  refine wpAny_ite_false (decide_eq_false (by unfold Tuple.tupleTooMany;rw [sizeLine_eq];simp;omega)) ?_
  wp_walk using wpAny_loadPart' hl
  exact ⟨_,rfl,h⟩
section
variable {fa:Fa}{X:Cx}{μ:Mu}{H:Hp}{σ:L2.St}{pins:List (Addr×Obj)}{s:MI}{M:Mem}
theorem pZ (its:List MG)(m:Nat):List.foldl (fun x1 x2=>x1++x2) #[] (List.replicate m its.toArray)=(List.replicate m its).flatten.toArray:=by
 have:=foldl_rep its m []
 rw [OR] at this
 exact this
theorem Ep:bz X (binaryOp .Mult) (fun x y H Q=>∃l k xs,x=.ref l/\y=.int k/\di X.K H l xs/\-(2^63)<=k/\k<2^63/\xs.length*k.toNat<=sz/\
 ((List.replicate k.toNat xs).flatten=xs->Q (.ref l) H)/\∀p,H p=none->Q (.ref p) (upd H p (.tup (List.replicate k.toNat xs).flatten))):=by
 intro pins s σ H x y v u Q I rx ry h
 obtain ⟨l,k,xs,rfl,rfl,hq,h1,h2,hz,q1,q2⟩:=h
 cases rx
 obtain ⟨t,rfl⟩:=ry
 obtain ⟨its,r,p,hzz⟩:=I.tuple hq
 have hl:=r.length
 obtain ⟨⟨cls,dd,data,sl⟩,ho,hc,n,hd⟩:=id p
 simp only at hc hd
 subst hc hd
 refine wpAny_binaryOp_repeat_ref (T:="tuple") (U:="int") (by decide) ⟨_,ho,rfl⟩ (fun s'=>typeIs_int s' k t) ni F.fills_int_mul F.slot_int_rmul rW F.slot_int_index.lookup
  (call_meets F.slot_int_rmul (typeIs_int s k t) F.entry_int_rmul (F.args_int_rmul_2 _ _) (oQ k t l its.toArray n dd sl) ⟨ho,rfl,⟨_,ho,rfl⟩,?_⟩)
 have new:∀(its':List MG),Vals (List.replicate k.toNat xs).flatten its'->EP X pins σ Q (.ref s.heap.objs.size) {s with heap:=s.heap.push {cls:=Value.type "tuple",data:=Data.seq its'.toArray}}:=fun its' r'=>by
  refine ⟨.ref s.heap.objs.size,_,I.laid (t':=s.toks) (o:=.tup (List.replicate k.toNat xs).flatten) (fun b ob q=>MJ _ q) (MN _) ?_,rfl,q2 _ (I.hok.fresh (MN _))⟩
  exact ⟨by rw [len_rep,Nat.mul_comm,<- cV];exact hz,_,r',IsTup.new _ _⟩
 by_cases c1:(its.toArray.isEmpty||k==1)=true
 ·refine call_meets F.slot_tuple_mul ⟨_,ho,rfl⟩ F.entry_tuple_mul (F.args_tuple_mul_2 _ _) (oX l its.toArray n dd sl k t h1 h2 c1) ⟨ho,⟨.ref l,H,I,rfl,q1 ?_⟩⟩
  rcases Bool.or_eq_true_iff.mp c1 with z|z
  ·have e:its=[]:=by simpa using z
   subst e
   have e2:xs=[]:=Ow.mp hl
   subst e2
   simp
  ·have e:k=1:=by simpa using z
   subst e
   simp
 ·have c1':(its.toArray.isEmpty||k==1)=false:=by simpa using c1
  by_cases c2:(decide (k<=0)||its.toArray.isEmpty)=true
  ·refine call_meets F.slot_tuple_mul ⟨_,ho,rfl⟩ F.entry_tuple_mul (F.args_tuple_mul_2 _ _) (oY l its.toArray n dd sl k t h1 h2 c1' c2) ⟨ho,new [] ?_⟩
   have hk:k<=0:=by
    rcases Bool.or_eq_true_iff.mp c2 with z|z
    ·simpa using z
    ·rw [z] at c1';cases c1'
   have hk0:k.toNat=0:=by omega
   rw [hk0];exact .nil
  ·have c2':(decide (k<=0)||its.toArray.isEmpty)=false:=by simpa using c2
   have hk:0<k:=by
    have:=(Bool.or_eq_false_iff.mp c2').1
    simpa using this
   have hs:(its.toArray.size:Int)*k<=16777216:=by
    have e1:(its.toArray.size:Int)*k=((xs.length*k.toNat:Nat):Int):=by
     rw [MP,<- hl,Int.natCast_mul,Int.toNat_of_nonneg (by omega)]
    rw [e1]
    have:xs.length*k.toNat<=16777216:=hz
    omega
   have hs2:(List.foldl (fun x1 x2=>x1++x2) #[] (List.replicate k.toNat its.toArray)).size<=sizeLine:=by
    rw [pZ,MP,len_rep,Nat.mul_comm,<- hl,<- cV];exact hz
   refine call_meets F.slot_tuple_mul ⟨_,ho,rfl⟩ F.entry_tuple_mul (F.args_tuple_mul_2 _ _) (oZ l its.toArray n dd sl k t h1 h2 c1' c2' hs hs2) ⟨ho,?_⟩
   rw [pZ]
   exact new _ (r.rep k.toNat)
theorem Kd (m:Bool):bz X (binaryOp .Mult) (lj fa X.K m .mul):=by
 intro pins s σ H x y v u Q I rx ry h
 obtain ⟨μ,M,dx,dy,hM,h1,h2,h⟩:=h
 have hi:∀i j,dx=.int i->dy=.int j->wpAny (model X.prog X.w) X.A (binaryOp .Mult v u) (EP X pins σ Q) X.xe s:=fun i j e1 e2=>by
  subst e1 e2
  have h:ag (if (-(2^64)<i/\i<2^64)\/(-(2^64)<j/\j<2^64) then .ok (.int (i*j)) M else .bad) (aY fa X.K μ H Q):=h
  split at h
  ·next c=>exact GZ pins s σ H x y v u Q I rx ry ⟨i,j,h1,h2,c,aZ (v:=.int (i*j)) hM h rfl⟩
  ·exact h.elim
 have ht:∀i j,dx=.tup i->dy=.int j->wpAny (model X.prog X.w) X.A (binaryOp .Mult v u) (EP X pins σ Q) X.xe s:=fun i j e1 e2=>by
  subst e1 e2
  have h:ag (if i.length*j.toNat<=sz/\-(2^63)<=j/\j<2^63 then .ok (.tup (List.replicate j.toNat i).flatten) M else .bad) (aY fa X.K μ H Q):=h
  split at h
  ·next c=>
   have h:aY fa X.K μ H Q (.tup (List.replicate j.toNat i).flatten) M:=h
   obtain ⟨a,vs,e1,ha,ra⟩:=id h1
   refine Ep pins s σ H x y v u Q I rx ry ⟨a,j,vs,e1,h2,ha,c.2.1,c.2.2,by rw [ra.length];exact c.1,fun z=>?_,gQ hM (ra.rep j.toNat) h⟩
   refine aZ hM h ⟨a,vs,rfl,ha,?_⟩
   have:=ra.rep j.toNat
   rw [z] at this
   exact this
  ·exact h.elim
 have hl:∀j,dy=.int j->ag (match jn M dx with|some x=>if x.length*j.toNat<=sz/\-(2^63)<=j/\j<2^63 then bf m (List.replicate j.toNat x).flatten M else .bad|none=>.bad) (aY fa X.K μ H Q)->
  wpAny (model X.prog X.w) X.A (binaryOp .Mult v u) (EP X pins σ Q) X.xe s:=fun j e1 h'=>by
  subst e1
  exact An (m:=m) I hM h1 h2 rx ry h'
 cases dy with
 |int j=>cases dx<;>first|exact hi _ _ rfl rfl|exact ht _ _ rfl rfl|exact hl _ rfl h
 |_=>cases dx<;>exact h.elim
noncomputable def binOp:mS->Operator
 |.add=>.Add|.sub=>.Sub|.mul=>.Mult|.fdiv=>.FloorDiv|.mod=>.Mod|.pow=>.Pow
theorem Kf (m:Bool):∀o:mS,bz X (binaryOp (binOp o)) (lj fa X.K m o)
 |.add=>Kg m|.sub=>Kb m|.mul=>Kd m|.fdiv=>Iw m|.mod=>Ke m|.pow=>Kc m
end
end LD
namespace LD
open PySem PySem.Spec PyProof.Rows L2
section
variable {fa:Fa}{X:Cx}{μ:Mu}{H:Hp}{σ:L2.St}{pins:List (Addr×Obj)}{s:MI}{M:Mem}
theorem HC {r r':R2}(h:ki X r)(i:∀x y H Q,r' x y H Q->r x y H Q):ki X r':=fun value slice pins s σ H x y v u Q I rx ry q hs=>h value slice pins s σ H x y v u Q I rx ry (i x y H Q q) hs
noncomputable def rIdx (fa:Fa)(K:MF):R2:=fun x y H Q=>∃μ M dx dy d,RelM fa K μ H M/\Rep fa K μ H dx x/\Rep fa K μ H dy y/\cH dx dy M=some d/\aY fa K μ H Q d M
theorem sJ (n:Nat)(i:Int):LD.bI n i=L2.bI n i:=rfl
theorem JD:ki X (rIdx fa X.K):=HC HB fun x y H Q h=>by
 obtain ⟨μ,M,dx,dy,d,hM,h1,h2,e,q⟩:=h
 have gen:∀i,dy=.int i->((bG M dx).bind fun ds=>(LD.bI ds.length i).bind fun j=>ds[j]?)=some d->Gq X.K x y H Q:=fun i e0 e'=>by
  subst e0
  clear e
  have e:=e'
  clear e'
  cases e1:bG M dx with
  |none=>rw [e1] at e;cases e
  | some ds =>
    rw [e1,Option.bind_some] at e
    obtain ⟨a,vs,rfl,hq,r⟩:=jg hM h1 e1
    cases e2:LD.bI ds.length i with
    |none=>rw [e2] at e;cases e
    | some j =>
      rw [e2,Option.bind_some] at e
      obtain ⟨v,hv,rv⟩:=r.get e
      have he:qz vs i=some v:=by
       unfold qz
       rw [r.length,<- sJ,e2];exact hv
      rcases hq with hq|hq
      ·exact .inl ⟨a,vs,i,v,rfl,h2,hq,he,aZ hM q rv⟩
      ·exact .inr (.inl ⟨a,vs,i,v,rfl,h2,hq,he,aZ hM q rv⟩)
 have str:∀z i,dx=.str z->dy=.int i->Gq X.K x y H Q:=fun z i e1 e2=>by
  subst e1 e2
  have e:(if z.cps.size<=sz then (LD.bI z.cps.size i).bind fun j=>(z.cps[j]?).map fun c=>D.str ⟨#[c]⟩ else none)=some d:=e
  split at e
  ·next hz=>
   cases e2:LD.bI z.cps.size i with
   |none=>rw [e2] at e;cases e
   | some j =>
     rw [e2,Option.bind_some] at e
     cases e3:z.cps[j]? with
     |none=>rw [e3] at e;cases e
     | some c =>
       rw [e3] at e
       have e4:D.str ⟨#[c]⟩=d:=MO e
       subst e4
       refine .inr (.inr ⟨z,i,c,h1,h2,by rw [<- cV];exact hz,?_,aZ hM q rfl⟩)
       unfold qz
       rw [show z.cps.toList.length=z.cps.size by simp,<- sJ,e2]
       simpa using e3
  ·cases e
 cases dy with
 |int i=>cases dx<;>first|exact str _ _ rfl rfl|exact gen _ rfl e
 |_=>cases dx<;>cases (show (none:Option D)=some d from e)
theorem FW {r r':V->Option Int->Option Int->Hp->VK->Prop}(h:kT X r)(i:∀x lo hi H Q,r' x lo hi H Q->r x lo hi H Q):kT X r':=fun pins s σ H x v vl vu lo hi sl Q I rx hs pl pu q=>h pins s σ H x v vl vu lo hi sl Q I rx hs pl pu (i x lo hi H Q q)
noncomputable def nW:D->Option (Option Int)
 |.non=>some none
 |.int i=>some (some i)
 |_=>none
theorem mY (n d:Nat)(x:D):LD.aJ n d x=(nW x).map (HT.aJ n d):=by
 cases x<;>rfl
theorem rS:kT X (fun x lo hi H Q=>∃a xs,x=.ref a/\di X.K H a xs/\(HT.aJ xs.length 0 lo=0/\HT.aJ xs.length xs.length hi=xs.length)/\Q (.ref a) H):=by
 intro pins s σ H x v vl vu lo hi sl Q I rx hs pl pu h
 obtain ⟨a,xs,rfl,hx,hw,q⟩:=h
 cases rx
 obtain ⟨its,r,ht,hz⟩:=I.tuple hx
 refine ⟨"tuple",_,Nw.lookup,ht.typeIs,?_⟩
 have hlen:its.toArray.size=xs.length:=by rw [MP];exact r.length.symm
 rw [<- hlen] at hw
 obtain ⟨os,hos,hcs,hds⟩:=id hs
 have hTs:s.TypeIs (.ref sl) "slice":=⟨os,hos,hcs⟩
 unfold getItem
 try with_reducible refine tqo ?_
 first|refine tqa (tqb ?_)|skip
 refine tqa (wpAny_sequenceKey ht.typeIs (by decide) ?_)
 refine tqa (wpAny_callSpecial?_slot (name:=Str.ofString "__getitem__") ht.typeIs Nw
  (wpAny_call_entry Nw ht.typeIs entry_tuple_getitem ?_ (args_tuple_getitem _ _)))
 show wpAny _ _ (Builtin.Tuple.tupleItemsOf (.ref a) >>= _) _ _ s
 refine tqa (tupleItemsOf_ ht ?_)
 refine tqa (wpAny_typeOf hTs ?_)
 rw [if_pos (by decide)]
 refine tqa (HT.je hs pl pu ?_)
 have hyes:(((HT.aJ its.toArray.size 0 lo:Nat):Int)==0&&(1:Int)==1&&(HT.aJ its.toArray.size its.toArray.size hi-HT.aJ its.toArray.size 0 lo)==its.toArray.size)=true:=by
  rw [hw.1,hw.2];simp
 show wpAny _ _ (if (((HT.aJ its.toArray.size 0 lo:Nat):Int)==0&&(1:Int)==1&&(HT.aJ its.toArray.size its.toArray.size hi-HT.aJ its.toArray.size 0 lo)==its.toArray.size)=true then _ else _) _ _ s
 rw [if_pos hyes]
 refine tqa (m:=Builtin.Tuple.tupleIsExact (.ref a)) ?_
 unfold Builtin.Tuple.tupleIsExact
 refine tqa (wpAny_typeOf ht.typeIs ?_)
 refine tqb ?_
 rw [if_pos (by decide)]
 exact tqa (wpAny_rule (tqb ⟨_,rfl,tqb ⟨.ref a,H,I,rfl,q⟩⟩))
noncomputable def Lj (fa:Fa)(K:MF)(m:Bool):V->Option Int->Option Int->Hp->VK->Prop:=fun x lo hi H Q=>∃μ M dx dl dh,RelM fa K μ H M/\Rep fa K μ H dx x/\nW dl=some lo/\nW dh=some hi/\ag (fP m dx dl dh M) (aY fa K μ H Q)
theorem DQ (m:Bool):kT X (Lj fa X.K m):=by
 refine FW (DR.or (FU.or rS)) fun x lo hi H Q h=>?_
 obtain ⟨μ,M,dx,dl,dh,hM,h1,e1,e2,h⟩:=h
 have gen:ag (match eF M dx with
  | some xs => match LD.aJ xs.length 0 dl, LD.aJ xs.length xs.length dh with
    |some l,some h=>bf m (cut xs l h) M
    |_,_=>.bad
  |none=>.bad) (aY fa X.K μ H Q)->Gj X.K x lo hi H Q:=fun h=>by
  cases e:eF M dx with
  |none=>rw [e] at h;exact h.elim
  | some xs =>
    rw [e] at h
    simp only [mY,e1,e2,Option.map_some] at h
    obtain ⟨a,vs,rfl,hq,r⟩:=bB hM h1 e
    have hl:=r.length
    obtain ⟨_,k⟩:=fN hM ((r.drop (HT.aJ xs.length 0 lo)).take (HT.aJ xs.length xs.length hi-HT.aJ xs.length 0 lo)) h
    refine ⟨a,vs,rfl,hq,?_⟩
    unfold lP
    rw [hl]
    exact k
 have tup:∀xs,dx=.tup xs->Gi X.K x lo hi H Q\/∃a xs,x=.ref a/\di X.K H a xs/\(HT.aJ xs.length 0 lo=0/\HT.aJ xs.length xs.length hi=xs.length)/\Q (.ref a) H:=fun xs e=>by
  subst e
  have h:ag (match LD.aJ xs.length 0 dl,LD.aJ xs.length xs.length dh with
   |some l,some h=>.ok (.tup (cut xs l h)) M
   |_,_=>.bad) (aY fa X.K μ H Q):=h
  simp only [mY,e1,e2,Option.map_some] at h
  have h:aY fa X.K μ H Q (.tup (cut xs (HT.aJ xs.length 0 lo) (HT.aJ xs.length xs.length hi))) M:=h
  obtain ⟨a,vs,rfl,hq,r⟩:=h1
  have hl:=r.length
  by_cases hw:HT.aJ vs.length 0 lo=0/\HT.aJ vs.length vs.length hi=vs.length
  ·refine .inr ⟨a,vs,rfl,hq,hw,?_⟩
   rw [hl] at hw
   have e3:cut xs (HT.aJ xs.length 0 lo) (HT.aJ xs.length xs.length hi)=xs:=by rw [hw.1,hw.2];simp [cut]
   rw [e3] at h
   exact aZ hM h ⟨a,vs,rfl,hq,r⟩
  ·refine .inl ⟨a,vs,rfl,hq,hw,?_⟩
   have k:=gQ hM ((r.drop (HT.aJ xs.length 0 lo)).take (HT.aJ xs.length xs.length hi-HT.aJ xs.length 0 lo)) h
   unfold lP
   rw [hl]
   exact k
 cases dx<;>first|exact .inr (tup _ rfl)|exact .inl (gen h)
noncomputable def m5 (fa:Fa)(K:MF)(f:tR):List V->Hp->VK->Prop:=fun vs H Q=>∃μ M ds,RelM fa K μ H M/\aF fa K μ H ds vs/\ag (dA f ds M) (aY fa K μ H Q)
theorem nR {d:D}{vs:List V}{K:MF}(h:aF fa K μ H [d] vs):∃v,vs=[v]/\Rep fa K μ H d v:=by
 obtain ⟨v,r,rfl,h1,h2⟩:=h
 obtain rfl:r=[]:=h2
 exact ⟨v,rfl,h1⟩
theorem JK:cD X (.builtin "len") (m5 fa X.K .len):=jr (tf.or td) fun vs H Q h=>by
 obtain ⟨μ,M,ds,hM,r,h⟩:=h
 match ds,r,h with
 |[],_,h=>exact h.elim
 |d::_::_,_,h=>cases d<;>exact h.elim
 | [d], r, h =>
   obtain ⟨v,rfl,hv⟩:=nR r
   have gen:ag (match bG M d with|some xs=>.ok (.int xs.length) M|none=>.bad) (aY fa X.K μ H Q)->∃p ys,[v]=[.ref p]/\(bV X.K H p ys\/di X.K H p ys)/\Q (.int ys.length) H:=fun h=>by
    cases e:bG M d with
    |none=>rw [e] at h;exact h.elim
    | some xs =>
      rw [e] at h
      obtain ⟨a,vs,rfl,hq,r⟩:=jg hM hv e
      refine ⟨a,vs,rfl,hq,?_⟩
      rw [r.length]
      exact aZ (v:=.int xs.length) hM h rfl
   have str:∀x,d=.str x->∃z,[v]=[V.str z]/\z.length<=sizeLine/\Q (.int z.length) H:=fun x e=>by
    subst e
    have h:ag (if x.cps.size<=sz then .ok (.int x.cps.size) M else .bad) (aY fa X.K μ H Q):=h
    split at h
    ·next c=>exact ⟨x,by rw [show v=.str x from hv],by rw [<- cV];exact c,aZ (v:=.int x.cps.size) hM h rfl⟩
    ·exact h.elim
   cases d<;>first|exact .inr (str _ rfl)|exact .inl (gen h)
theorem EJ:cD X (.type "tuple") (m5 fa X.K .tuple):=jr qI fun vs H Q h=>by
 obtain ⟨μ,M,ds,hM,r,h⟩:=h
 match ds,r,h with
 |[],_,h=>exact h.elim
 |d::_::_,_,h=>cases d<;>exact h.elim
 | [d], r, h =>
   obtain ⟨v,rfl,hv⟩:=nR r
   have gen:ag (match eF M d with|some xs=>.ok (.tup xs) M|none=>.bad) (aY fa X.K μ H Q)->∃p ys,[v]=[.ref p]/\((bV X.K H p ys/\∀l,H l=none->Q (.ref l) (upd H l (.tup ys)))\/(di X.K H p ys/\Q (.ref p) H)):=fun h=>by
    cases e:eF M d with
    |none=>rw [e] at h;exact h.elim
    | some xs =>
      rw [e] at h
      obtain ⟨a,vs,rfl,hq,r⟩:=bB hM hv e
      exact ⟨a,vs,rfl,.inl ⟨hq,gQ hM r h⟩⟩
   have tup:∀x,d=.tup x->∃p ys,[v]=[.ref p]/\((bV X.K H p ys/\∀l,H l=none->Q (.ref l) (upd H l (.tup ys)))\/(di X.K H p ys/\Q (.ref p) H)):=fun x e=>by
    subst e
    obtain ⟨a,vs,rfl,hq,r⟩:=id hv
    exact ⟨a,vs,rfl,.inr ⟨hq,aZ hM h hv⟩⟩
   cases d<;>first|exact tup _ rfl|exact gen h
theorem HP (m:Bool):cD X (.type "list") (m5 fa X.K (.list m)):=jr s9 fun vs H Q h=>by
 obtain ⟨μ,M,ds,hM,r,h⟩:=h
 match ds,r,h with
 |[],_,h=>exact h.elim
 |_::_::_,_,h=>exact h.elim
 | [d], r, h =>
   obtain ⟨v,rfl,hv⟩:=nR r
   have h:ag (match bG M d with|some xs=>bf m xs M|none=>.bad) (aY fa X.K μ H Q):=h
   cases e:bG M d with
   |none=>rw [e] at h;exact h.elim
   | some xs =>
     rw [e] at h
     obtain ⟨a,vs,rfl,hq,r⟩:=jg hM hv e
     obtain ⟨_,k⟩:=fN hM r h
     exact ⟨a,vs,rfl,hq,k⟩
end
end LD
namespace LD
open PySem PySem.Spec PyProof.Rows L2
section
variable {fa:Fa}{X:Cx}{μ:Mu}{H:Hp}{σ:L2.St}{pins:List (Addr×Obj)}{s:MI}{M:Mem}
theorem KW {d:D}{v:V}{k:Bool}(hM:RelM fa X.K μ H M)(h:Rep fa X.K μ H d v)(e:jN M d=some k):Bz X.K v H k:=by
 cases d with
 |non=>obtain rfl:v=.non:=h;exact (MO e).symm
 |bl b=>obtain rfl:v=.bl b:=h;exact (MO e).symm
 |int i=>obtain rfl:v=.int i:=h;exact (MO e).symm
 | str x =>
   obtain rfl:v=.str x:=h
   have e:(if x.cps.size<=sz then some (x.cps.size != 0) else none)=some k:=e
   split at e
   ·next c=>
    refine ⟨by rw [<- cV];exact c,?_⟩
    rw [<- MO e]
    show (x.cps.size != 0)=((x.cps.size:Int) != 0)
    rw [OB];simp
   ·cases e
 | tup ds =>
   obtain ⟨a,vs,rfl,hq,r⟩:=h
   refine .inr (.inl ⟨vs,hq,?_⟩)
   rw [<- MO e]
   have:=r.length
   cases vs<;>cases ds<;>simp_all
 | lst ds =>
   obtain ⟨a,vs,rfl,hq,r⟩:=bB (ds:=ds) hM h rfl
   refine .inl ⟨vs,hq,?_⟩
   rw [<- MO e]
   have:=r.length
   cases vs<;>cases ds<;>simp_all
 | frz ds =>
   obtain ⟨a,vs,rfl,hq,r⟩:=bB (ds:=ds) hM h rfl
   refine .inl ⟨vs,hq,?_⟩
   rw [<- MO e]
   have:=r.length
   cases vs<;>cases ds<;>simp_all
 | cell c =>
   have e:(M[c]?).map (fun ds=>!ds.isEmpty)=some k:=e
   cases e1:M[c]? with
   |none=>rw [e1] at e;cases e
   | some ds =>
     rw [e1] at e
     obtain ⟨a,vs,rfl,hq,r⟩:=bB (ds:=ds) hM h e1
     refine .inl ⟨vs,hq,?_⟩
     rw [<- MO e]
     have:=r.length
     cases vs<;>cases ds<;>simp_all
 |fn f=>cases e
 |exc y p=>cases e
theorem xF:∀{ds:List D}{bs:List Bool}{vs:List V}{us:List MG},boolsOf ds=some bs->aF fa X.K μ H ds vs->Vals vs us->PyProof.Rows.LSm.BoolsAre us bs:=by
 intro ds
 induction ds with
 | nil =>
   intro bs vs us e h r
   obtain rfl:vs=[]:=h
   cases r;cases e
   exact .nil
 | cons d ds ih =>
   intro bs vs us e h r
   obtain ⟨v,vr,rfl,h1,h2⟩:=h
   cases r with
   | cons r1 r2 =>
     cases d with
     | bl b =>
       have e:(boolsOf ds).map (b::·)=some bs:=e
       cases e1:boolsOf ds with
       |none=>rw [e1] at e;cases e
       | some cs =>
         rw [e1] at e
         have e2:b::cs=bs:=MO e
         subst e2
         obtain rfl:v=.bl b:=h1
         obtain rfl:_=Value.bool b:=r1
         exact .cons b (ih e1 h2 r2)
     |_=>cases e
theorem pA:cD X (.builtin "all") (fun xs H Q=>∃μ ds bs p vs,xs=[.ref p]/\X.calm=true/\bV X.K H p vs/\aF fa X.K μ H ds vs/\boolsOf ds=some bs/\Q (.bl (bs.all id)) H):=by
 intro pins s σ H xs us Q I r h
 obtain ⟨μ,ds,bs,p,vs,rfl,hc,hq,rl,eb,q⟩:=h
 obtain ⟨u,rfl,rx⟩:=vals1 r
 cases rx
 obtain ⟨its,rv,pl,hz⟩:=I.list hq
 have hb:=xF eb rl rv
 have hlt:p<s.heap.objs.size:=pl.lt
 refine call_all_walk (wpAny_pyIter_list pl.isList ?_)
 refine ⟨s.heap.objs.size,[s.heap.objs.size,p],[s.heap.objs.size],its.toArray.size,_,_,fun i=>(bs[i]?).getD true,rfl,Walks.list (A:=X.A.in1) (I.ok.hd hc) _ p (Nz hlt) its.toArray,
  ⟨⟨_,M8 _ rfl,rfl,rfl⟩,pl.isList.push _⟩,fun i v s' Q' E' hP hQ=>?_,fun h' tk hk=>?_⟩
 ·obtain ⟨b,e,rfl⟩:=hb.get i v (by simpa using hP)
  simp only [e,Option.getD_some] at hQ
  exact tqp hQ
 ·have e:((List.range its.toArray.size).all fun i=>(bs[i]?).getD true)=bs.all id:=by
   rw [MP,hb.length];exact PyProof.Rows.LSm.range_all bs
  rw [e]
  exact ⟨.bl _,H,I.kept (PyProof.Rows.LSm.kept_iter hk),rfl,q⟩
theorem Am:∀{ds:List D}{bs:List Int}{vs:List V}{us:List MG},intsOf ds=some bs->aF fa X.K μ H ds vs->Vals vs us->IntsAre us bs:=by
 intro ds
 induction ds with
 | nil =>
   intro bs vs us e h r
   obtain rfl:vs=[]:=h
   cases r;cases e
   exact .nil
 | cons d ds ih =>
   intro bs vs us e h r
   obtain ⟨v,vr,rfl,h1,h2⟩:=h
   cases r with
   | cons r1 r2 =>
     cases d with
     | int b =>
       have e:(intsOf ds).map (b::·)=some bs:=e
       cases e1:intsOf ds with
       |none=>rw [e1] at e;cases e
       | some cs =>
         rw [e1] at e
         have e2:b::cs=bs:=MO e
         subst e2
         obtain rfl:v=.int b:=h1
         obtain ⟨t,rfl⟩:=r1
         exact .cons b t (ih e1 h2 r2)
     |_=>cases e
theorem qJ:cD X (.builtin "sum") (fun xs H Q=>∃μ ds bs p vs,xs=[.ref p]/\X.calm=true/\bV X.K H p vs/\aF fa X.K μ H ds vs/\intsOf ds=some bs/\Q (.int bs.sum) H):=by
 intro pins s σ H xs us Q I r h
 obtain ⟨μ,ds,ns,p,vs,rfl,hc,hq,rl,eb,q⟩:=h
 obtain ⟨u,rfl,rx⟩:=vals1 r
 cases rx
 obtain ⟨its,rv,pl,hz⟩:=I.list hq
 have hi:=Am eb rl rv
 obtain ⟨xs,hx⟩:=hi.allInts.items
 have hl':s.heap.IsList p (intItems xs):=hx ▸ pl.isList
 refine sum_intListG (I.ok.hd hc) hl' fun h' tk t' hk=>?_
 have e1:ns=xs.toList.map (·.1):=by
  rw [<- nums_intItems,<- hx]
  exact (show numsOf its.toArray.toList=ns from hi.numsOf).symm
 have e2:preSum (numAt xs) xs.size=ns.sum:=by
  rw [preSum_eq,N4 (by simp),e1]
 rw [e2]
 exact ⟨.int _,H,I.kept hk,⟨t',rfl⟩,q⟩
theorem JL (hc:X.calm=true):cD X (.builtin "all") (m5 fa X.K .all):=jr (pA (fa:=fa)) fun vs H Q h=>by
 obtain ⟨μ,M,ds,hM,r,h⟩:=h
 match ds,r,h with
 |[],_,h=>exact h.elim
 |d::_::_,_,h=>exact h.elim
 | [d], r, h =>
   obtain ⟨v,rfl,hv⟩:=nR r
   have h:ag (match eF M d with|some xs=>(match boolsOf xs with|some bs=>.ok (.bl (bs.all id)) M|none=>.bad)|none=>.bad) (aY fa X.K μ H Q):=h
   cases e:eF M d with
   |none=>rw [e] at h;exact h.elim
   | some xs =>
     rw [e] at h
     simp only at h
     cases e2:boolsOf xs with
     |none=>rw [e2] at h;exact h.elim
     | some bs =>
       rw [e2] at h
       obtain ⟨a,vs,rfl,hq,r⟩:=bB hM hv e
       exact ⟨μ,xs,bs,a,vs,rfl,hc,hq,r,e2,aZ (v:=.bl (bs.all id)) hM h rfl⟩
theorem JJ (hc:X.calm=true):cD X (.builtin "sum") (m5 fa X.K .sum):=jr (qJ (fa:=fa)) fun vs H Q h=>by
 obtain ⟨μ,M,ds,hM,r,h⟩:=h
 match ds,r,h with
 |[],_,h=>exact h.elim
 |d::_::_,_,h=>exact h.elim
 | [d], r, h =>
   obtain ⟨v,rfl,hv⟩:=nR r
   have h:ag (match eF M d with|some xs=>(match intsOf xs with|some bs=>.ok (.int bs.sum) M|none=>.bad)|none=>.bad) (aY fa X.K μ H Q):=h
   cases e:eF M d with
   |none=>rw [e] at h;exact h.elim
   | some xs =>
     rw [e] at h
     simp only at h
     cases e2:intsOf xs with
     |none=>rw [e2] at h;exact h.elim
     | some bs =>
       rw [e2] at h
       obtain ⟨a,vs,rfl,hq,r⟩:=bB hM hv e
       exact ⟨μ,xs,bs,a,vs,rfl,hc,hq,r,e2,aZ (v:=.int bs.sum) hM h rfl⟩
noncomputable def tyName:Ty->String
 |.int=>"int" | .bool=>"bool" | .str=>"str" | .tuple=>"tuple" | .list=>"list" | .own _=>""
noncomputable def Kk:D->String
 |.non=>"NoneType" | .bl _=>"bool" | .int _=>"int" | .str _=>"str" | .tup _=>"tuple" | _=>"list"
theorem IX (t:Ty)(d:D)(b:Bool)(ht:∀c,t≠.own c)(e:dF t d=some b):PySem.W.kitOne X.K (.type (Kk d)) (.type (tyName t))=some b:=by
 cases t with
 |own c=>exact absurd rfl (ht c)
 |_=>cases d<;>first|(cases (show (none:Option Bool)=some b from e))|(have e':=MO e;subst e';(first|rfl|decide +kernel))
theorem zC {d:D}{v:V}{b:Bool}{t:Ty}(hM:RelM fa X.K μ H M)(h:Rep fa X.K μ H d v)(e:dF t d=some b)(I:Inv X pins σ H s){u c:MG}(r:RelV v u){Q:MG->MI->Prop}
 (ek:PySem.W.kitOne X.K (.type (Kk d)) c=some b) (q:∀tk,Q (.bool b) {s with toks:=tk}):wpAny (model X.prog X.w) X.A (call (.builtin "isinstance") [u,c]) Q X.xe s:=by
 cases d with
 |non=>obtain rfl:v=.non:=h;exact jC I r .non ek q
 |bl x=>obtain rfl:v=.bl x:=h;exact jC I r (.bl x) ek q
 |int x=>obtain rfl:v=.int x:=h;exact jC I r (.int x) ek q
 |str x=>obtain rfl:v=.str x:=h;exact jC I r (.str x) ek q
 | tup ds =>
   obtain ⟨a,vs,rfl,hq,_⟩:=h
   obtain rfl:u=Value.ref a:=r
   obtain ⟨its,rv,⟨o,h1,h2,_⟩,_⟩:=I.tuple hq
   exact NJ PySem.W.kitx_tuple I.kIn ⟨o,h1,h2⟩ ek (fun z=>nomatch z) q
 | lst ds =>
   obtain ⟨a,vs,rfl,hq,_⟩:=bB (ds:=ds) hM h rfl
   obtain rfl:u=Value.ref a:=r
   obtain ⟨its,rv,⟨o,n,h1,h2,_⟩,_⟩:=I.list hq
   exact NJ PySem.W.kitx_list I.kIn ⟨o,h1,h2⟩ ek (fun z=>nomatch z) q
 | frz ds =>
   obtain ⟨a,vs,rfl,hq,_⟩:=bB (ds:=ds) hM h rfl
   obtain rfl:u=Value.ref a:=r
   obtain ⟨its,rv,⟨o,n,h1,h2,_⟩,_⟩:=I.list hq
   exact NJ PySem.W.kitx_list I.kIn ⟨o,h1,h2⟩ ek (fun z=>nomatch z) q
 | cell k =>
   obtain ⟨a,rfl,hk⟩:=h
   obtain ⟨ds,vs,_,hq,_⟩:=hM.mu_lt hk
   obtain rfl:u=Value.ref a:=r
   obtain ⟨its,rv,⟨o,n,h1,h2,_⟩,_⟩:=I.list (bV.of hq)
   exact NJ PySem.W.kitx_list I.kIn ⟨o,h1,h2⟩ ek (fun z=>nomatch z) q
 |fn f=>cases e
 |exc y p=>cases e
noncomputable def Ji (fa:Fa)(K:MF)(t:Ty):List V->Hp->VK->Prop:=fun vs H Q=>∃μ M d v b,vs=[v,.ty (tyName t)]/\RelM fa K μ H M/\Rep fa K μ H d v/\dF t d=some b/\Q (.bl b) H
theorem HQ (t:Ty)(ht:∀c,t≠.own c):cD X (.builtin "isinstance") (Ji fa X.K t):=by
 intro pins s σ H xs us Q I r h
 obtain ⟨μ,M,d,v,b,rfl,hM,hv,e,q⟩:=h
 obtain ⟨u,w,rfl,r1,r2⟩:=vals2 r
 obtain rfl:w=Value.type (tyName t):=r2
 exact zC hM hv e I r1 (IX t d b ht e) fun tk=>⟨.bl b,H,I.tok _,rfl,q⟩
end
end LD
namespace LD
open PySem PySem.Spec PyProof.Rows L2
section
variable {fa:Fa}{X:Cx}
abbrev DE (fa:Fa)(X:Cx)(e:Expr)(g:Env->Mem->Res D):Prop:=PE X e (tE fa X.K g)
abbrev DT (fa:Fa)(X:Cx)(e:Expr)(g:Env->Mem->Res Bool):Prop:=PT X e (tT fa X.K g)
abbrev DW (fa:Fa)(X:Cx)(e:Expr)(g:Env->Mem->Res Bool):Prop:=PW X e (tT fa X.K g)
abbrev DA (fa:Fa)(X:Cx)(es:List Expr)(g:Env->Mem->Res (List D)):Prop:=PA X es (tA fa X.K g)
abbrev DS (fa:Fa)(X:Cx)(st:Stmt)(g:Env->Mem->Res Fl):Prop:=PS X st (tF fa X g)
abbrev kU (fa:Fa)(X:Cx)(st:List Stmt)(g:Env->Mem->Res Fl):Prop:=lU X st (tF fa X g)
variable {a b d:Expr}{ga gb gd:Env->Mem->Res D}{pos:Pos}
theorem JS {i:Nat}{x:Str}(hN:X.N[i]?=some x)(hv:qB X.env.scope x)(hd:(x==("__debug__":Str))=false)(hcd:(x==("__classdict__":Str))=false) :
 DE fa X (.Name x pos) (fun Z M=>bK M (Z[i]?.getD none)):=br (nV hN hv hd hcd) fun σ H Q ⟨μ,Z,M,hE,hM,h⟩=>by
 obtain ⟨d,e,w⟩:=jZ h
 have e':Z[i]?=some (some d):=by
  cases q:Z[i]? with
  |none=>rw [q] at e;cases e
  |some o=>rw [q] at e;simp at e;rw [e]
 obtain ⟨v,h1,h2⟩:=hE.at' i d e'
 exact ⟨v,h1,aZ hM w h2⟩
theorem i9 {e:Expr}{dc:D}{v:V}(h:PE X e (tC v))(r:∀μ H,Rep fa X.K μ H dc v):DE fa X e (fun _ M=>.ok dc M):=br h fun σ H Q ⟨μ,Z,M,hE,hM,h⟩=>aZ hM h (r μ H)
theorem J2 {i:Int}{j:Nat}:DE fa X (.Constant (.int i) j pos) (fun _ M=>.ok (.int i) M):=i9 (v:=.int i) xO fun _ _=>rfl
theorem Ir {i:Bool}{j:Nat}:DE fa X (.Constant (.bool i) j pos) (fun _ M=>.ok (.bl i) M):=i9 (v:=.bl i) Jr fun _ _=>rfl
theorem JU {i:Str}{j:Nat}:DE fa X (.Constant (.str i) j pos) (fun _ M=>.ok (.str i) M):=i9 (v:=.str i) GH fun _ _=>rfl
theorem JY {j:Nat}:DE fa X (.Constant .none j pos) (fun _ M=>.ok .non M):=i9 (v:=.non) GL fun _ _=>rfl
theorem t2 {μ:Mu}{H:Hp}{σ:L2.St}{Z:Env}{M:Mem}{β:Type}{f:D->D->Mem->Res β}{P:β->Mem->Prop}{R:V->V->Hp->Prop}(hE:a8 fa X.K μ H σ Z)(hM:RelM fa X.K μ H M)
 (h:ag ((ga Z M).bind fun x M=>(gb Z M).bind fun y M=>f x y M) P)
 (k:∀x y M2 v u H2 μ2,Ext μ H μ2 H2->a8 fa X.K μ2 H2 σ Z->RelM fa X.K μ2 H2 M2->Rep fa X.K μ2 H2 x v->Rep fa X.K μ2 H2 y u->ag (f x y M2) P->R v u H2) :
 tE fa X.K ga σ H fun v H1=>tE fa X.K gb σ H1 fun u H2=>R v u H2:=
 t1 hE hM h fun x M1 v H1 μ1 x1 hE1 hM1 r1 h1=>t1 hE1 hM1 h1 fun y M2 u H2 μ2 x2 hE2 hM2 r2 h2=>k x y M2 v u H2 μ2 (x1.trans x2) hE2 hM2 (r1.ext x2) r2 h2
theorem J7 (m:Bool)(o:mS)(ha:DE fa X a ga)(hb:DE fa X b gb):DE fa X (.BinOp a (binOp o) b pos) (fun Z M=>(ga Z M).bind fun x M=>(gb Z M).bind fun y M=>gY m o x y M):=
 br (Jn (Kf m o) ha hb) fun σ H Q ⟨μ,Z,M,hE,hM,h⟩=>t2 hE hM h fun x y M2 v u H2 μ2 x2 hE2 hM2 r1 r2 h2=>⟨μ2,M2,x,y,hM2,r1,r2,jz h2 x2⟩
theorem n4 {r:Option Bool}{M:Mem}{P:D->Mem->Prop}(h:ag ((bK M r).bind fun b M=>.ok (.bl b) M) P):∃b,r=some b/\P (.bl b) M:=by
 obtain ⟨b,M1,e,q⟩:=aI h
 cases r with
 |none=>cases e
 |some b'=>cases e;exact ⟨_,rfl,q⟩
theorem J5 (hu:Rm X)(o:iJ)(ha:DE fa X a ga)(hb:DE fa X b gb)(hm:behindInMarks (dQ o) b=false) :
 DE fa X (.Compare a [dQ o] [b] pos) (fun Z M=>(ga Z M).bind fun x M=>(gb Z M).bind fun y M=>(bK M (bx o x y M)).bind fun b M=>.ok (.bl b) M):=
 br (uD (mz hu o) ha hb hm) fun σ H Q ⟨μ,Z,M,hE,hM,h⟩=>t2 hE hM h fun x y M2 v u H2 μ2 x2 hE2 hM2 r1 r2 h2=>by
  obtain ⟨b,e,q⟩:=n4 h2
  exact ⟨μ2,M2,x,y,b,hM2,r1,r2,e,aZ (v:=.bl b) hM2 (q.ext x2) rfl⟩
theorem HY (hu:Rm X)(o:iJ)(ha:DE fa X a ga)(hb:DE fa X b gb)(hm:behindInMarks (dQ o) b=false) :
 DT fa X (.Compare a [dQ o] [b] pos) (fun Z M=>((ga Z M).bind fun x M=>(gb Z M).bind fun y M=>(bK M (bx o x y M)).bind fun b M=>.ok (.bl b) M).bind fun x M=>bK M (jN M x)):=
 jW (oS (mz hu o) ha hb hm) fun σ H Q ⟨μ,Z,M,hE,hM,h⟩=>by
  obtain ⟨z,M3,e,q⟩:=aI h
  have h':ag ((ga Z M).bind fun x M=>(gb Z M).bind fun y M=>(bK M (bx o x y M)).bind fun b M=>.ok (.bl b) M) (fun d M=>d=z/\M=M3):=by rw [e];exact ⟨rfl,rfl⟩
  refine t2 hE hM h' fun x y M2 v u H2 μ2 x2 hE2 hM2 r1 r2 h2=>?_
  obtain ⟨b,e1,e2,e3⟩:=n4 h2
  subst e2 e3
  exact ⟨μ2,M2,x,y,b,hM2,r1,r2,e1,b,rfl,q H2 μ2 x2 hM2⟩
theorem Dv {g:Env->Mem->Res D}{σ:L2.St}{H:Hp}{Q:Bool->Hp->Prop}(hb:∀Z M x M',g Z M=.ok x M'->∃k,x=.bl k)(h:tT fa X.K (fun Z M=>(g Z M).bind fun x M=>bK M (jN M x)) σ H Q) :
 tE fa X.K g σ H (fun x H'=>∃k,x=.bl k/\Q k H'):=by
 obtain ⟨μ,Z,M,hE,hM,h⟩:=h
 obtain ⟨x,M1,e,q⟩:=aI h
 obtain ⟨k,rfl⟩:=hb Z M x M1 e
 refine ⟨μ,Z,M,hE,hM,?_⟩
 rw [e]
 intro v H1 μ1 x1 m1 r1
 obtain rfl:v=.bl k:=r1
 exact ⟨k,rfl,q H1 μ1 x1 m1⟩
theorem CB {o o':iJ}{gc:Env->Mem->Res D}(σ:L2.St)(H:Hp)(Q:VK):tE fa X.K (fun Z M=>(ga Z M).bind fun x M=>(gb Z M).bind fun y M=>(bK M (bx o x y M)).bind fun k M=>
 if k then (gc Z M).bind fun z M=>(bK M (bx o' y z M)).bind fun b M=>.ok (.bl b) M else .ok (.bl false) M) σ H Q->rG (gp fa X.K o) (gp fa X.K o') (tE fa X.K ga) (tE fa X.K gb) (tE fa X.K gc) σ H Q:=fun ⟨μ,Z,M,hE,hM,h⟩=>by
 refine t2 hE hM h fun x y M2 v u H2 μ2 x2 hE2 hM2 r1 r2 h2=>?_
 obtain ⟨k,M3,e,q⟩:=aI h2
 cases ec:bx o x y M2 with
 |none=>rw [ec] at e;cases e
 | some k' =>
   rw [ec] at e
   cases e
   refine ⟨μ2,_,x,y,k,hM2,r1,r2,ec,k,rfl,?_⟩
   cases k with
   |false=>exact aZ (v:=.bl false) hM2 (aY.ext q x2) rfl
   | true =>
     refine t1 hE2 hM2 q fun z M4 w H4 μ4 x4 hE4 hM4 r4 h4=>?_
     obtain ⟨b,e4,q4⟩:=n4 h4
     exact ⟨μ4,M4,y,z,b,hM4,r2.ext x4,r4,e4,aZ (v:=.bl b) hM4 (q4.ext (x2.trans x4)) rfl⟩
theorem J6 (hu:Rm X)(o o':iJ){gc:Env->Mem->Res D}(ha:DE fa X a ga)(hb:DE fa X b gb)(hc:DE fa X d gc)(hm:lastMarks [dQ o,dQ o'] [b,d]=false) :
 DE fa X (.Compare a [dQ o,dQ o'] [b,d] pos) (fun Z M=>(ga Z M).bind fun x M=>(gb Z M).bind fun y M=>(bK M (bx o x y M)).bind fun k M=>
  if k then (gc Z M).bind fun z M=>(bK M (bx o' y z M)).bind fun b M=>.ok (.bl b) M else .ok (.bl false) M):=br (Az (mz hu o) (mz hu o') ha hb hc hm) CB
theorem AF {r:Option Bool}{M M':Mem}{x:D}(h:((bK M r).bind fun b M=>Res.ok (.bl b) M)=.ok x M'):∃k,x=.bl k:=by
 cases r with
 |none=>cases h
 |some b=>cases h;exact ⟨b,rfl⟩
theorem eB {α β:Type}{r:Res α}{f:α->Mem->Res β}{x:β}{M:Mem}(h:r.bind f=.ok x M):∃a M1,r=.ok a M1/\f a M1=.ok x M:=by
 cases r with
 |ok a M1=>exact ⟨a,M1,rfl,h⟩
 |err=>cases h
 |bad=>cases h
theorem HZ (hu:Rm X)(o o':iJ){gc:Env->Mem->Res D}(ha:DE fa X a ga)(hb:DE fa X b gb)(hc:DE fa X d gc)(hm:lastMarks [dQ o,dQ o'] [b,d]=false) :
 DT fa X (.Compare a [dQ o,dQ o'] [b,d] pos) (fun Z M=>((ga Z M).bind fun x M=>(gb Z M).bind fun y M=>(bK M (bx o x y M)).bind fun k M=>
  if k then (gc Z M).bind fun z M=>(bK M (bx o' y z M)).bind fun b M=>.ok (.bl b) M else .ok (.bl false) M).bind fun x M=>bK M (jN M x)):=
 jW (Au (mz hu o) (mz hu o') ha hb hc hm) fun σ H Q h=>CB σ H _ (Dv (fun Z M x M' e=>by
  obtain ⟨x1,M1,_,e⟩:=eB e
  obtain ⟨x2,M2,_,e⟩:=eB e
  obtain ⟨k,M3,_,e⟩:=eB e
  cases k with
  |false=>cases e;exact ⟨_,rfl⟩
  | true =>
    obtain ⟨x4,M4,_,e⟩:=eB e
    exact AF e) h)
theorem JZ (ha:DE fa X a ga):DE fa X (.UnaryOp .USub a pos) (fun Z M=>(ga Z M).bind fun x M=>match x with|.int i=>.ok (.int (-i)) M|_=>.bad):=
 br (B7 wO ha) fun σ H Q ⟨μ,Z,M,hE,hM,h⟩=>t1 hE hM h fun x M1 v H1 μ1 x1 hE1 hM1 r1 h1=>by
  cases x with
  |int i=>exact ⟨i,r1,aZ (v:=.int (-i)) hM1 (aY.ext h1 x1) rfl⟩
  |_=>exact h1.elim
theorem J8 {rest:List Expr}(ha:DE fa X a ga)(hb:DE fa X (.BoolOp .And (b::rest) pos) gb):DE fa X (.BoolOp .And (a::b::rest) pos) (fun Z M=>(ga Z M).bind fun x M=>match x with
 |.bl true=>gb Z M
 |.bl false=>.ok (.bl false) M
 |_=>.bad):=
 br (GQ ha hb) fun σ H Q ⟨μ,Z,M,hE,hM,h⟩=>t1 hE hM h fun x M1 v H1 μ1 x1 hE1 hM1 r1 h1=>by
  cases x with
  | bl k =>
    refine ⟨k,r1,?_⟩
    cases k with
    |true=>exact ⟨μ1,Z,M1,hE1,hM1,jz h1 x1⟩
    |false=>exact aZ (v:=.bl false) hM1 (aY.ext h1 x1) rfl
  |_=>exact h1.elim
theorem LZ {rest:List Expr}(ha:DE fa X a ga)(hb:DE fa X (.BoolOp .Or (b::rest) pos) gb):DE fa X (.BoolOp .Or (a::b::rest) pos) (fun Z M=>(ga Z M).bind fun x M=>match x with
 |.bl true=>.ok (.bl true) M
 |.bl false=>gb Z M
 |_=>.bad):=
 br (Jm ha hb) fun σ H Q ⟨μ,Z,M,hE,hM,h⟩=>t1 hE hM h fun x M1 v H1 μ1 x1 hE1 hM1 r1 h1=>by
  cases x with
  | bl k =>
    refine ⟨k,r1,?_⟩
    cases k with
    |true=>exact aZ (v:=.bl true) hM1 (aY.ext h1 x1) rfl
    |false=>exact ⟨μ1,Z,M1,hE1,hM1,jz h1 x1⟩
  |_=>exact h1.elim
theorem CK {op:PySem.BoolOp}(ha:DE fa X a ga):DE fa X (.BoolOp op [a] pos) ga:=GJ ha
theorem JX (ha:DE fa X a ga):DE fa X (.UnaryOp .Not a pos) (fun Z M=>(ga Z M).bind fun x M=>match x with|.bl k=>.ok (.bl (!k)) M|_=>.bad):=
 br (GK ha) fun σ H Q ⟨μ,Z,M,hE,hM,h⟩=>t1 hE hM h fun x M1 v H1 μ1 x1 hE1 hM1 r1 h1=>by
  cases x with
  |bl k=>exact ⟨k,r1,aZ (v:=.bl (!k)) hM1 (aY.ext h1 x1) rfl⟩
  |_=>exact h1.elim
variable {ta tb:Env->Mem->Res Bool}
theorem EO (ha:DT fa X a ta):DW fa X (.BoolOp .And [a] pos) ta:=Eb ha
theorem HV (ha:DT fa X a ta):DW fa X (.BoolOp .Or [a] pos) ta:=Gu ha
theorem Kv {b':Res Bool}{μ μ':Mu}{H H':Hp}{Q:Bool->Hp->Prop}(x:Ext μ H μ' H')(h:ag b' fun b M'=>∀H'' μ'',Ext μ H μ'' H''->RelM fa X.K μ'' H'' M'->Q b H''):ag b' fun b M'=>∀H'' μ'',Ext μ' H' μ'' H''->RelM fa X.K μ'' H'' M'->Q b H'':=
 aO h fun b M q H'' μ'' y m=>q H'' μ'' (x.trans y) m
theorem HW {rest:List Expr}(ha:DT fa X a ta)(hb:DW fa X (.BoolOp .And (b::rest) pos) tb):DW fa X (.BoolOp .And (a::b::rest) pos) (fun Z M=>(ta Z M).bind fun k M=>if k then tb Z M else .ok false M):=
 xH (Gv ha hb) fun σ H Q ⟨μ,Z,M,hE,hM,h⟩=>xj hE hM h fun k M1 H1 μ1 x1 hE1 hM1 h1=>by
  cases k with
  |true=>exact ⟨μ1,Z,M1,hE1,hM1,Kv x1 h1⟩
  |false=>exact h1 H1 μ1 x1 hM1
theorem JP {rest:List Expr}(ha:DT fa X a ta)(hb:DW fa X (.BoolOp .Or (b::rest) pos) tb):DW fa X (.BoolOp .Or (a::b::rest) pos) (fun Z M=>(ta Z M).bind fun k M=>if k then .ok true M else tb Z M):=
 xH (Jk ha hb) fun σ H Q ⟨μ,Z,M,hE,hM,h⟩=>xj hE hM h fun k M1 H1 μ1 x1 hE1 hM1 h1=>by
  cases k with
  |true=>exact h1 H1 μ1 x1 hM1
  |false=>exact ⟨μ1,Z,M1,hE1,hM1,Kv x1 h1⟩
theorem HX (ha:DT fa X a ta):DT fa X (.UnaryOp .Not a pos) (fun Z M=>(ta Z M).bind fun k M=>.ok (!k) M):=
 jW (Gw ha) fun σ H Q ⟨μ,Z,M,hE,hM,h⟩=>xj hE hM h fun k M1 H1 μ1 x1 hE1 hM1 h1=>h1 H1 μ1 x1 hM1
theorem Bh (ha:DE fa X a ga)(he:∀whole,isTrue a X.env whole=(do let v <- whole;standAt a.pos;holding [v] (truthy v))):DT fa X a (fun Z M=>(ga Z M).bind fun x M=>bK M (jN M x)):=
 jW (As ha he) fun σ H Q ⟨μ,Z,M,hE,hM,h⟩=>t1 hE hM h fun x M1 v H1 μ1 x1 hE1 hM1 r1 h1=>by
  obtain ⟨k,e,q⟩:=jZ h1
  exact ⟨k,KW hM1 r1 e,q H1 μ1 x1 hM1⟩
theorem J1 {c:Expr}{gc:Env->Mem->Res Bool}(hc:DT fa X c gc)(ha:DE fa X a ga)(hb:DE fa X b gb):DE fa X (.IfExp c a b pos) (fun Z M=>(gc Z M).bind fun k M=>if k then ga Z M else gb Z M):=
 br (sd hc ha hb) fun σ H Q ⟨μ,Z,M,hE,hM,h⟩=>xj hE hM h fun k M1 H1 μ1 x1 hE1 hM1 h1=>by
  cases k with
  |true=>exact ⟨μ1,Z,M1,hE1,hM1,jz h1 x1⟩
  |false=>exact ⟨μ1,Z,M1,hE1,hM1,jz h1 x1⟩
theorem J3 (ha:DE fa X a ga)(hb:DE fa X b gb)(hs:kg b):DE fa X (.Subscript a b pos) (fun Z M=>(ga Z M).bind fun x M=>(gb Z M).bind fun y M=>bK M (cH x y M)):=
 br (B8 JD ha hb hs) fun σ H Q ⟨μ,Z,M,hE,hM,h⟩=>t2 hE hM h fun x y M2 v u H2 μ2 x2 hE2 hM2 r1 r2 h2=>by
  obtain ⟨d,e,q⟩:=jZ h2
  exact ⟨μ2,M2,x,y,d,hM2,r1,r2,e,q.ext x2⟩
noncomputable def DO (fa:Fa)(X:Cx)(e:Option Expr)(hp:Bool)(g:Env->Mem->Res D):Prop:=PO X e fun σ H Q=>∃μ Z M,a8 fa X.K μ H σ Z/\RelM fa X.K μ H M/\ag (g Z M) fun d M'=>∃o,dn hp d=true/\nW d=some o/\∀H' μ',Ext μ H μ' H'->RelM fa X.K μ' H' M'->Q o H'
theorem EW:DO fa X none false (fun _ M=>.ok .non M):=fun pins s σ H Q I ⟨μ,Z,M,hE,hM,o,_,e,k⟩=>by
 cases e
 exact Eh pins s σ H Q I (k H μ .refl hM)
theorem EV (ha:DE fa X a ga):DO fa X (some a) true ga:=fun pins s σ H Q I ⟨μ,Z,M,hE,hM,h⟩=>Eg ha pins s σ H Q I ⟨μ,Z,M,hE,hM,aO h fun d M' ⟨o,p,e,k⟩ v H' μ' x m r=>by
 cases d with
 |int i=>cases e;exact ⟨i,r,k H' μ' x m⟩
 |_=>cases p⟩
theorem part_of {hp:Bool}{d:D}(h:dn hp d=true):∃o,nW d=some o:=by
 cases hp<;>cases d<;>first|exact ⟨_,rfl⟩|cases h
theorem JV (m hl hh:Bool){lo hi:Option Expr}{gl gh:Env->Mem->Res D}{p2:Pos}(ha:DE fa X a ga)(hlo:DO fa X lo hl gl)(hhi:DO fa X hi hh gh):DE fa X (.Subscript a (.Slice lo hi none p2) pos)
 (fun Z M=>(ga Z M).bind fun x M=>(gl Z M).bind fun l M=>(gh Z M).bind fun h M=>if dn hl l&&dn hh h then fP m x l h M else .bad):=
 br (r9 (DQ (fa:=fa) m) ha hlo hhi) fun σ H Q ⟨μ,Z,M,hE,hM,h⟩=>t1 hE hM h fun x M1 v H1 μ1 x1 hE1 hM1 r1 h1=>by
  obtain ⟨l,M2,e2,h2⟩:=aI h1
  obtain ⟨u,M3,e3,h3⟩:=aI h2
  split at h3
  ·next c=>
   rw [MM] at c
   obtain ⟨ol,el⟩:=part_of c.1
   obtain ⟨ou,eu⟩:=part_of c.2
   refine ⟨μ1,Z,M1,hE1,hM1,?_⟩
   rw [e2]
   refine ⟨ol,c.1,el,fun H2 μ2 x2 hM2=>⟨μ2,Z,M2,hE1.ext x2,hM2,?_⟩⟩
   rw [e3]
   exact ⟨ou,c.2,eu,fun H3 μ3 x3 hM3=>⟨μ3,M3,x,l,u,hM3,(r1.ext x2).ext x3,el,eu,jz h3 ((x1.trans x2).trans x3)⟩⟩
  ·exact h3.elim
theorem Ij:DA fa X [] (fun _ M=>.ok [] M):=xX eT fun σ H Q ⟨μ,Z,M,hE,hM,h⟩=>h [] H μ .refl hM rfl
theorem E6 {es:List Expr}{gs:Env->Mem->Res (List D)}(ha:DE fa X a ga)(hs:DA fa X es gs)(h0:starEach (a::es) X.env=(false,eval a X.env)::starEach es X.env) :
 DA fa X (a::es) (fun Z M=>(ga Z M).bind fun x M=>(gs Z M).bind fun xs M=>.ok (x::xs) M):=
 xX (bO ha hs h0) fun σ H Q ⟨μ,Z,M,hE,hM,h⟩=>t1 hE hM h fun x M1 v H1 μ1 x1 hE1 hM1 r1 h1=>pQ hE1 hM1 h1 fun xs M2 vs H2 μ2 x2 hE2 hM2 r2 h2=>h2 (v::vs) H2 μ2 (x1.trans x2) hM2 ⟨v,vs,rfl,r1.ext x2,r2⟩
theorem JT {es:List Expr}{gs:Env->Mem->Res (List D)}{k:Nat}(hs:DA fa X es gs):DE fa X (.Tuple es k pos) (fun Z M=>(gs Z M).bind kD):=
 br (GG hs) fun σ H Q ⟨μ,Z,M,hE,hM,h⟩=>pQ hE hM h fun xs M1 vs H1 μ1 x1 hE1 hM1 r1 h1=>by
  unfold kD at h1
  split at h1
  ·next c=>exact ⟨by rw [r1.length,<- cV];exact c,gQ hM1 r1 (aY.ext h1 x1)⟩
  ·exact h1.elim
theorem J0 (m:Bool){es:List Expr}{gs:Env->Mem->Res (List D)}(hs:DA fa X es gs):DE fa X (.List es pos) (fun Z M=>(gs Z M).bind (bf m)):=
 br (GN hs) fun σ H Q ⟨μ,Z,M,hE,hM,h⟩=>pQ hE hM h fun xs M1 vs H1 μ1 x1 hE1 hM1 r1 h1=>by
  obtain ⟨c,k⟩:=fN hM1 r1 (jz h1 x1)
  exact ⟨by rw [r1.length,<- cV];exact c,k⟩
end
end LD
namespace LD
open PySem PySem.Spec PyProof.Rows L2
theorem lO (o:Obj)(f:Array MG->Array MG):(o.mapFields f).dict=o.dict:=by
 obtain ⟨c,d,dt,sl⟩:=o
 cases dt<;>rfl
section
variable {P:Na}{w:Nd}{M:Model}{A:NL}{E:MG->MI->Prop}{base:Heap}{env:Nx}{outer:List Nx}{L a C:Addr}{dx:Option Addr}{New:Addr->Prop}{H:Hp}{s:MI}{Q:Unit->MI->Prop}
theorem uc {oe:Obj}{vs:Array MG}{head:MG}{had:Bool}(hfr:A.frames=some (env::outer))(hl:s.heap.FunFrames base (env::outer))(hf:env.frame=some L)
 (he:s.heap.get? a=some oe) (hd:oe.data=.fields vs) (hsz:1<vs.size)
 (h:∀h' T oT ts,(∀b o,b∉eU (env::outer)->b≠a->s.heap.get? b=some o->h'.get? b=some o)->(∀b o,b≠a->s.heap.get? b=some o->∃sl,h'.get? b=some {o with slots:=sl})->s.heap.objs.size<=T->T≠a->
  h'.get? a=some (oe.mapFields (·.setIfInBounds 1 (.ref T)))->h'.get? T=some oT->oT.data=.fields ts->ts[3]?=some .none->Q () {s with heap:=h'}) :
 wpAny M A (do let f <- frameOf env;let pl <- entryPlaceOf L had;let b <- EntryCells.newEntry head f .none (rawInt L) .none pl;setField (.ref a) 1 b) (fun _ s'=>wpAny M A (setFlight (.ref a) none) Q E s') E s:=by
 have hene:a∉eU (env::outer):=fun hm=>by
  obtain ⟨_,o,ho,hnf⟩:=hl.mem hm
  rw [he] at ho;cases ho;exact hnf vs hd
 refine tqa (wpAny_frameOf_fun hfr hl hf fun h₁ hs₁=>?_)
 refine tqa (wpAny_entryPlaceOf fun pl hpl=>?_)
 unfold EntryCells.newEntry newFields
 refine tqa (wpAny_newObj_type ?_ (hpl.sizeOk5 _ _ _ _ _))
 have he₁:h₁.get? a=some oe:=(hs₁.2.1 a hene).trans he
 generalize ho:({cls:=.type "traceback",dict:=none,data:=.fields ([head,.ref L,.none,rawInt L,.none]++(if pl.isEmpty then List.replicate 6 Value.none else pl)).toArray}:Obj)=o
 have hod:o.data=.fields ([head,.ref L,.none,rawInt L,.none]++(if pl.isEmpty then List.replicate 6 Value.none else pl)).toArray:=by rw [<- ho]
 have he₂:=MJ (h:=h₁) o he₁
 refine wpAny_setField he₂ hd hsz ?_
 have hTe:h₁.objs.size≠a:=NR (MS he₁)
 have hd₃:=N3 hd (·.setIfInBounds 1 (Value.ref h₁.objs.size))
 have he₃:=N9 (Obj.mapFields (·.setIfInBounds 1 (Value.ref h₁.objs.size))) he₂ (OJ hd₃)
 have hT₃:=(NO (h₁.push o) (Obj.mapFields (·.setIfInBounds 1 (Value.ref h₁.objs.size))) (NV hTe)).trans (M8 h₁ (OJ hod))
 unfold setFlight
 refine tqa (tqf he₃ hd₃ (x:=.ref h₁.objs.size) (by simp [hsz]) ?_)
 rw [if_pos (show (Value.ref h₁.objs.size != Value.none)=true from by simp)]
 refine wpAny_setField hT₃ hod (by simp only [MP,NG,ND,List.length_nil]<;>omega) ?_
 have keep:∀b u,b≠a->h₁.get? b=some u->(((h₁.push o).update a (Obj.mapFields (·.setIfInBounds 1 (Value.ref h₁.objs.size)))).update h₁.objs.size (Obj.mapFields (·.setIfInBounds 3 ((none:Option Addr).elim Value.none fun f=>rawInt f)))).get? b=some u:=fun b u hbe hb=>by
  have hbT:h₁.objs.size≠b:=NR (MS hb)
  rw [NO _ _ hbT,NO _ _ (NV hbe)]
  exact MJ _ hb
 refine h _ h₁.objs.size _ _ (fun b u hb hbe q=>keep b u hbe ((hs₁.2.1 b hb).trans q)) (fun b u hbe q=>?_) (Nat.le_of_eq hs₁.1.symm) hTe ?_ (N9 _ hT₃ (OJ (N3 hod _))) (N3 hod _) ?_
 ·obtain ⟨sl,e⟩:=hs₁.2.2 b u q
  exact ⟨sl,keep b _ hbe e⟩
 ·rw [NO _ _ hTe];exact he₃
 ·first|(simp;done)|(rcases hpl with rfl|⟨_,_,_,_,_,_,_,rfl⟩<;>simp)
theorem uH (hfr:A.frames=some (env::outer))(hl:s.heap.FunFrames base (env::outer))(hf:env.frame=some L)(hF:lX New C dx a s.heap H)(hN:∀b,s.heap.objs.size<=b->New b)(hok:dN P w H s.heap)(hfree:∀b∈eU (env::outer),H b=none)
 (h:∀h' ch,(∀b∈ch,New b/\H b=none/\∃o vs,s.heap.get? b=some o/\o.data=.fields vs)->Un (eU (env::outer)) ch H H s.heap h'->dN P w H h'->lX New C dx a h' H->Q () {s with heap:=h'}) :
 wpAny M A (noteFrame (.ref a) env) (fun _ s1=>wpAny M A (setFlight (.ref a) none) Q E s1) E s:=by
 obtain ⟨na,ha,oe,vs,he,hc,hdx,hd,tr⟩:=hF
 have fin:∀h' ch,(∀b∈ch,New b/\H b=none/\∃o vs,s.heap.get? b=some o/\o.data=.fields vs)->(∀b o,b∉eU (env::outer)->b∉ch->s.heap.get? b=some o->h'.get? b=some o)->(∀b o,b∉ch->s.heap.get? b=some o->∃sl,h'.get? b=some {o with slots:=sl})->lX New C dx a h' H->Q () {s with heap:=h'}:=fun h' ch hch keep slot fl=>by
  refine h h' ch hch ⟨fun b o q _ hb hx=>keep b o hb hx q,fun b o q _ _ hx=>slot b o hx q,fun _ _ _ n _=>n,fun b o q hx=>let ⟨sl,e⟩:=slot b o hx q;⟨_,e⟩,fun _ _ e=>e,fun _ _ _ e=>e,fun b ps e=>⟨#[],by rw [e];simp⟩⟩ (fun b u e=>(hok b u e).stay (fun c v hc q=>?_) (fun _ q=>q) fun _ _ q=>q) fl
  have nn:H c≠none:=by rcases hc with z|z<;>(intro z';first|(rw [z,e] at z';cases z')|(rw [z] at z';cases z'))
  exact keep c v (fun z=>nn (hfree c z)) (fun z=>nn (hch c z).2.1) q
 unfold noteFrame
 simp only [hf]
 rcases tr with h1|⟨T,oT,ts,h1,hTa,nT,hT0,hT,hdT,h3⟩
 ·refine tqa (tqf he hd h1 ?_)
  rw [if_neg (by decide)]
  refine uc hfr hl hf he hd (NH.mp h1).1 fun h' T oT ts k1 k2 k3 k4 k5 k6 k7 k8=>?_
  refine fin h' [a] (fun b hb=>?_) (fun b o hb hx q=>k1 b o hb (fun z=>hx (by simp [z])) q) (fun b o hx q=>k2 b o (fun z=>hx (by simp [z])) q) ⟨na,ha,_,_,k5,?_,?_,N3 hd _,.inr ⟨T,oT,ts,by simp [(NH.mp h1).1],k4,hN _ k3,hok.fresh k3,k6,k7,k8⟩⟩
  ·rcases NY.mp hb with rfl
   exact ⟨na,ha,oe,vs,he,hd⟩
  ·rw [Obj.cls_mapFields];exact hc
  ·rw [lO];exact hdx
 ·refine tqa (tqf he hd h1 ?_)
  rw [if_pos (show (Value.ref T != Value.none)=true from by simp)]
  refine tqa (tqf hT hdT h3 ?_)
  rw [if_neg (show ¬ ((Value.none==rawInt L)=true) from by simp [rawInt])]
  refine tqa (wpAny_setField hT hdT (NH.mp h3).1 ?_)
  have other:∀b,b≠T->(s.heap.update T (Obj.mapFields (·.setIfInBounds 3 Value.none))).get? b=s.heap.get? b:=fun b hb=>NO _ _ (NV hb)
  have noRec:∀b o,s.heap.get? b=some o->(∀vs,o.data≠.fields vs)->b≠T:=fun b o hb hnf q=>by
   rw [q,hT] at hb;cases hb;exact hnf ts hdT
  have hz:(s.heap.update T (Obj.mapFields (·.setIfInBounds 3 Value.none))).objs.size=s.heap.objs.size:=Heap.size_after_update ..
  refine uc (s:={s with heap:=s.heap.update T (Obj.mapFields (·.setIfInBounds 3 Value.none))}) hfr (hl.of_keeps fun b o hb hnf=>⟨o,(other b (noRec b o hb hnf)).trans hb,rfl⟩) hf ((other a (NV hTa)).trans he) hd (NH.mp h1).1 fun h' T' oT' ts' k1 k2 k3 k4 k5 k6 k7 k8=>?_
  have k3:s.heap.objs.size<=T':=by rw [<- hz];exact k3
  refine fin h' [a,T] (fun b hb=>?_) (fun b o hb hx q=>k1 b o hb (fun z=>hx (by simp [z])) ((other b (fun z=>hx (by simp [z]))).trans q)) (fun b o hx q=>k2 b o (fun z=>hx (by simp [z])) ((other b (fun z=>hx (by simp [z]))).trans q)) ⟨na,ha,_,_,k5,?_,?_,N3 hd _,.inr ⟨T',oT',ts',by simp [(NH.mp h1).1],k4,hN _ k3,hok.fresh k3,k6,k7,k8⟩⟩
  ·rcases Np.mp hb with rfl|hb
   ·exact ⟨na,ha,oe,vs,he,hd⟩
   ·rcases NY.mp hb with rfl
    exact ⟨nT,hT0,oT,ts,hT,hdT⟩
  ·rw [Obj.cls_mapFields];exact hc
  ·rw [lO];exact hdx
end
noncomputable def fv (P:Na)(w:Nd):mR:=fun outer H s E e s'=>∃a C dx H',e=.ref a/\s'.os=s.os/\AllBare s'.gens/\Un (eU outer) [] H H' s.heap s'.heap/\dN P w H' s'.heap/\lX (fun b=>s.heap.get? b=none) C dx a s'.heap H'/\E (.ref C) dx H'
theorem lX.imp {New New':Addr->Prop}{C a:Addr}{dx:Option Addr}{h:Heap}{H:Hp}(f:lX New C dx a h H)(i:∀b,New b->New' b):lX New' C dx a h H:=by
 obtain ⟨na,ha,o,vs,h1,h2,h3,h4,tr⟩:=f
 refine ⟨i _ na,ha,o,vs,h1,h2,h3,h4,?_⟩
 rcases tr with t|⟨T,oT,ts,t1,t2,t3,t4⟩
 ·exact .inl t
 ·exact .inr ⟨T,oT,ts,t1,t2,i _ t3,t4⟩
section
variable {P:Na}{w:Nd}{K:MF}{mg:Str->Option MG}{base:Heap}{N:List Str}{qual:Str}{scope:Scope}{f:Addr}{cd:MG}{A:NL}{outer:List Nx}{s:MI}{H:Hp}{E:XK}
theorem AR {pins:List (Addr×Obj)}{σ:L2.St}{H':Hp}{s':MI}{a C:Addr}{dx:Option Addr}(I:Inv (eA (fv P w) P w K mg base N qual scope f cd A outer s H E) pins σ H' s')(hF:lX (lV (eA (fv P w) P w K mg base N qual scope f cd A outer s H E)) C dx a s'.heap H')(hE:E (.ref C) dx H') :
 (eA (fv P w) P w K mg base N qual scope f cd A outer s H E).xe (.ref a) s':=by
 have hst:=I.stack
 have hsz:s.heap.objs.size<=s'.heap.objs.size:=I.sz
 have hL:∀b o,s.heap.get? b=some o->b∈eU (envOfC qual scope s.heap.objs.size f cd::outer)->b∈eU outer:=fun b o q hb=>by
  rcases Np.mp (show b∈s.heap.objs.size::eU outer from hb) with e|e
  ·exact absurd (MS q) (by rw [e];exact NX _)
  ·exact e
 unfold eA
 dsimp only
 unfold leaving
 refine tqa (uH (P:=P) (w:=w) (New:=fun b=>s.heap.get? b=none) I.ok.frames hst rfl (hF.imp fun b z=>z.1) (fun b z=>OP (MR hsz z)) I.hok I.stkFree fun h' ch hch u hok fl=>?_)
 have nch:∀b o,s.heap.get? b=some o->b∉ch:=fun b o q z=>by have:=(hch b z).1;rw [q] at this;cases this
 have hb0:Un (eU outer) [] H H' s.heap s'.heap:=I.base
 refine ⟨a,C,dx,H',rfl,I.os,I.bare,⟨fun b o q n hb hx=>?_,fun b o q n hb hx=>?_,hb0.free,fun b o q hx=>?_,hb0.tups,hb0.frzs,hb0.tbls⟩,hok,fl,hE⟩
 ·exact u.keep b o (hb0.keep b o q n hb hx) (hb0.free b o q n hx) (fun z=>hb (hL b o q z)) (nch b o q)
 ·obtain ⟨sl,e⟩:=hb0.slot b o q n hb hx
  obtain ⟨sl',e'⟩:=u.any e (hb0.free b o q n hx) (nch b o q)
  exact ⟨sl',e'⟩
 ·obtain ⟨o',e⟩:=hb0.there b o q hx
  exact u.there b o' e (nch b o q)
end
section
variable {X:Cx}{pins:List (Addr×Obj)}{σ:L2.St}{H H':Hp}{s s':MI}{E:XK}{e:MG}
theorem ql (I:Inv X pins σ H s)(hx:X.ex=[])(h:fv X.prog X.w X.stack H s E e s'):∃a C dx H',e=.ref a/\Inv X pins σ H' s'/\lX (lV X) C dx a s'.heap H'/\E (.ref C) dx H':=by
 obtain ⟨a,C,dx,H',rfl,os,bare,un,hok,fl,q⟩:=h
 refine ⟨a,C,dx,H',rfl,I.call' os un hok bare (fun b z=>absurd z (by simp)),fl.imp fun b z=>⟨?_,fun p hp e=>?_⟩,q⟩
 ·cases e:X.s₀.heap.get? b with
  |none=>rfl
  | some o =>
    obtain ⟨o',e'⟩:=I.base.there b o e (by rw [hx];simp)
    rw [z] at e';cases e'
 ·have:=(I.pin p (Oq _ hp)).1
  rw [e,z] at this;cases this
theorem A2 {h':Heap}{ch:List Addr}(I:Inv X pins σ H s)(hch:∀b∈ch,X.s₀.heap.get? b=none/\(∃o vs,s.heap.get? b=some o/\o.data=.fields vs)/\∀p∈X.pn++pins,p.1≠b)(u:Un (eU X.stack) ch H H s.heap h')(hok:dN X.prog X.w H h'):Inv X pins σ H {s with heap:=h'}:=by
 obtain ⟨m,⟨o,es,ep,ho,hd,r⟩,hl⟩:=id I.loc
 have neL:X.env.locals∉ch:=fun z=>by
  obtain ⟨o',vs,e,d⟩:=(hch _ z).2.1
  rw [ho] at e;cases e;rw [hd] at d;cases d
 have neC:∀x c,X.env.cells.lookup x=some c->c∉ch:=fun x c e z=>by
  obtain ⟨o',vs,e',d⟩:=(hch _ z).2.1
  obtain ⟨v,o2,e2,d2⟩:=I.cell x c e
  rw [e2] at e';cases e';rw [d2] at d;cases d
 have n0:∀b o,X.s₀.heap.get? b=some o->b∉ch:=fun b o e z=>by rw [(hch b z).1] at e;cases e
 have nst:∀b o,X.s₀.heap.get? b=some o->b∉X.fs->b∉eU X.stack:=fun b o e n z=>(Np.mp (I.stkSub b z)).elim (fun q=>absurd (MS e) (by rw [q];exact Nat.not_lt.mpr I.ok.above)) n
 obtain ⟨sl,hL⟩:=u.any ho I.free neL
 have cellK:∀x c,X.env.cells.lookup x=some c->∀v,s.heap.IsCell c v->h'.IsCell c v:=fun x c e v ⟨o,ho,hd⟩=>by
  obtain ⟨sl,q⟩:=u.any ho (I.freeC x c e) (neC x c e)
  exact ⟨_,q,hd⟩
 refine ⟨I.ok,I.os,I.bare,⟨fun b o e n hb hx=>?_,fun b o e n hb hx=>?_,I.base.free,fun b o e hx=>?_,I.base.tups,I.base.frzs,I.base.tbls⟩,⟨m,⟨_,es,ep,hL,hd,r⟩,fun i x v e1 e2 e3=>?_⟩,fun x c e=>?_,I.free,I.freeC,fun p hp=>?_,hok,I.len⟩
 ·exact u.keep b o (I.base.keep b o e n hb hx) (I.base.free b o e n hx) (nst b o e hb) (n0 b o e)
 ·obtain ⟨sl,e1⟩:=I.base.slot b o e n hb hx
  obtain ⟨sl',e2⟩:=u.any e1 (I.base.free b o e n hx) (n0 b o e)
  exact ⟨sl',e2⟩
 ·obtain ⟨o',e1⟩:=I.base.there b o e hx
  exact u.there b o' e1 (n0 b o e)
 ·obtain ⟨u',r',l⟩:=hl i x v e1 e2 e3
  refine ⟨u',r',?_⟩
  rcases l with l|⟨k,c,e,z⟩
  ·exact .inl l
  ·exact .inr ⟨k,c,e,cellK x c e _ z⟩
 ·obtain ⟨v,z⟩:=I.cell x c e
  exact ⟨v,cellK x c e v z⟩
 ·obtain ⟨e,n,ne,nf,d⟩:=I.pin p hp
  exact ⟨u.keep p.1 p.2 e n (fun z=>(Np.mp (I.stkSub _ z)).elim ne nf) fun z=>(hch _ z).2.2 p hp rfl,n,ne,nf,d⟩
theorem yy {a:Addr}{o:HO}(I:Inv X pins σ H s)(hx:X.ex=[])(hn:H a=none)(h0:X.s₀.heap.get? a=none)(hf:∃ob vs,s.heap.get? a=some ob/\ob.data=.fields vs)(hp:∀p∈X.pn++pins,p.1≠a)(new:b9 X.prog X.w (upd H a o) s.heap a o):Inv X pins σ (upd H a o) s:=by
 obtain ⟨ob,vs,hob,hd⟩:=hf
 have ne:∀b u,H b=some u->b≠a:=fun b u e=>aP e hn
 refine ⟨I.ok,I.os,I.bare,⟨I.base.keep,I.base.slot,fun b o e n hx=>?_,I.base.there,fun b xs e=>?_,fun b o u e=>?_,fun b ps e=>?_⟩,I.loc,I.cell,?_,fun x c e=>?_,fun p hp'=>?_,fun b u e=>?_,I.len⟩
 ·rw [ax (fun z=>by rw [z,h0] at e;cases e)];exact I.base.free b o e n hx
 ·have q:=I.base.tups b xs e
  rw [ax (ne b _ q)];exact q
 ·have q:=I.base.frzs b o u e
  rw [ax (ne b _ q)];exact q
 ·obtain ⟨m,q⟩:=I.base.tbls b ps e
  exact ⟨m,by rw [ax (ne b _ q)];exact q⟩
 ·obtain ⟨m,⟨oL,es,ep,ho,hdL,_⟩,_⟩:=id I.loc
  rw [ax (fun z=>by rw [z,hob] at ho;cases ho;rw [hd] at hdL;cases hdL)];exact I.free
 ·obtain ⟨v,o2,e2,d2⟩:=I.cell x c e
  rw [ax (fun z=>by rw [z,hob] at e2;cases e2;rw [hd] at d2;cases d2)];exact I.freeC x c e
 ·obtain ⟨e,n,r⟩:=I.pin p hp'
  exact ⟨e,by rw [ax (hp p hp')];exact n,r⟩
 ·by_cases hb:b=a
  ·subst hb
   rw [bt] at e;cases e
   exact new
  ·rw [ax hb] at e
   exact (I.hok b u e).stay (fun c v _ q=>q) (fun c q=>by rw [ax (ne c _ q)];exact q) fun c xs q=>by rw [ax (ne c _ q)];exact q
end
noncomputable def gr {α:Type}(r:Res α)(k:α->Mem->Prop)(kx:D->Mem->Prop):Prop:=match r with
 |.ok a M=>k a M
 |.err x M=>kx x M
 |.bad=>False
theorem xZ {α:Type}{r:Res α}{k:α->Mem->Prop}{kx:D->Mem->Prop}(h:ag r k):gr r k kx:=by
 cases r with
 |ok a M=>exact h
 |err=>exact h.elim
 |bad=>exact h
noncomputable def wy (fa:Fa)(K:MF)(μ:Mu)(H:Hp)(E:XK)(x:D)(M':Mem):Prop:=∀C dx c p H' μ',Ext μ H μ' H'->RelM fa K μ' H' M'->x=.exc c p->fa (eI c)=some C->tP H' c dx p->E (.ref C) dx H'
theorem l8 {P:Na}{w:Nd}{X:Cx}:Passes (fv P w) X E0:=fun _ _ _ _ _ _ _ h=>let ⟨_,_,_,_,_,_,_,_,_,_,z⟩:=h;z.elim
end LD
namespace LD
open PySem PySem.Spec PyProof.Rows L2
noncomputable def ur (fa:Fa)(K:MF)(k:Nat)(call:List D->Mem->Res D):Sp:=fun vs H Q E=>vs.length=k/\∃μ M ds,RelM fa K μ H M/\aF fa K μ H ds vs/\gr (call ds M) (aY fa K μ H Q) (wy fa K μ H E)
noncomputable def dI (fa:Fa)(P:Na)(w:Nd)(K:MF)(mg:Str->Option MG)(base:Heap)(n:Nat)(f:Nat)(call:List D->Mem->Res D):Prop:=
 (∀ds M,call ds M=.bad)\/∃(ad:Addr) (fd:OG) (ps:List Str),fa f=some ad/\PySem.W.keepIn K (.ref ad)=true/\Binds K fd ps []/\(∀ds M,ds.length≠ps.length->call ds M=.bad)/\fB P w K mg base (fv P w) (2*n+4) ad fd ps (ur fa K ps.length call)
section
variable {fa:Fa}{X:Cx}{a b d:Expr}{ga gb gd:Env->Mem->Res D}{pos p:Pos}{es:List Expr}{gs:Env->Mem->Res (List D)}{n:Nat}
theorem tH {call:List D->Mem->Res D}{P:D->Mem->Prop}{r:Res (List D)}(hb:∀ds M,call ds M=.bad)(h:ag (r.bind fun ds M=>call ds M) P):False:=by
 obtain ⟨ds,M,_,q⟩:=aI h
 rw [hb] at q
 exact q
theorem lQ {call:List D->Mem->Res D}{k:Nat}{σ:L2.St}{H:Hp}{Q:VK}{μ:Mu}{Z:Env}{M:Mem}(hE:a8 fa X.K μ H σ Z)(hM:RelM fa X.K μ H M)(h:ag ((gs Z M).bind fun ds M=>call ds M) (aY fa X.K μ H Q))
 (hk:∀ds M1,ds.length≠k->call ds M1=.bad):ve (ur fa X.K k call) [] E0 (tA fa X.K gs) σ H Q:=by
 refine pQ hE hM h fun ds M1 vs H1 μ1 x1 hE1 hM1 r1 h1=>?_
 rw [OA]
 refine ⟨?_,μ1,M1,ds,hM1,r1,xZ (jz h1 x1)⟩
 rw [r1.length]
 by_cases hl:ds.length=k
 ·exact hl
 ·rw [hk ds M1 hl] at h1;exact h1.elim
theorem Iq {f:Nat}{x:Str}{call:List D->Mem->Res D}(C:dI fa X.prog X.w X.K X.mg X.base n f call)(hr:bu (2*n+4) X.A)(hg:Gl X x)(hm:∀ad,fa f=some ad->X.mg x=some (.ref ad))(hs:DA fa X (a::es) gs)
 (hdb:(x==("__debug__":Str))=false) (he:starEach (a::es) X.env=(false,eval a X.env)::starEach es X.env) (hpl:(backTo pos (starEach es X.env)).any (·.1)=false) :
 DE fa X (.Call (.Name x p) (a::es) [] pos) (fun Z M=>(gs Z M).bind fun ds M=>call ds M):=by
 rcases C with hb|⟨ad,fd,ps,h1,h2,h3,h4,F⟩
 ·exact fun pins s σ H Q I ⟨μ,Z,M,hE,hM,h⟩=>(tH hb h).elim
 ·exact br (Em F hr hg (hm ad h1) h2 h3 .nil l8 hs hdb he hpl) fun σ H Q ⟨μ,Z,M,hE,hM,h⟩=>lQ hE hM h h4
theorem E8 {i:Nat}{x:Str}{call:Nat->List D->Mem->Res D}(C:∀f,dI fa X.prog X.w X.K X.mg X.base n f (call f))(hr:bu (2*n+4) X.A)(hN:X.N[i]?=some x)(hv:qB X.env.scope x)(hs:DA fa X (a::es) gs)
 (hd:(x==("__debug__":Str))=false) (hcd:(x==("__classdict__":Str))=false) (he:starEach (a::es) X.env=(false,eval a X.env)::starEach es X.env) (hpl:(backTo pos (starEach es X.env)).any (·.1)=false) :
 DE fa X (.Call (.Name x p) (a::es) [] pos) (fun Z M=>match Z[i]?.getD none with|some (.fn f)=>(gs Z M).bind fun ds M=>call f ds M|_=>.bad):=by
 intro pins s σ H Q I ⟨μ,Z,M,hE,hM,h⟩
 dsimp only at h
 cases e:Z[i]?.getD none with
 |none=>rw [e] at h;exact h.elim
 | some df =>
   cases df with
   | fn f =>
     rw [e] at h
     simp only at h
     have e':Z[i]?=some (some (.fn f)):=by
      cases q:Z[i]? with
      |none=>rw [q] at e;cases e
      |some o=>rw [q] at e;simp at e;rw [e]
     obtain ⟨v,hv1,hv2⟩:=hE.at' i _ e'
     obtain ⟨ad,rfl,had⟩:=hv2
     rcases C f with hb|⟨ad',fd,ps,h1,h2,h3,h4,F⟩
     ·exact (tH hb h).elim
     ·rcases had with had|⟨had,_⟩<;>rw [had] at h1<;>cases h1
      refine wpAny_Call_Name_kw (aN (nV hN hv hd hcd pins s σ H (fun v H'=>v=.ref ad/\H'=H) I ⟨_,hv1,rfl,rfl⟩) fun u s1 ⟨v,H1,I1,r1,e1,e2⟩=>?_)
      subst e1 e2
      obtain rfl:u=Value.ref ad:=r1
      refine Og (h₀:=X.base) I1.ok.mod.kin h2 (aN (hs pos pins s1 σ H1 _ I1 (lQ hE hM h h4)) fun us s2 ⟨vs,H2,I2,r,q⟩=>⟨I2.kIn,?_⟩) he hpl
      exact lh F hr h3 .nil l8 I2 r q
   |_=>rw [e] at h;exact h.elim
theorem wb (f:tR){x:Str}{id:String}(hc:cD X (.builtin id) (m5 fa X.K f))(hg:Gl X x)(hm:X.mg x=none)(hv:bootBuiltins x=some (.builtin id))(hs:DA fa X (a::es) gs)(hn:x≠"__name__")(hdb:(x==("__debug__":Str))=false)
 (he:starEach (a::es) X.env=(false,eval a X.env)::starEach es X.env) (hpl:(backTo pos (starEach es X.env)).any (·.1)=false):DE fa X (.Call (.Name x p) (a::es) [] pos) (fun Z M=>(gs Z M).bind fun ds M=>dA f ds M):=
 br (se hc hg hm hv hs hn hdb he hpl) fun σ H Q ⟨μ,Z,M,hE,hM,h⟩=>pQ hE hM h fun ds M1 vs H1 μ1 x1 hE1 hM1 r1 h1=>⟨μ1,M1,ds,hM1,r1,jz h1 x1⟩
theorem yO (f:tR){x:Str}{T:String}(hc:cD X (.type T) (m5 fa X.K f))(hg:Gl X x)(hm:X.mg x=none)(hv:bootBuiltins x=some (.type T))(hs:DA fa X (a::es) gs)(hn:x≠"__name__")(hdb:(x==("__debug__":Str))=false)
 (he:starEach (a::es) X.env=(false,eval a X.env)::starEach es X.env) (hpl:(backTo pos (starEach es X.env)).any (·.1)=false):DE fa X (.Call (.Name x p) (a::es) [] pos) (fun Z M=>(gs Z M).bind fun ds M=>dA f ds M):=
 br (xP hc hg hm hv hs hn hdb he hpl) fun σ H Q ⟨μ,Z,M,hE,hM,h⟩=>pQ hE hM h fun ds M1 vs H1 μ1 x1 hE1 hM1 r1 h1=>⟨μ1,M1,ds,hM1,r1,jz h1 x1⟩
theorem Io (t:Ty)(ht:∀c,t≠.own c){x:Str}{p1 p2:Pos}(ha:DE fa X a ga)(hg:Gl X "isinstance")(hm:X.mg "isinstance"=none)(hv:bootBuiltins "isinstance"=some (.builtin "isinstance"))(hgt:Gl X x)(hmt:X.mg x=none)(hvt:bootBuiltins x=some (.type (tyName t)))
 (hn:x≠"__name__") (hdb:(x==("__debug__":Str))=false)
 (he:starEach [a,.Name x p1] X.env=(false,eval a X.env)::starEach [.Name x p1] X.env):DE fa X (.Call (.Name "isinstance" p2) [a,.Name x p1] [] pos) (fun Z M=>(ga Z M).bind fun x M=>(bK M (dF t x)).bind fun b M=>.ok (.bl b) M):=
 br (se (HQ (fa:=fa) t ht) hg hm hv (bO ha (bO (Eo hgt hmt hvt (v:=.ty (tyName t)) rfl hn hdb) eT (by rfl)) he) (by decide) (by decide) he (by rfl)) fun σ H Q ⟨μ,Z,M,hE,hM,h⟩=>t1 hE hM h fun x M1 v H1 μ1 x1 hE1 hM1 r1 h1=>by
  obtain ⟨b,e,q⟩:=n4 h1
  exact ⟨μ1,M1,x,v,b,rfl,hM1,r1,e,aZ (v:=.bl b) hM1 (q.ext x1) rfl⟩
noncomputable def gT (fa:Fa)(K:MF)(t:cy):TG:=fun v σ H Q=>∃μ Z M d ρ1,a8 fa K μ H σ Z/\RelM fa K μ H M/\Rep fa K μ H d v/\bN t d Z=some ρ1/\∀σ1,a8 fa K μ H σ1 ρ1->Q σ1 H
theorem xN {tg:Expr}{g g':TG}(h:PG X tg g)(i:∀v σ H Q,g' v σ H Q->g v σ H Q):PG X tg g':=fun pins s σ H v u Q I r q=>h pins s σ H v u Q I r (i v σ H Q q)
theorem uB {tg:List Expr}{g g':oG}(h:tQ X tg g)(i:∀v σ H Q,g' v σ H Q->g v σ H Q):tQ X tg g':=fun pins s σ H v u Q I r q=>h pins s σ H v u Q I r (i v σ H Q q)
theorem E4 {i:Nat}{x:Str}(hN:X.N.Nodup)(hi:X.N[i]?=some x)(hx:Loc X.env.scope x)(hf:X.fn x=true\/X.env.scope.names.lookup x=some .local):PG X (.Name x pos) (gT fa X.K (.one i)):=
 xN (uC hN hi hx hf) fun v σ H Q ⟨μ,Z,M,d,ρ1,hE,hM,r,e,k⟩=>by
  have e':Z.set i (some d)=ρ1:=MO e
  subst e'
  exact k _ (hE.set r)
noncomputable def HM (fa:Fa)(K:MF)(l:List Nat):oG:=fun vs σ H Q=>∃μ Z M ds ρ1,a8 fa K μ H σ Z/\RelM fa K μ H M/\aF fa K μ H ds vs/\eQ l ds Z=some ρ1/\∀σ1,a8 fa K μ H σ1 ρ1->Q σ1 H
inductive jL (X:Cx):List Nat->List Expr->Prop
 |nil:jL X [] []
 |cons {i:Nat}{x:Str}{p:Pos}{l:List Nat}{ns:List Expr} (hi:X.N[i]?=some x) (hx:Loc X.env.scope x) (hf:X.fn x=true\/X.env.scope.names.lookup x=some .local) (r:jL X l ns):jL X (i::l) (.Name x p::ns)
theorem jL.each {l:List Nat}{ns:List Expr}(h:jL X l ns):(assignEach ns X.env).length=l.length/\(assignEach ns X.env).findIdx? (·.1)=none:=by
 induction h with
 |nil=>exact ⟨rfl,rfl⟩
 | cons hi hx hf r ih =>
   rename_i i x p l ns
   have e:assignEach (.Name x p::ns) X.env=(false,assign (.Name x p) X.env)::assignEach ns X.env:=rfl
   rw [e]
   refine ⟨by simp [ih.1],?_⟩
   rw [List.findIdx?_cons]
   simp [ih.2]
theorem Bk (hN:X.N.Nodup){l:List Nat}{ns:List Expr}(h:jL X l ns):tQ X ns (HM fa X.K l):=by
 induction h with
 | nil =>
   refine uB Ej fun vs σ H Q ⟨μ,Z,M,ds,ρ1,hE,hM,r,e,k⟩=>?_
   cases ds with
   | nil =>
     obtain rfl:vs=[]:=r
     have e':Z=ρ1:=MO e
     subst e'
     exact ⟨rfl,k _ hE⟩
   |cons=>cases e
 | cons hi hx hf r ih =>
   refine uB (Ax (uC hN hi hx hf) ih (by rfl)) fun vs σ H Q ⟨μ,Z,M,ds,ρ1,hE,hM,r,e,k⟩=>?_
   cases ds with
   |nil=>cases e
   | cons d ds =>
     obtain ⟨v,vr,rfl,r1,r2⟩:=r
     exact ⟨v,vr,rfl,μ,_,M,ds,ρ1,hE.set r1,hM,r2,e,k⟩
theorem kQ:∀{l:List Nat}{ds:List D}{Z ρ1:Env},eQ l ds Z=some ρ1->ds.length=l.length
 |[],[],_,_,_=>rfl
 |_::_,[],_,_,h=>by cases h
 |[],_::_,_,_,h=>by cases h
 | _ :: l, _ :: ds, _, _, h => by
   have:=kQ (l:=l) (ds:=ds) h
   simp [this]
theorem Ih (hc:X.calm=true)(hN:X.N.Nodup){l:List Nat}{ns:List Expr}{k:Nat}(h:jL X l ns):PG X (.Tuple ns k pos) (gT fa X.K (.tup l)):=
 xN (GD (n:=l.length) hc (Bk (fa:=fa) hN h) h.each.1 h.each.2) fun v σ H Q ⟨μ,Z,M,d,ρ1,hE,hM,r,e,k⟩=>by
  cases d with
  | tup ds =>
    obtain ⟨a,vs,rfl,hq,r⟩:=r
    exact ⟨a,vs,rfl,hq,by rw [r.length];exact kQ e,μ,Z,M,ds,ρ1,hE,hM,r,e,k⟩
  |_=>cases e
end
end LD
namespace LD
open PySem PySem.Spec PyProof.Rows L2
section
variable {fa:Fa}{X:Cx}{a b d:Expr}{ga gb gd:Env->Mem->Res D}{pos p:Pos}{es:List Expr}{gs:Env->Mem->Res (List D)}{n:Nat}
theorem Ic {tg:Expr}{t:cy}(ha:DE fa X a ga)(hg:PG X tg (gT fa X.K t))(hs:swapsWithSole [tg] a pos.line X.env=pure false)(hw:swappedStores [tg] a X.env=pure none)(h1:(assignEach [tg] X.env).map (·.2)=[assign tg X.env]) :
 DS fa X (.Assign [tg] a pos) (fun Z M=>(ga Z M).bind fun x M=>(bK M (bN t x Z)).bind fun ρ1 M=>.ok (.next ρ1) M):=
 dY (rY ha hg hs hw h1) fun D σ H ⟨μ,Z,M,hE,hM,h⟩=>t1 hE hM h fun x M1 v H1 μ1 x1 hE1 hM1 r1 h1=>by
  obtain ⟨ρ1,M2,e,q⟩:=aI h1
  cases eb:bN t x Z with
  |none=>rw [eb] at e;cases e
  | some ρ2 =>
    rw [eb] at e
    cases e
    exact ⟨μ1,Z,M1,x,ρ1,hE1,hM1,r1,eb,fun σ1 hE2=>q σ1 H1 μ1 x1 hE2 hM1⟩
theorem pK {D':Ends}{μ:Mu}{H:Hp}{σ:L2.St}{Z:Env}{M:Mem}{k:Nat}{ad:Addr}{ws:List V}{ds:List D}(hE:a8 fa X.K μ H σ Z)(hM:RelM fa X.K μ H M)(hk:μ.pub k=some ad)(r:aF fa X.K μ H ds ws)
 (q:∀σ' H' μ',Ext μ H μ' H'->a8 fa X.K μ' H' σ' Z->RelM fa X.K μ' H' (M.set k ds)->D'.nx σ' H'):D'.nx σ (upd H ad (.lst ws)):=
 q σ _ μ (Ext.write (vs:=ws) hM hk) (hE.ext (Ext.write (vs:=ws) hM hk)) (hM.write hk r)
theorem H9 (ha:DE fa X a ga)(hb:DE fa X b gb)(hd:DE fa X d gd){p2:Pos}
 (h0:∀v,assign (.Subscript a b p2) X.env v=(do
  let ov <- holding [v] (eval a X.env)
  let iv <- holding [v,ov] (eval b X.env)
  standAt p2
  holding [v,ov,iv] (setItem ov iv v)
  release [v,ov,iv] [])) (hs:swapsWithSole [.Subscript a b p2] d pos.line X.env=pure false) (hw:swappedStores [.Subscript a b p2] d X.env=pure none) (h1:(assignEach [.Subscript a b p2] X.env).map (·.2)=[assign (.Subscript a b p2) X.env]) :
 DS fa X (.Assign [.Subscript a b p2] d pos) (fun Z M=>(gd Z M).bind fun z M=>(ga Z M).bind fun x M=>(gb Z M).bind fun y M=>match x,y with
  | .cell k, .int n => match M[k]? with
    | some ds => match bI ds.length n with
      |some j=>.ok (.next Z) (M.set k (ds.set j z))
      |none=>.bad
    |none=>.bad
  |_,_=>.bad):=
 dY (rY hd (GF ha hb set_list h0) hs hw h1) fun D' σ H ⟨μ,Z,M,hE,hM,h⟩=>t1 hE hM h fun z M1 v H1 μ1 x1 hE1 hM1 r1 h1=>t2 hE1 hM1 h1 fun x y M2 vx vy H2 μ2 x2 hE2 hM2 rx ry h2=>by
  have key:∀k n,x=.cell k->y=.int n->B6 vx vy v H2 fun H3=>D'.nx σ H3:=fun k n e1 e2=>by
   subst e1 e2
   dsimp only at h2
   cases e:M2[k]? with
   |none=>rw [e] at h2;exact h2.elim
   | some ds =>
     rw [e] at h2
     dsimp only at h2
     cases ej:LD.bI ds.length n with
     |none=>rw [ej] at h2;exact h2.elim
     | some j =>
       rw [ej] at h2
       obtain ⟨ad,rfl,hk⟩:=rx
       obtain ⟨ws,h4,h5⟩:=hM2.at_ e hk
       have q:∀σ' H' μ',Ext μ H μ' H'->a8 fa X.K μ' H' σ' Z->RelM fa X.K μ' H' (M2.set k (ds.set j z))->D'.nx σ' H':=h2
       refine ⟨ad,ws,n,j,rfl,ry,h4,by rw [h5.length];exact ej,pK hE2 hM2 hk (h5.set j (r1.ext x2)) fun σ' H' μ' x' e' m'=>q σ' H' μ' ((x1.trans x2).trans x') e' m'⟩
  cases x with
  | cell k => cases y with
    |int n=>exact key k n rfl rfl
    |_=>exact h2.elim
  |_=>exact h2.elim
theorem Ie (ha:DE fa X a ga)(hd:DE fa X d gd){apos cpos:Pos}(hbase:attributeBase a "append" X.env (eval a X.env)=eval a X.env)(hline:(apos.endLine==cpos.line)=true)(hs:starEach [d] X.env=[(false,eval d X.env)])
 (hsw:swapsWith (.Call (.Attribute a "append" apos) [d] [] cpos) none pos.line X.env=pure false) :
 DS fa X (.Expr (.Call (.Attribute a "append" apos) [d] [] cpos) pos) (fun Z M=>(ga Z M).bind fun x M=>(gd Z M).bind fun z M=>match x with
  | .cell k => match M[k]? with
    |some ds=>if ds.length<sz then .ok (.next Z) (M.set k (ds++[z])) else .bad
    |none=>.bad
  |_=>.bad):=
 dY (l7 (Jq PySem.F.plainAttrs_list PySem.F.slot_list_append PySem.F.type_list_append qg ha (bO hd eT hs) hbase (by rw [hs];rfl) hline hs (by rfl)) hsw) fun D' σ H ⟨μ,Z,M,hE,hM,h⟩=>by
  obtain ⟨x,M1,e1,h1⟩:=aI h
  obtain ⟨z,M2,e2,h2⟩:=aI h1
  cases x with
  | cell k =>
    dsimp only at h2
    cases e:M2[k]? with
    |none=>rw [e] at h2;exact h2.elim
    | some ds =>
      rw [e] at h2
      dsimp only at h2
      split at h2
      ·next hz=>
       have q:∀σ' H' μ',Ext μ H μ' H'->a8 fa X.K μ' H' σ' Z->RelM fa X.K μ' H' (M2.set k (ds++[z]))->D'.nx σ' H':=h2
       refine ⟨μ,Z,M,hE,hM,?_⟩
       rw [e1]
       intro vx H1 μ1 x1 hM1 rx
       obtain ⟨ad,rfl,hk⟩:=rx
       obtain ⟨ds1,ws1,_,hH1,_⟩:=hM1.mu_lt hk
       refine ⟨.inl ⟨rfl,ws1,bV.of hH1⟩,μ1,Z,M1,hE.ext x1,hM1,?_⟩
       rw [e2]
       intro vz H2 μ2 x2 hM2 rz
       obtain ⟨ws,h4,h5⟩:=hM2.at_ e (x2.mu k ad hk)
       refine ⟨ad,ws,vz,rfl,rfl,h4,by rw [h5.length,<- cV];exact hz,?_⟩
       exact pK ((hE.ext x1).ext x2) hM2 (x2.mu k ad hk) (h5.append (.one rz)) fun σ' H' μ' x' e' m'=>q σ' H' μ' ((x1.trans x2).trans x') e' m'
      ·exact h2.elim
  |_=>exact h2.elim
theorem JQ (ha:DE fa X a ga)(hs:swapsWith a none pos.line X.env=pure false):DS fa X (.Expr a pos) (fun Z M=>(ga Z M).bind fun _ M=>.ok (.next Z) M):=
 dY (l7 ha hs) fun D' σ H ⟨μ,Z,M,hE,hM,h⟩=>t1 hE hM h fun x M1 v H1 μ1 x1 hE1 hM1 r1 h1=>h1 σ H1 μ1 x1 hE1 hM1
theorem H8 (ha:DE fa X a ga):DS fa X (.Return (some a) pos) (fun Z M=>(ga Z M).bind fun x M=>.ok (.ret x) M):=
 dY (xI ha) fun D' σ H ⟨μ,Z,M,hE,hM,h⟩=>by
  obtain ⟨x,M1,e,q⟩:=aI h
  refine ⟨μ,Z,M,hE,hM,?_⟩
  rw [e];exact q
theorem ES:DS fa X (.Return none pos) (fun _ M=>.ok (.ret .non) M):=dY Ee fun D' σ H ⟨μ,Z,M,hE,hM,h⟩=>aZ (v:=.non) hM h rfl
theorem ET:DS fa X (.Pass pos) (fun Z M=>.ok (.next Z) M):=dY Ef fun D' σ H ⟨μ,Z,M,hE,hM,h⟩=>h σ H μ .refl hE hM
theorem mQ.ext {μ μ':Mu}{H H':Hp}{D':Ends}(x:Ext μ H μ' H'){fl:Fl}{M:Mem}(q:mQ fa X μ H D' fl M):mQ fa X μ' H' D' fl M:=by
 cases fl with
 |next ρ'=>exact fun σ' H'' μ'' y e m=>q σ' H'' μ'' (x.trans y) e m
 |ret d=>exact aY.ext q x
 |exc x' ρ'=>exact XW.ext q x
theorem G5 {r:Res Fl}{μ μ':Mu}{H H':Hp}{D':Ends}(x:Ext μ H μ' H')(h:ag r (mQ fa X μ H D')):ag r (mQ fa X μ' H' D'):=aO h fun fl M q=>q.ext x
theorem Ia {c:Expr}{gc:Env->Mem->Res Bool}{st sf:List Stmt}{gt gf:Env->Mem->Res Fl}(hc:DT fa X c gc)(ht:kU fa X st gt)(hf:kU fa X sf gf):DS fa X (.If c st sf pos) (fun Z M=>(gc Z M).bind fun k M=>if k then gt Z M else gf Z M):=
 dY (Jl hc ht hf) fun D' σ H ⟨μ,Z,M,hE,hM,h⟩=>xj hE hM h fun k M1 H1 μ1 x1 hE1 hM1 h1=>by
  cases k with
  |true=>exact ⟨μ1,Z,M1,hE1,hM1,G5 x1 h1⟩
  |false=>exact ⟨μ1,Z,M1,hE1,hM1,G5 x1 h1⟩
theorem ER:kU fa X [] (fun Z M=>.ok (.next Z) M):=uA uz fun D' σ H ⟨μ,Z,M,hE,hM,h⟩=>h σ H μ .refl hE hM
theorem Bi {st:Stmt}{ss:List Stmt}{g:Env->Mem->Res Fl}{g':Env->Mem->Res Fl}(h1:DS fa X st g)(h2:kU fa X ss g'):kU fa X (st::ss) (fun Z M=>(g Z M).bind fun fl M=>match fl with
 |.next Z=>g' Z M
 |fl=>.ok fl M):=
 uA (m8 h1 h2) fun D' σ H ⟨μ,Z,M,hE,hM,h⟩=>by
  obtain ⟨fl,M1,e,q⟩:=aI h
  refine ⟨μ,Z,M,hE,hM,?_⟩
  rw [e]
  cases fl with
  |next ρ1=>exact fun σ1 H1 μ1 x1 hE1 hM1=>⟨μ1,ρ1,M1,hE1,hM1,G5 x1 q⟩
  |ret d=>exact q
  |exc x ρ1=>exact q
end
end LD
namespace LD
open PySem PySem.Spec PyProof.Rows L2
noncomputable def cT (fa:Fa)(K:MF)(μ0:Mu)(H0:Hp)(w:Walk)(J:It):Prop:=
 ∀(μ:Mu) (H:Hp) (M:Mem) (ds:List D),ExtW μ0 H0 μ H->RelM fa K μ H M->w M=some ds->(∀(i:Nat) (d:D),ds[i]?=some d->J.go i H/\∀x H',J.yld i H x H'->Ext μ H μ H'/\RelM fa K μ H' M/\Rep fa K μ H' d x)/\∀i,ds.length<=i->J.stop i H
noncomputable def tI (fa:Fa)(K:MF)(g:Env->Mem->Res Walk):TI:=fun σ H R=>∃μ Z M,a8 fa K μ H σ Z/\RelM fa K μ H M/\ag (g Z M) fun w M'=>∀J H' μ',Ext μ H μ' H'->RelM fa K μ' H' M'->cT fa K μ' H' w J->R J H'
abbrev DI (fa:Fa)(X:Cx)(tg iter:Expr)(g:Env->Mem->Res Walk):Prop:=PI X tg iter (tI fa X.K g)
theorem wJ {fa:Fa}{K:MF}{μ0 μ1:Mu}{H0 H1:Hp}{w:Walk}{J:It}(h:cT fa K μ0 H0 w J)(x:ExtW μ0 H0 μ1 H1):cT fa K μ1 H1 w J:=fun μ H M ds y hM e=>h μ H M ds (x.trans y) hM e
section
variable {fa:Fa}{X:Cx}{tg a b d:Expr}{ga gb gd:Env->Mem->Res D}{pos p:Pos}{es:List Expr}{n:Nat}
theorem wK {μ0:Mu}{H0:Hp}{dd:D}{ad:Addr}(h:Rep fa X.K μ0 H0 dd (.ref ad)):cT fa X.K μ0 H0 (fun M=>eF M dd) (IJ X.K ad):=fun μ H M ds x hM e=>by
 obtain ⟨ad',vs,ea,s,r⟩:=bB hM (Rep.extW x h) e
 cases ea
 refine ⟨fun i d hd=>?_,fun i hi=>⟨vs,s,by rw [r.length];exact hi⟩⟩
 obtain ⟨v,hv,rv⟩:=r.get hd
 refine ⟨⟨vs,v,s,hv⟩,fun y H' ⟨e,hy⟩=>?_⟩
 subst e
 have:=hy vs s
 rw [hv] at this;cases this
 exact ⟨.refl,hM,rv⟩
theorem zk {μ0:Mu}{H0:Hp}{ds:List D}{ad:Addr}(h:Rep fa X.K μ0 H0 (.tup ds) (.ref ad)):cT fa X.K μ0 H0 (fun _=>some ds) (IH X.K ad):=fun μ H M ds' x hM e'=>by
 cases e'
 obtain ⟨ad',vs,e,s,r⟩:=Rep.extW x h
 cases e
 refine ⟨fun i d hd=>?_,fun i hi=>⟨vs,s,by rw [r.length];exact hi⟩⟩
 obtain ⟨v,hv,rv⟩:=r.get hd
 refine ⟨⟨vs,v,s,hv⟩,fun y H' ⟨e,hy⟩=>?_⟩
 subst e
 have:=hy vs s
 rw [hv] at this;cases this
 exact ⟨.refl,hM,rv⟩
theorem zm {μ0:Mu}{H0:Hp}(lo:Int)(n:Nat):cT fa X.K μ0 H0 (fun _=>some ((List.range n).map fun (k:Nat)=>D.int (lo+(k:Int)))) (C1 lo n):=fun μ H M ds x hM e=>by
 cases e
 refine ⟨fun i d hd=>?_,fun i hi=>(show n<=i by simpa using hi)⟩
 rw [Nv] at hd
 by_cases hi:i<n
 ·rw [OL hi] at hd
  have e:D.int (lo+(i:Int))=d:=MO hd
  subst e
  refine ⟨hi,fun y H' ⟨e1,e2⟩=>?_⟩
  subst e1 e2
  exact ⟨.refl,hM,rfl⟩
 ·rw [Oj (by simpa using hi)] at hd;cases hd
noncomputable def fy (ga:Env->Mem->Res D):Env->Mem->Res Walk:=fun Z M=>(ga Z M).bind fun x M=>match x with
 |.lst ds=>.ok (fun _=>some ds) M
 |.tup ds=>.ok (fun _=>some ds) M
 |.frz ds=>.ok (fun _=>some ds) M
 |.cell k=>.ok (fun M=>M[k]?) M
 |_=>.bad
theorem Ig (ha:DE fa X a ga):DI fa X tg a (fy ga):=fun pins s σ H R I ⟨μ,Z,M,hE,hM,h⟩=>by
 obtain ⟨x,M1,e,q⟩:=aI h
 have lst:(∀μ' H',RelM fa X.K μ' H' M1->∀v,Rep fa X.K μ' H' x v->∃ds,eF M1 x=some ds)->(∀J H' μ',Ext μ H μ' H'->RelM fa X.K μ' H' M1->cT fa X.K μ' H' (fun M=>eF M x) J->R J H')->
  wpAny (model X.prog X.w) X.A (eval a X.env) (fun v s1=>wpAny (model X.prog X.w) X.A (pyIter v) (ze X pins σ tg R) X.xe s1) X.xe s:=fun hx q=>by
  refine Ei ha pins s σ H R I ⟨μ,Z,M,hE,hM,?_⟩
  rw [e]
  intro v H1 μ1 x1 m1 r1
  obtain ⟨ds,er⟩:=hx μ1 H1 m1 v r1
  obtain ⟨ad,vs,rfl,s1,r⟩:=bB m1 r1 er
  exact ⟨ad,rfl,⟨vs,s1⟩,q _ H1 μ1 x1 m1 (wK r1)⟩
 cases x with
 |lst ds=>exact lst (fun _ _ _ _ _=>⟨ds,rfl⟩) q
 |frz ds=>exact lst (fun _ _ _ _ _=>⟨ds,rfl⟩) q
 | tup ds =>
   refine Gz ha pins s σ H R I ⟨μ,Z,M,hE,hM,?_⟩
   rw [e]
   intro v H1 μ1 x1 m1 r1
   obtain ⟨ad,vs,rfl,s1,r⟩:=id r1
   exact ⟨ad,rfl,⟨vs,s1⟩,q _ H1 μ1 x1 m1 (zk r1)⟩
 |cell k=>exact lst (fun μ' H' m' v ⟨ad,_,hk⟩=>let ⟨ds,_,e,_⟩:=m'.mu_lt hk;⟨ds,e⟩) q
 |_=>exact q.elim
noncomputable def cY (ga:Env->Mem->Res D):Env->Mem->Res Walk:=fun Z M=>(ga Z M).bind fun x M=>match x with
 |.int n=>if -(2^62)<=n/\n<2^62 then .ok (fun _=>some ((List.range n.toNat).map fun (k:Nat)=>D.int (k:Int))) M else .bad
 |_=>.bad
theorem E2 (ha:DE fa X a ga)(hg:Gl X "range")(hm:X.mg "range"=none)(hs:starEach [a] X.env=[(false,eval a X.env)]):DI fa X tg (.Call (.Name "range" p) [a] [] pos) (cY ga):=fun pins s σ H R I ⟨μ,Z,M,hE,hM,h⟩=>by
 refine xM hg hm (bO ha eT hs) hs pins s σ H R I ?_
 refine t1 hE hM h fun x M1 v H1 μ1 x1 hE1 hM1 r1 h1=>?_
 cases x with
 | int n =>
   dsimp only at h1
   split at h1
   ·next c=>
    obtain rfl:v=.int n:=r1
    refine ⟨n,rfl,c.1,c.2,h1 _ H1 μ1 x1 hM1 ?_⟩
    have:=zm (fa:=fa) (X:=X) (μ0:=μ1) (H0:=H1) 0 n.toNat
    simpa using this
   ·exact h1.elim
 |_=>exact h1.elim
noncomputable def gk (t:cy)(gb:Env->Mem->Res Fl):Fl->D->Mem->Res Fl:=fun fl d M=>match fl with
 |.next Z=>(bK M (bN t d Z)).bind fun ρ1 M=>gb ρ1 M
 |fl=>.ok fl M
noncomputable def Fl.out:Fl->Bool
 |.next _=>false
 |_=>true
theorem kG {t:cy}{gb:Env->Mem->Res Fl}{fl:Fl}{w:Walk}{P:Fl->Mem->Prop}(ho:fl.out=true):∀(n i:Nat) (M:Mem),ag (ez (gk t gb) w n i fl M) P->P fl M
 |0,_,_,h=>h.elim
 | n + 1, i, M, h => by
   unfold ez at h
   cases e:w M with
   |none=>rw [e] at h;exact h.elim
   | some ds =>
     rw [e] at h
     dsimp only at h
     cases e2:ds[i]? with
     |none=>rw [e2] at h;exact h
     | some d' =>
       rw [e2] at h
       cases fl with
       |next Z=>cases ho
       |ret d=>exact kG ho n (i+1) M h
       |exc x Z=>exact kG ho n (i+1) M h
theorem Ib {t:cy}{body:List Stmt}{gw:Env->Mem->Res Walk}{gb:Env->Mem->Res Fl}(hp:PassesOwn (model X.prog X.w) X.A X.env X.xe)(hc:X.calm=true)(hi:DI fa X tg a gw)(hg:PG X tg (gT fa X.K t))(hb:kU fa X body gb)
 (hs:∀x,foldedSetIterable a X.env x=pure x):DS fa X (.For tg a body [] pos) (fun Z M=>(gw Z M).bind fun w M=>dj (gk t gb) w (.next Z) M):=
 dY (Gx hp hc hi hg hb hs) fun D' σ H ⟨μ,Z,M,hE,hM,h⟩=>by
  obtain ⟨w,M1,e,q⟩:=aI h
  refine ⟨μ,Z,M,hE,hM,?_⟩
  rw [e]
  intro J H1 μ1 x1 hM1 wk
  have hE1:=hE.ext x1
  refine ⟨fun i m σ' H'=>∃μ' ρ' M',Ext μ1 H1 μ' H'/\a8 fa X.K μ' H' σ' ρ'/\RelM fa X.K μ' H' M'/\ag (ez (gk t gb) w m i (.next ρ') M') (mQ fa X μ H D'),
   ⟨_,μ1,Z,M1,.refl,hE1,hM1,q⟩,?_⟩
  rintro i m σ2 H2 ⟨μ2,ρ2,M2,x2,hE2,hM2,q2⟩
  cases m with
  |zero=>exact q2.elim
  | succ m =>
    unfold ez at q2
    cases e2:w M2 with
    |none=>rw [e2] at q2;exact q2.elim
    | some ds =>
      rw [e2] at q2
      dsimp only at q2
      obtain ⟨go,stop⟩:=wk μ2 H2 M2 ds x2.toExtW hM2 e2
      cases ed:ds[i]? with
      | none =>
        rw [ed] at q2
        exact .inl ⟨stop i (List.getElem?_eq_none_iff.mp ed),q2 σ2 H2 μ2 (x1.trans x2) hE2 hM2⟩
      | some d =>
        rw [ed] at q2
        obtain ⟨g1,g2⟩:=go i d ed
        refine .inr ⟨g1,fun σ' H'=>∃μ' ρ' M',Ext μ1 H1 μ' H'/\a8 fa X.K μ' H' σ' ρ'/\RelM fa X.K μ' H' M'/\ag (ez (gk t gb) w m (i+1) (.next ρ') M') (mQ fa X μ H D'),fun σ' H' z=>⟨m,by omega,z⟩,fun y H3 hy=>?_⟩
        obtain ⟨x3,hM3,r3⟩:=g2 y H3 hy
        have q2:ag (((bK M2 (bN t d ρ2)).bind fun ρ1 M=>gb ρ1 M).bind (ez (gk t gb) w m (i+1))) (mQ fa X μ H D'):=q2
        obtain ⟨fl,M4,e4,q4⟩:=aI q2
        obtain ⟨ρ4,M5,e5,e6⟩:=eB e4
        cases eb:bN t d ρ2 with
        |none=>rw [eb] at e5;cases e5
        | some ρ5 =>
          rw [eb] at e5
          cases e5
          refine ⟨μ2,ρ2,_,d,ρ4,hE2.ext x3,hM3,r3,eb,fun σ5 hE5=>⟨μ2,ρ4,_,hE5,hM3,?_⟩⟩
          rw [e6]
          cases fl with
          |next ρ6=>exact fun σ6 H6 μ6 x6 hE6 hM6=>⟨μ6,ρ6,M4,(x2.trans x3).trans x6,hE6,hM6,q4⟩
          |ret d6=>exact (kG rfl m (i+1) M4 q4).ext ((x1.trans x2).trans x3)
          |exc x6 ρ6=>exact (kG rfl m (i+1) M4 q4).ext ((x1.trans x2).trans x3)
end
end LD
namespace LD
open PySem PySem.Spec PyProof.Rows L2
abbrev FF:MG->MI->Prop:=fun _ _=>False
section
variable {prog:Na}{w:Nd}{A:NL}{s:MI}
theorem yR {elt:Expr}{gens:List Oc}{scope:Scope}{pos p:Pos}{k:Nat}{it acc:MG}{env:Nx}{R:Result->MI->Prop}{target:Expr}{body:Sem Unit}
 (heq:compTurn (.ListComp elt gens scope pos) k it acc env=(standAt p >>= fun _=>pyNext it >>= fun r=>match r with
  |none=>pure (.done .next)
  |some v=>letOwnedTupleGo target it v >>= fun _=>assign target env v >>= fun _=>body >>= fun _=>again (.compLoop (.ListComp elt gens scope pos) k it acc env)))
 (I:Nat->MI->Prop)
 (turn:∀n s,I n s->wpAny (model prog w) A (pyNext it) (fun r s₁=>match r with
  |none=>R (.ok .next) s₁
  |some v=>wpAny (model prog w) A (letOwnedTupleGo target it v) (fun _ s₂=>wpAny (model prog w) A (assign target env v) (fun _ s₃=>wpAny (model prog w) A body (fun _ s₄=>∃m,m<n/\I m s₄) FF s₃) FF s₂) FF s₁) FF s)
 (n:Nat) (h:I n s):codeAny (model prog w) A (.compLoop (.ListComp elt gens scope pos) k it acc env) R s:=by
 refine codeAny_loop rfl I (fun n s hI=>?_) n h
 show wpAny _ _ ((compTurn (.ListComp elt gens scope pos) k it acc env).onRaise (fun x=>do noteFrame x env;theTreesLotGoes x)) _ _ s
 refine wpAny_noted ?_
 rw [heq]
 refine wpAny_noRaise ?_
 refine tqa (wpAny_standAt (tqa (aN (turn n s hI) fun r s₁ h₁=>?_)))
 cases r with
 |none=>exact tqb h₁
 | some v =>
   refine tqa (aN h₁ fun _ s₂ h₂=>?_)
   exact tqa (aN h₂ fun _ s₃ h₃=>tqa (aN h₃ fun _ s₄ h₄=>tqb ⟨rfl,h₄⟩))
theorem zG (elt target iter:Expr)(gs:List Oc)(scope:Scope)(pos:Pos)(it acc:MG)(env:Nx) :
 compTurn (.ListComp elt [⟨target,iter,[],0⟩] scope pos) 0 it acc env=(standAt iter.pos >>= fun _=>pyNext it >>= fun r=>match r with
  |none=>pure (.done .next)
  |some v=>letOwnedTupleGo target it v >>= fun _=>assign target env v >>= fun _=>(eval elt env >>= fun x=>call (.builtin "list.append") [acc,x] >>= fun _=>pure ()) >>= fun _=>again (.compLoop (.ListComp elt [⟨target,iter,[],0⟩] scope pos) 0 it acc env)):=by rfl
theorem turn_if (elt target iter c:Expr)(scope:Scope)(pos:Pos)(it acc:MG)(env:Nx) :
 compTurn (.ListComp elt [⟨target,iter,[c],0⟩] scope pos) 0 it acc env=(standAt iter.pos >>= fun _=>pyNext it >>= fun r=>match r with
  |none=>pure (.done .next)
  |some v=>letOwnedTupleGo target it v >>= fun _=>assign target env v >>= fun _=>(isTrue c env (eval c env) >>= fun ok=>if ok=true then (eval elt env >>= fun x=>call (.builtin "list.append") [acc,x] >>= fun _=>pure ()) else pure ()) >>= fun _=>again (.compLoop (.ListComp elt [⟨target,iter,[c],0⟩] scope pos) 0 it acc env)):=by
 rw [compTurn_list]
 refine congrArg _ (funext fun _=>congrArg _ (funext fun r=>?_))
 cases r with
 |none=>rfl
 | some v =>
   simp only [List.forIn_cons,List.forIn_nil,if_true,bind_assoc,pure_bind]
   refine congrArg _ (funext fun _=>congrArg _ (funext fun _=>congrArg _ (funext fun ok=>?_)))
   cases ok<;>simp
theorem zE (elt target iter t2 i2:Expr)(scope:Scope)(pos:Pos)(it acc:MG)(env:Nx) :
 compTurn (.ListComp elt [⟨target,iter,[],0⟩,⟨t2,i2,[],0⟩] scope pos) 0 it acc env=(standAt iter.pos >>= fun _=>pyNext it >>= fun r=>match r with
  |none=>pure (.done .next)
  |some v=>letOwnedTupleGo target it v >>= fun _=>assign target env v >>= fun _=>(eval i2 env >>= fun x=>standAt i2.pos >>= fun _=>foldedSetIterable i2 env x >>= fun x=>holding [x] (pyIter x) >>= fun j=>runOwn (.compStart (.ListComp elt [⟨target,iter,[],0⟩,⟨t2,i2,[],0⟩] scope pos) 1 j acc env) env >>= fun _=>pure ()) >>= fun _=>again (.compLoop (.ListComp elt [⟨target,iter,[],0⟩,⟨t2,i2,[],0⟩] scope pos) 0 it acc env)):=by
 unfold compTurn
 simp only [OT,bne_self_eq_false,Bool.false_eq_true,if_false]
 refine bind_congr fun _=>bind_congr fun r=>?_
 cases r with
 |none=>rfl
 |some v=>simp
theorem zF (elt target iter t2 i2:Expr)(scope:Scope)(pos:Pos)(it acc:MG)(env:Nx) :
 compTurn (.ListComp elt [⟨target,iter,[],0⟩,⟨t2,i2,[],0⟩] scope pos) 1 it acc env=(standAt i2.pos >>= fun _=>pyNext it >>= fun r=>match r with
  |none=>pure (.done .next)
  |some v=>letOwnedTupleGo t2 it v >>= fun _=>assign t2 env v >>= fun _=>(eval elt env >>= fun x=>call (.builtin "list.append") [acc,x] >>= fun _=>pure ()) >>= fun _=>again (.compLoop (.ListComp elt [⟨target,iter,[],0⟩,⟨t2,i2,[],0⟩] scope pos) 1 it acc env)):=by
 rfl
theorem kM (env:Nx):∀(ns:List (Str×NameKind)) (cs:List (Str×Addr)),(∀y∈ns,y.2=.free->∃c,env.cells.lookup y.1=some c)->(∀x c,cs.lookup x=some c->env.cells.lookup x=some c)->
 ∃cl,(forIn ns cs fun (y:Str×NameKind) (r:List (Str×Addr))=>if (y.2==NameKind.free)=true then cellOf env y.1 >>= fun a=>pure (ForInStep.yield ((y.1,a)::r)) else pure (ForInStep.yield r):Sem _)=pure cl/\
  (∀x c,cl.lookup x=some c->env.cells.lookup x=some c)/\(∀x c,cs.lookup x=some c->∃c',cl.lookup x=some c')/\∀y∈ns,y.2=.free->∃c,cl.lookup y.1=some c
 |[],cs,_,h2=>⟨cs,by simp,h2,fun x c e=>⟨c,e⟩,fun y hy=>nomatch hy⟩
 | (n, k) :: ns, cs, h1, h2 => by
   by_cases hk:k=.free
   ·subst hk
    obtain ⟨a,ha⟩:=h1 (n,.free) Ni rfl
    have lk:∀x c,((n,a)::cs).lookup x=some c->env.cells.lookup x=some c:=fun x c e=>by
     rw [Nq] at e
     split at e
     ·next q=>cases e;rw [eq_of_beq q];exact ha
     ·exact h2 x c e
    obtain ⟨cl,e,p1,p2,p3⟩:=kM env ns ((n,a)::cs) (fun y hy=>h1 y (MV _ hy)) lk
    refine ⟨cl,?_,p1,fun x c q=>?_,fun y hy hf=>?_⟩
    ·rw [List.forIn_cons]
     have ec:cellOf env n=pure a:=by unfold cellOf;rw [ha]
     simp only [beq_self_eq_true,if_true,ec]
     exact e
    ·by_cases hx:x=n
     ·exact p2 x a (by rw [Nq,hx];simp)
     ·exact p2 x c (by rw [Nq,NA.mpr hx];exact q)
    ·rcases Np.mp hy with z|z
     ·subst z;exact p2 n a (by simp [Nq])
     ·exact p3 y z hf
   ·obtain ⟨cl,e,p1,p2,p3⟩:=kM env ns cs (fun y hy=>h1 y (MV _ hy)) h2
    refine ⟨cl,?_,p1,p2,fun y hy hf=>?_⟩
    ·rw [List.forIn_cons]
     have eb:(k==NameKind.free)=false:=by simpa using hk
     simp only [eb,Bool.false_eq_true,if_false]
     exact e
    ·rcases Np.mp hy with z|z
     ·subst z;exact absurd hf hk
     ·exact p3 y z hf
theorem wj {scope:Scope}{env:Nx}(h:∀y∈scope.names,y.2=.free->∃c,env.cells.lookup y.1=some c) :
 ∃cl,closureFor scope env=pure cl/\(∀x c,cl.lookup x=some c->env.cells.lookup x=some c)/\∀y∈scope.names,y.2=.free->∃c,cl.lookup y.1=some c:=by
 obtain ⟨cl,e,p1,_,p3⟩:=kM env scope.names [] h (fun x c q=>nomatch q)
 exact ⟨cl,by unfold closureFor;simp only [bind_pure];exact e,p1,p3⟩
end
end LD
namespace LD
open PySem PySem.Spec PyProof.Rows L2
noncomputable def gF (X:Cx)(own bn:List Str)(scope:Scope)(cl:List (Str×Addr))(C:Addr)(fp:List Addr)(s:MI)(H:Hp):Cx:=
 {X with N:=own++bn,s₀:=s,H₀:=H,env:=compEnvC scope cl C X.env,outer:=X.stack,ex:=fp,fn:=fun _=>false,pn:=[],xe:=FF}
theorem mem_of_lookup {β:Type}:∀{l:List (Str×β)}{x:Str}{k:β},l.lookup x=some k->(x,k)∈l
 |[],_,_,h=>by cases h
 | (n, b) :: r, x, k, h => by
   rw [Nq] at h
   split at h
   ·next q=>cases h;rw [eq_of_beq q];exact Ni
   ·exact MV _ (mem_of_lookup h)
theorem gn {env:Nx}:∀{names:List (Str×NameKind)}{x:Str}{k:NameKind},
 (names.map fun (n,k)=>if (k==NameKind.free&&env.scope.kind==.function&&env.kindOf n==some .cell) then (n,NameKind.cell) else (n,k)).lookup x=some k->
 ∃k0,(x,k0)∈names/\names.lookup x=some k0/\(k=k0\/(k0=.free/\k=.cell))
 |[],_,_,h=>by cases h
 | (n, k0) :: r, x, k, h => by
   have ih:=@gn env r x k
   have h:List.lookup x ((if (k0==NameKind.free&&env.scope.kind==.function&&env.kindOf n==some .cell)=true then (n,NameKind.cell) else (n,k0))::_)=some k:=h
   cases hx:x==n with
   | true =>
     have e:=eq_of_beq hx
     subst e
     refine ⟨k0,Ni,by simp [Nq],?_⟩
     split at h
     ·next c=>
      simp [Nq] at h
      simp at c
      exact .inr ⟨c.1.1,h.symm⟩
     ·simp [Nq] at h
      exact .inl h.symm
   | false =>
     have h':List.lookup x (r.map fun (n,k)=>if (k==NameKind.free&&env.scope.kind==.function&&env.kindOf n==some .cell) then (n,NameKind.cell) else (n,k))=some k:=by
      split at h<;>simpa [Nq,hx] using h
     obtain ⟨k1,h1,h2,h3⟩:=ih h'
     exact ⟨k1,MV _ h1,by simp [Nq,hx];exact h2,h3⟩
theorem nY {α β:Type}{R:α->β->Prop}:∀{l:List α}{r:List β}{i:Nat}{x:α},ON R l r->l[i]?=some x->∃y,r[i]?=some y/\R x y
 |_,_,_,_,.nil,e=>by simp at e
 |_,_,0,_,.cons p _,e=>by simp at e;subst e;exact ⟨_,rfl,p⟩
 | _, _, i + 1, x, .cons _ t, e => by
   obtain ⟨y,h1,h2⟩:=nY (i:=i) (x:=x) t (by simpa using e)
   exact ⟨y,by simpa using h1,h2⟩
structure iw (X:Cx) (own bn:List Str) (scope:Scope):Prop where
 kind:scope.kind=.function
 nocell:∀y∈scope.names,y.2≠.cell
 loc:∀y∈scope.names,y.2=.local->scope.names.lookup y.1=some .local
 free:∀y∈scope.names,y.2=.free->X.env.kindOf y.1=some .cell\/X.env.kindOf y.1=some .free
 dis:ON (fun b x=>(b=x/\scope.names.lookup x≠some .local)\/scope.names.lookup b=none) bn X.N
section
variable {X:Cx}{pins:List (Addr×Obj)}{σ:L2.St}{H:Hp}{s:MI}{fp:List Addr}{scope:Scope}{cl:List (Str×Addr)}{own bn:List Str}
structure Cl (X:Cx) (scope:Scope) (cl:List (Str×Addr)):Prop where
 sub:∀x c,cl.lookup x=some c->X.env.cells.lookup x=some c
 has:∀y∈scope.names,y.2=.free->∃c,cl.lookup y.1=some c
theorem Fc (I:Inv X pins σ H s)(S:iw X own bn scope)(hcl:Cl X scope cl)(hfp:∀b∈fp,fA X pins H b)(hfo:∀b∈fp,∃o,s.heap.get? b=some o) :
 (gF X own bn scope cl s.heap.objs.size fp s H).Ok where
 mod:=I.ok.mod
 kind:=S.kind
 glob:=I.ok.glob
 blt:=I.ok.blt
 above:=MN _
 inj:=fun x y c h1 h2=>I.ok.inj x y c (hcl.sub x c h1) (hcl.sub y c h2)
 has:=fun x h=>by
  have key:∀k,(relabel scope X.env).names.lookup x=some k->(k=.cell\/k=.free)->∃c,cl.lookup x=some c:=fun k hk hh=>by
   obtain ⟨k0,h1,h2,h3⟩:=gn hk
   have hf:k0=.free:=by
    rcases h3 with e|⟨e,_⟩
    ·rcases hh with z|z
     ·exact absurd (e.symm.trans z) (S.nocell _ h1)
     ·exact e.symm.trans z
    ·exact e
   exact hcl.has _ h1 hf
  rcases h with h|h
  ·exact key _ h (.inl rfl)
  ·exact key _ h (.inr rfl)
 cab:=fun x c h=>nomatch h
 hd:=I.ok.hd
 frames:=I.ok.frames
 stk:=.inl rfl
 exf:=fun b hb=>⟨fun e=>by
  obtain ⟨o,ho⟩:=hfo b hb
  exact absurd (MS ho) (by rw [e];exact NX _),fun x c e=>(hfp b hb).2.2.2.2.1 x c (hcl.sub x c e)⟩
 bs:=fun b o e=>I.bs b o e
 bsz:=MR I.ok.bsz I.sz
 noex:=fun b o e hb=>by
  rcases (hfp b hb).2.2.2.1 with z|z
  ·exact I.ok.noex b o e z
  ·exact absurd (M9 (MS e) (MR I.ok.bsz z)) (NX _)
 exfs:=fun b hb hx=>by
  rcases Np.mp (I.stkSub b hx) with e|e
  ·exact (hfp b hb).2.1 e
  ·exact (hfp b hb).2.2.1 e
 funs:=I.stack
 frf:=fun b hb=>I.stkFree b hb
theorem Bo (I:Inv X pins σ H s)(S:iw X own bn scope)(hcl:Cl X scope cl)(hfp:∀b∈fp,fA X pins H b)(hfo:∀b∈fp,∃o,s.heap.get? b=some o){h':Heap}{t':Nat}{m:Str->Option MG}
 (hn:h'.Ns s.heap.objs.size m) (hk:∀b o,s.heap.get? b=some o->h'.get? b=some o) :
 Inv (gF X own bn scope cl s.heap.objs.size fp s H) [] (List.replicate own.length none++σ) H {s with heap:=h',toks:=t'} where
 ok:=Fc I S hcl hfp hfo
 os:=rfl
 bare:=I.bare
 base:=Un.kept hk
 loc:=by
  refine ⟨m,hn,fun i x v e1 e2 hv=>?_⟩
  have e1:(own++bn)[i]?=some x:=e1
  have hi:own.length<=i:=by
   by_cases q:i<own.length
   ·rw [Nh (by simpa using q),Oy] at e2
    simp [q] at e2
   ·omega
  rw [NP hi] at e1
  rw [NP (by simpa using hi)] at e2
  simp only [List.length_replicate] at e2
  have hx:X.N[i-own.length]?=some x/\scope.names.lookup x≠some .local:=by
   rcases nY S.dis e1 with ⟨y,h1,⟨h2,h3⟩|h2⟩
   ·subst h2;exact ⟨h1,h3⟩
   ·exfalso
    have no:∀k,(relabel scope X.env).names.lookup x≠some k:=fun k hk=>by
     obtain ⟨k0,_,h3,_⟩:=gn hk
     rw [h2] at h3;cases h3
    rcases hv with z|z|z
    ·exact no _ z
    ·exact no _ z
    ·exact no _ z
  have key:∀k,(relabel scope X.env).names.lookup x=some k->(k=.local\/k=.cell\/k=.free)->∃c,(k=.cell\/k=.free)/\cl.lookup x=some c/\(X.env.kindOf x=some .cell\/X.env.kindOf x=some .free):=fun k hk2 hh=>by
   obtain ⟨k0,h1,h2,h3⟩:=gn hk2
   have nl:k0≠.local:=fun e=>hx.2 (by rw [h2,e])
   have hf:k0=.free:=by
    rcases h3 with e|⟨e,_⟩
    ·rcases hh with z|z|z
     ·exact absurd (e.symm.trans z) nl
     ·exact absurd (e.symm.trans z) (S.nocell _ h1)
     ·exact e.symm.trans z
    ·exact e
   obtain ⟨c,hc⟩:=hcl.has _ h1 hf
   refine ⟨c,?_,hc,S.free _ h1 hf⟩
   rcases hh with z|z|z
   ·rcases h3 with e|⟨_,e⟩
    ·rw [hf] at e;rw [e] at z;cases z
    ·rw [e] at z;cases z
   ·exact .inl z
   ·exact .inr z
  have fin:∀k,(relabel scope X.env).names.lookup x=some k->(k=.local\/k=.cell\/k=.free)->∃u,RelV v u/\Look (compEnvC scope cl s.heap.objs.size X.env) h' m x u:=fun k hk2 hh=>by
   obtain ⟨c,h1,h2,h3⟩:=key k hk2 hh
   obtain ⟨m0,_,hl⟩:=I.loc
   obtain ⟨u,r,l⟩:=hl _ x v hx.1 e2 (.inr h3)
   refine ⟨u,r,.inr ⟨?_,c,h2,?_⟩⟩
   ·rcases h1 with z|z
    ·subst z;exact .inl hk2
    ·subst z;exact .inr hk2
   ·rcases l with ⟨z,_⟩|⟨_,c',hc',hcell⟩
    ·rcases h3 with q|q
     ·rw [z] at q;cases q
     ·rw [z] at q;cases q
    ·rw [hcl.sub x c h2] at hc';cases hc'
     obtain ⟨o,ho,hd⟩:=hcell
     exact ⟨o,hk _ _ ho,hd⟩
  rcases hv with z|z|z
  ·exact fin _ z (.inl rfl)
  ·exact fin _ z (.inr (.inl rfl))
  ·exact fin _ z (.inr (.inr rfl))
 cell:=fun x c e=>by
  obtain ⟨v,o,ho,hd⟩:=I.cell x c (hcl.sub x c e)
  exact ⟨v,o,hk _ _ ho,hd⟩
 free:=I.hok.fresh (MN _)
 freeC:=fun x c e=>I.freeC x c (hcl.sub x c e)
 pin:=fun p hp=>nomatch hp
 hok:=I.hok.kept hk
 len:=by
  show (List.replicate own.length none++σ).length=(own++bn).length
  have:=Paired.length S.dis
  simp [I.len,this]
theorem comp_back (I:Inv X pins σ H s)(hfp:∀b∈fp,fA X pins H b){pins':List (Addr×Obj)}{σ':L2.St}{H':Hp}{s':MI}{C:Addr}(I':Inv (gF X own bn scope cl C fp s H) pins' σ' H' s'):Inv X pins σ H' s':=
 I.call' (ch:=fp) I'.os I'.base I'.hok I'.bare fun b hb=>⟨(hfp b hb).2.2.2.1,(hfp b hb).2.1,(hfp b hb).2.2.2.2.1,(hfp b hb).2.2.2.2.2⟩
theorem yS (I:Inv X pins σ H s){σ':L2.St}{H':Hp}{s':MI}(hf:H' s.heap.objs.size=none)(I':Inv X pins σ' H' s'){h'':Heap}(hs:Heap.SameBut s.heap.objs.size s'.heap h''):Inv X pins σ' H' {s' with heap:=h''}:=
 I'.turned (t':=s'.toks) (fun b o hb e=>(hs.2 b hb).trans e) hf (NR I.lt) (.inr I.sz) (fun x c e z=>by
  obtain ⟨v,q⟩:=I.cell x c e
  exact absurd q.lt (by rw [z];exact NX _)) fun p hp z=>absurd (MS (I.pin p hp).1) (by rw [z];exact NX _)
end
end LD
namespace LD
open PySem PySem.Spec PyProof.Rows L2
structure e9 (a:Addr) (μ:Mu) (H:Hp) (μ':Mu) (H':Hp):Prop extends ExtW μ H μ' H' where
 pr:μ'.priv=μ.priv
 pk:∀b∈μ.priv,b≠a->H' b=H b
theorem e9.refl {a:Addr}{μ:Mu}{H:Hp}:e9 a μ H μ H:=⟨.refl,rfl,fun _ _ _=>rfl⟩
theorem e9.trans {a:Addr}{μ μ1 μ2:Mu}{H H1 H2:Hp}(x:e9 a μ H μ1 H1)(y:e9 a μ1 H1 μ2 H2):e9 a μ H μ2 H2:=
 ⟨x.toExtW.trans y.toExtW,y.pr.trans x.pr,fun b hb n=>(y.pk b (by rw [x.pr];exact hb) n).trans (x.pk b hb n)⟩
theorem Ext.toD {a:Addr}{μ μ':Mu}{H H':Hp}(x:Ext μ H μ' H'):e9 a μ H μ' H':=⟨x.toExtW,x.pr,fun b hb _=>x.pk b hb⟩
noncomputable def slots:cy->List Nat
 |.one i=>[i]
 |.tup l=>l
noncomputable def Clear (W:List Nat)(Z:Env):Prop:=∀i∈W,∀d,Z[i]?≠some (some d)
section
variable {fa:Fa}{K:MF}{μ μ':Mu}{H H':Hp}{σ:L2.St}{Z ρ1:Env}{M:Mem}{a:Addr}
theorem a8.weak (h:a8 fa K μ H σ ρ1)(hl:ρ1.length=Z.length)(w:∀(i:Nat) d,Z[i]?=some (some d)->ρ1[i]?=some (some d)):a8 fa K μ H σ Z:=
 ⟨h.len.trans hl,fun i d e=>h.at' i d (w i d e)⟩
theorem nP:∀{l:List Nat}{ds:List D}{Z ρ1:Env},eQ l ds Z=some ρ1->ρ1.length=Z.length/\∀i,i∉l->ρ1[i]?=Z[i]?
 |[],[],Z,ρ1,h=>by cases h;exact ⟨rfl,fun _ _=>rfl⟩
 |_::_,[],_,_,h=>by cases h
 |[],_::_,_,_,h=>by cases h
 | j :: l, d :: ds, Z, ρ1, h => by
   obtain ⟨h1,h2⟩:=nP (l:=l) (ds:=ds) h
   refine ⟨by simpa using h1,fun i hi=>?_⟩
   rw [h2 i (fun z=>hi (MV _ z)),MW (fun z=>hi (by rw [z];exact Ni))]
theorem qt {t:cy}{d:D}(h:bN t d Z=some ρ1):ρ1.length=Z.length/\∀i,i∉slots t->ρ1[i]?=Z[i]?:=by
 cases t with
 | one j =>
   have h:some (Z.set j (some d))=some ρ1:=h
   cases h
   exact ⟨by simp,fun i hi=>MW (fun z=>hi (by rw [z];exact Ni))⟩
 | tup l =>
   cases d with
   |tup ds=>exact nP h
   |_=>cases h
theorem a8.unbind {t:cy}{d:D}(h:bN t d Z=some ρ1)(c:Clear (slots t) Z)(r:a8 fa K μ H σ ρ1):a8 fa K μ H σ Z:=by
 obtain ⟨h1,h2⟩:=qt h
 refine r.weak h1 fun i d e=>?_
 by_cases hi:i∈slots t
 ·exact absurd e (c i hi d)
 ·rw [h2 i hi];exact e
theorem RelM.writeP (h:RelM fa K μ H M){ws vs:List V}(e:a∈μ.priv)(hH:H a=some (.lst vs)):RelM fa K μ (upd H a (.lst ws)) M:=by
 have x:ExtW μ H μ (upd H a (.lst ws)):=ExtW.write hH (.inr e)
 refine ⟨fun k ds q=>?_,h.out,h.oout,h.inj,h.oinj,h.sep,fun b hb=>⟨?_,(h.pv b hb).2⟩⟩
 ·rcases h.at' k ds q with ⟨b,us,h1,h2,h3⟩|⟨b,c,C,dx,fs,es,h1,h2,h3,h4,h5,h6,h7⟩
  ·have nb:b≠a:=fun z=>(h.pv a e).2 k (by rw [h1,z])
   exact .inl ⟨b,us,h1,by rw [ax nb];exact h2,h3.extW x⟩
  ·have nb:b≠a:=fun z=>by rw [z,hH] at h4;cases h4
   exact .inr ⟨b,c,C,dx,fs,es,h1,h2,h3,by rw [ax nb];exact h4,h5,h6,h7.extW x⟩
 ·by_cases hb':b=a
  ·subst hb';exact ⟨ws,bt⟩
  ·obtain ⟨us,q⟩:=(h.pv b hb).1
   exact ⟨us,by rw [ax hb'];exact q⟩
theorem e9.writeP {ws vs:List V}(e:a∈μ.priv)(hH:H a=some (.lst vs)):e9 a μ H μ (upd H a (.lst ws)):=
 ⟨ExtW.write hH (.inr e),rfl,fun b _ n=>by rw [ax n]⟩
end
noncomputable def WB (fa:Fa)(K:MF)(a:Addr)(μ:Mu)(H:Hp)(Z:Env)(Q:L2.St->Hp->Prop)(acc:List D)(M':Mem):Prop:=
 ∀σ' H' μ' vs',e9 a μ H μ' H'->a8 fa K μ' H' σ' Z->RelM fa K μ' H' M'->H' a=some (.lst vs')->aF fa K μ' H' acc vs'->Q σ' H'
theorem WB.ext {fa:Fa}{K:MF}{a:Addr}{μ μ1:Mu}{H H1:Hp}{Z:Env}{Q:L2.St->Hp->Prop}{acc:List D}{M':Mem}(h:WB fa K a μ H Z Q acc M')(x:e9 a μ H μ1 H1):WB fa K a μ1 H1 Z Q acc M':=
 fun σ' H' μ' vs' y e m h1 h2=>h σ' H' μ' vs' (x.trans y) e m h1 h2
noncomputable def DB (fa:Fa)(X:Cx)(a:Addr)(W:List Nat)(body:Sem Unit)(g:Env->List D->Mem->Res (List D)):Prop:=
 ∀(pins:List (Addr×Obj)) (s:MI) (σ:L2.St) (H:Hp) (Q:L2.St->Hp->Prop) (μ:Mu) (Z:Env) (M:Mem) (acc:List D) (vs:List V),Inv X pins σ H s->a8 fa X.K μ H σ Z->RelM fa X.K μ H M->Clear W Z->a∈μ.priv->H a=some (.lst vs)->aF fa X.K μ H acc vs->
  ag (g Z acc M) (WB fa X.K a μ H Z Q)->wpAny (model X.prog X.w) X.A body (fun _ s'=>∃σ' H',Inv X pins σ' H' s'/\Q σ' H') X.xe s
noncomputable def bS (ge:Env->Mem->Res D):Env->List D->Mem->Res (List D):=fun Z acc M=>(ge Z M).bind fun x M=>if acc.length<sz then .ok (acc++[x]) M else .bad
noncomputable def KP (gc:Env->Mem->Res Bool)(g:Env->List D->Mem->Res (List D)):Env->List D->Mem->Res (List D):=fun Z acc M=>(gc Z M).bind fun k M=>if k then g Z acc M else .ok acc M
noncomputable def dw (t:cy)(g:Env->List D->Mem->Res (List D))(Z:Env):List D->D->Mem->Res (List D):=fun acc d M=>(bK M (bN t d Z)).bind fun ρ1 M=>g ρ1 acc M
noncomputable def sP (t:cy)(gw:Env->Mem->Res Walk)(g:Env->List D->Mem->Res (List D)):Env->List D->Mem->Res (List D):=fun Z acc M=>(gw Z M).bind fun w M=>dj (dw t g Z) w acc M
section
variable {fa:Fa}{X:Cx}{a:Addr}
theorem sX {elt:Expr}{ge:Env->Mem->Res D}(he:DE fa X elt ge):DB fa X a [] (eval elt X.env >>= fun x=>call (.builtin "list.append") [.ref a,x] >>= fun _=>pure ()) (bS ge):=by
 intro pins s σ H Q μ Z M acc vs I hE hM hc ha hH hr h
 obtain ⟨x,M1,e,q⟩:=aI h
 split at q
 ·next hz=>
  have q:WB fa X.K a μ H Z Q (acc++[x]) M1:=q
  refine tqa (aN (he pins s σ H (fun v H1=>∃μ1,Ext μ H μ1 H1/\RelM fa X.K μ1 H1 M1/\Rep fa X.K μ1 H1 x v) I ⟨μ,Z,M,hE,hM,?_⟩) fun u s1 ⟨v,H1,I1,rv,μ1,x1,m1,r1⟩=>?_)
  ·rw [e];exact fun v H1 μ1 x1 m1 r1=>⟨μ1,x1,m1,r1⟩
  have hH1:H1 a=some (.lst vs):=by rw [x1.pk a ha];exact hH
  have ha1:a∈μ1.priv:=by rw [x1.pr];exact ha
  have hl:vs.length<sizeLine:=by rw [hr.length,<- cV];exact hz
  refine tqa (aN (qg pins s1 σ H1 (.ref a) [v] (.ref a) [u] (fun _ H2=>H2=upd H1 a (.lst (vs++[v]))) I1 rfl (.cons rv .nil) ⟨a,vs,v,rfl,rfl,hH1,hl,rfl⟩) fun _ s2 ⟨_,H2,I2,_,e2⟩=>tqb ⟨σ,H2,I2,?_⟩)
  subst e2
  have xd:e9 a μ1 H1 μ1 (upd H1 a (.lst (vs++[v]))):=e9.writeP ha1 hH1
  exact q σ _ μ1 (vs++[v]) (x1.toD.trans xd) ((hE.ext x1).extW xd.toExtW) (m1.writeP ha1 hH1) bt (((hr.ext x1).append (.one r1)).extW xd.toExtW)
 ·exact q.elim
theorem JR {c:Expr}{gc:Env->Mem->Res Bool}{W:List Nat}{body:Sem Unit}{g:Env->List D->Mem->Res (List D)}(hc:DT fa X c gc)(hb:DB fa X a W body g) :
 DB fa X a W (isTrue c X.env (eval c X.env) >>= fun ok=>if ok=true then body else pure ()) (KP gc g):=by
 intro pins s σ H Q μ Z M acc vs I hE hM hw ha hH hr h
 obtain ⟨k,M1,e,q⟩:=aI h
 refine tqa (aN (hc pins s σ H (fun b H1=>b=k/\∃μ1,Ext μ H μ1 H1/\RelM fa X.K μ1 H1 M1) I ⟨μ,Z,M,hE,hM,?_⟩) fun b s1 ⟨H1,I1,eb,μ1,x1,m1⟩=>?_)
 ·rw [e];exact fun H1 μ1 x1 m1=>⟨rfl,μ1,x1,m1⟩
 subst eb
 have hH1:H1 a=some (.lst vs):=by rw [x1.pk a ha];exact hH
 have ha1:a∈μ1.priv:=by rw [x1.pr];exact ha
 cases b with
 | true =>
   rw [if_pos rfl]
   exact hb pins s1 σ H1 Q μ1 Z M1 acc vs I1 (hE.ext x1) m1 hw ha1 hH1 (hr.ext x1) (aO q fun _ _ w=>w.ext x1.toD)
 | false =>
   rw [if_neg Ng]
   have q:WB fa X.K a μ H Z Q acc M1:=q
   exact tqb ⟨σ,H1,I1,q σ H1 μ1 vs x1.toD (hE.ext x1) m1 hH1 (hr.ext x1)⟩
theorem uX {elt:Expr}{gens:List Oc}{scope:Scope}{pos p:Pos}{k:Nat}{tg:Expr}{body:Sem Unit}{t:cy}{W:List Nat}{g:Env->List D->Mem->Res (List D)}{it:Addr}{fp:List Addr}{tn:Nat->Heap->Prop}{J:It}
 (heq:compTurn (.ListComp elt gens scope pos) k (.ref it) (.ref a) X.env=(standAt p >>= fun _=>pyNext (.ref it) >>= fun r=>match r with
  |none=>pure (.done .next)
  |some v=>letOwnedTupleGo tg (.ref it) v >>= fun _=>assign tg X.env v >>= fun _=>body >>= fun _=>again (.compLoop (.ListComp elt gens scope pos) k (.ref it) (.ref a) X.env)))
 (hx:X.xe=FF) (hcalm:X.calm=true) (T:Turn X.prog X.w X.K tg J fp it tn) (hg:PG X tg (gT fa X.K t)) (hb:DB fa X a W body g) (hW:∀i∈W,i∉slots t)
 {pins:List (Addr×Obj)}{s:MI}{σ:L2.St}{H:Hp}{Q:L2.St->Hp->Prop}{μ:Mu}{Z:Env}{M:Mem}{acc:List D}{vs:List V}{w:Walk} (I:Inv X pins σ H s) (st:tn 0 s.heap) (hf:∀b∈fp,fA X pins H b) (hE:a8 fa X.K μ H σ Z) (hM:RelM fa X.K μ H M)
 (hcl:Clear (slots t++W) Z) (ha:a∈μ.priv) (hH:H a=some (.lst vs)) (hr:aF fa X.K μ H acc vs) (wk:cT fa X.K μ H w J) (q:ag (dj (dw t g Z) w acc M) (WB fa X.K a μ H Z Q)) :
 codeAny (model X.prog X.w) X.A (.compLoop (.ListComp elt gens scope pos) k (.ref it) (.ref a) X.env) (fun r s'=>r=.ok .next/\∃σ' H',Inv X pins σ' H' s'/\Q σ' H') s:=by
 have stat:∀{H':Hp},(∀b∈fp,H' b=none)->∀b∈fp,fA X pins H' b:=fun hn b hb=>⟨hn b hb,(hf b hb).2⟩
 have clt:Clear (slots t) Z:=fun i hi=>hcl i (Oq _ hi)
 have clW:∀d ρ1,bN t d Z=some ρ1->Clear W ρ1:=fun d ρ1 e i hi d' z=>by
  rw [(qt e).2 i (hW i hi)] at z
  exact hcl i (NI _ hi) d' z
 let P:Nat->Nat->MI->Prop:=fun m i s'=>∃σ' H' μ' M' acc' vs',Inv X pins σ' H' s'/\tn i s'.heap/\(∀b∈fp,H' b=none)/\e9 a μ H μ' H'/\a8 fa X.K μ' H' σ' Z/\RelM fa X.K μ' H' M'/\H' a=some (.lst vs')/\aF fa X.K μ' H' acc' vs'/\
  ag (ez (dw t g Z) w m i acc' M') (WB fa X.K a μ H Z Q)
 have P0:∃m,P m 0 s:=⟨_,σ,H,μ,M,acc,vs,I,st,fun b hb=>(hf b hb).1,.refl,hE,hM,hH,hr,q⟩
 obtain ⟨m0,P0⟩:=P0
 have hturn:∀(n:Nat) (i:Nat) (s3:MI),P n i s3->wpAny (model X.prog X.w) X.A (pyNext (.ref it)) (fun r s₁=>match r with
  |none=>(∃σ' H',Inv X pins σ' H' s₁/\Q σ' H')
  |some v=>wpAny (model X.prog X.w) X.A (letOwnedTupleGo tg (.ref it) v) (fun _ s₂=>wpAny (model X.prog X.w) X.A (assign tg X.env v) (fun _ s₃=>wpAny (model X.prog X.w) X.A body (fun _ s₄=>∃m,m<n/\P m (i+1) s₄) FF s₃) FF s₂) FF s₁) FF s3:=by
  rintro n i s3 ⟨σ3,H3,μ3,M3,acc3,vs3,I3,st3,fr3,x3,hE3,hM3,hH3,hr3,q3⟩
  have ha3:a∈μ3.priv:=by rw [x3.pr];exact ha
  have one:∀(d:D) (rest:List D->Mem->Res (List D)) (next:List D->Mem->Prop),J.go i H3->(∀x H',J.yld i H3 x H'->Ext μ3 H3 μ3 H'/\RelM fa X.K μ3 H' M3/\Rep fa X.K μ3 H' d x)->ag ((dw t g Z acc3 d M3).bind rest) (WB fa X.K a μ H Z Q)->
   (∀σ' H' μ' M' acc' vs' s',Inv X pins σ' H' s'->tn (i+1) s'.heap->(∀b∈fp,H' b=none)->e9 a μ H μ' H'->a8 fa X.K μ' H' σ' Z->RelM fa X.K μ' H' M'->H' a=some (.lst vs')->aF fa X.K μ' H' acc' vs'->ag (rest acc' M') (WB fa X.K a μ H Z Q)->∃m,m<n/\P m (i+1) s')->
   wpAny (model X.prog X.w) X.A (pyNext (.ref it)) (fun r s₁=>match r with
    |none=>(∃σ' H',Inv X pins σ' H' s₁/\Q σ' H')
    |some v=>wpAny (model X.prog X.w) X.A (letOwnedTupleGo tg (.ref it) v) (fun _ s₂=>wpAny (model X.prog X.w) X.A (assign tg X.env v) (fun _ s₃=>wpAny (model X.prog X.w) X.A body (fun _ s₄=>∃m,m<n/\P m (i+1) s₄) FF s₃) FF s₂) FF s₁) FF s3:=by
   intro d rest next go yl qd fin
   refine aN (T.item X rfl rfl rfl hcalm i pins s3 σ3 H3 FF I3 (stat fr3) st3 go) fun r s4 ⟨u,hr4,h4⟩=>?_
   subst hr4
   refine aN h4 fun _ s5 ⟨x,H5,I5,r5,y5,st5,fr5⟩=>?_
   obtain ⟨x5,hM5,rd⟩:=yl x H5 y5
   have I5':=I5.pinned (stat fr5) (T.obj _ _ st5)
   obtain ⟨acc6,M6,e6,q6⟩:=aI qd
   obtain ⟨ρ1,M7,e7,e8⟩:=eB e6
   cases eb:bN t d Z with
   |none=>rw [eb] at e7;cases e7
   | some ρ2 =>
     rw [eb] at e7
     cases e7
     have hg':=hg _ s5 σ3 H5 x u (fun σ' H'=>H'=H5/\a8 fa X.K μ3 H5 σ' ρ1) I5' r5 ⟨μ3,Z,_,d,ρ1,hE3.ext x5,hM5,rd,eb,fun σ1 h1=>⟨rfl,h1⟩⟩
     rw [hx] at hg'
     refine aN hg' fun _ s6 ⟨σ6,H6,I6,eH,hE6⟩=>?_
     subst eH
     have hH6:H6 a=some (.lst vs3):=by rw [x5.pk a ha3];exact hH3
     have hb':=hb _ s6 σ6 H6 (fun σ' H'=>∃μ' vs',e9 a μ3 H6 μ' H'/\a8 fa X.K μ' H' σ' ρ1/\RelM fa X.K μ' H' M6/\H' a=some (.lst vs')/\aF fa X.K μ' H' acc6 vs') μ3 ρ1 _ acc3 vs3 I6 hE6 hM5 (clW d ρ1 eb) ha3 hH6 (hr3.ext x5) (by
      rw [e8];exact fun σ' H' μ' vs' z1 z2 z3 z4 z5=>⟨μ',vs',z1,z2,z3,z4,z5⟩)
     rw [hx] at hb'
     refine aN hb' fun _ s7 ⟨σ7,H7,I7,μ7,vs7,x7,hE7,hM7,hH7,hr7⟩=>?_
     refine fin σ7 H7 μ7 M6 acc6 vs7 s7 I7.unpinned (T.keep _ _ _ st5 fun b hb o e=>(I7.pin (b,o) (NI _ (NI _ (iM hb e)))).1) (fun b hb=>?_) ((x3.trans x5.toD).trans x7) (hE7.unbind eb clt) hM7 hH7 hr7 q6
     obtain ⟨o,e,dd⟩:=T.obj _ _ st5 b hb
     exact (I7.pin (b,o) (NI _ (NI _ (iM hb e)))).2.1
  have stop:J.stop i H3->ag (.ok acc3 M3) (WB fa X.K a μ H Z Q)->wpAny (model X.prog X.w) X.A (pyNext (.ref it)) (fun r s₁=>match r with
   |none=>(∃σ' H',Inv X pins σ' H' s₁/\Q σ' H')
   |some v=>wpAny (model X.prog X.w) X.A (letOwnedTupleGo tg (.ref it) v) (fun _ s₂=>wpAny (model X.prog X.w) X.A (assign tg X.env v) (fun _ s₃=>wpAny (model X.prog X.w) X.A body (fun _ s₄=>∃m,m<n/\P m (i+1) s₄) FF s₃) FF s₂) FF s₁) FF s3:=fun hs q=>by
   refine aN (T.done X rfl rfl rfl hcalm i pins s3 σ3 H3 FF I3 (stat fr3) st3 hs) fun r s4 ⟨hr4,I4⟩=>?_
   subst hr4
   have q:WB fa X.K a μ H Z Q acc3 M3:=q
   exact ⟨σ3,H3,I4,q σ3 H3 μ3 vs3 x3 hE3 hM3 hH3 hr3⟩
  cases n with
  |zero=>exact q3.elim
  | succ n =>
    unfold ez at q3
    cases e2:w M3 with
    |none=>rw [e2] at q3;exact q3.elim
    | some ds =>
      rw [e2] at q3
      dsimp only at q3
      obtain ⟨go,stp⟩:=wk μ3 H3 M3 ds x3.toExtW hM3 e2
      cases ed:ds[i]? with
      | none =>
        rw [ed] at q3
        exact stop (stp i (List.getElem?_eq_none_iff.mp ed)) q3
      | some d =>
        rw [ed] at q3
        obtain ⟨g1,g2⟩:=go i d ed
        refine one d (ez (dw t g Z) w n (i+1)) (fun _ _=>True) g1 g2 q3 ?_
        intro σ' H' μ' M' acc' vs' s' z1 z2 z3 z4 z5 z6 z7 z8 z9
        exact ⟨n,by omega,σ',H',μ',M',acc',vs',z1,z2,z3,z4,z5,z6,z7,z8,z9⟩
 refine yR heq (fun n s'=>∃i,P n i s') (fun n s3 ⟨i,h3⟩=>?_) m0 ⟨0,P0⟩
 refine aN (hturn n i s3 h3) fun r s1 h=>?_
 cases r with
 |none=>exact ⟨rfl,h⟩
 |some v=>exact aN h fun _ s2 h=>aN h fun _ s3 h=>aN h fun _ s4 ⟨m,hm,h⟩=>⟨m,hm,i+1,h⟩
end
end LD
namespace LD
open PySem PySem.Spec PyProof.Rows L2
section
variable {prog:Na}{w:Nd}{A:NL}{s:MI}{R:Result->MI->Prop}
theorem qH {elt t1 i1 t2 i2:Expr}{f1 f2:List Expr}{scope:Scope}{pos:Pos}{it acc:MG}{env:Nx}
 (h0:codeAny (model prog w) A (.compLoop (.ListComp elt [⟨t1,i1,f1,0⟩,⟨t2,i2,f2,0⟩] scope pos) 1 it acc env) R s)
 (h:wpAny (model prog w) A (pyIter it) (fun it' s'=>codeAny (model prog w) A (.compLoop (.ListComp elt [⟨t1,i1,f1,0⟩,⟨t2,i2,f2,0⟩] scope pos) 1 it' acc env) R s')
  (notedBy (model prog w) A env fun x s'=>R (.error x) s') s) :
 codeAny (model prog w) A (.compStart (.ListComp elt [⟨t1,i1,f1,0⟩,⟨t2,i2,f2,0⟩] scope pos) 1 it acc env) R s:=by
 refine codeAny_of_tree ?_
 show wpAny _ _ ((compStart (.ListComp elt [⟨t1,i1,f1,0⟩,⟨t2,i2,f2,0⟩] scope pos) 1 it acc env).onRaise (fun x=>do noteFrame x env;standAt theWindowsPlace)) _ _ s
 refine wpAny_notedAt ?_
 unfold compStart
 show wpAny _ _ (ask >>= _) _ _ s
 refine tqa (wpAny_askSetting (wpAny_ite ?_))
 split
 ·first
   |exact tqa (tqb (tqb (And.intro rfl h0)))
   |exact tqb (And.intro rfl h0)
 ·first
   |exact tqa (wpAny_rule (tqa (wpAny_standAt (tqa (wpAny_mono h (fun it' s' h'=>tqb (And.intro rfl h')) fun _ _ x=>x)))))
   |(refine tqa (wpAny_rule ?_);show wpAny _ _ (standAt i2.pos >>= _) _ _ s;exact tqa (wpAny_standAt (tqa (wpAny_mono h (fun it' s' h'=>tqb (And.intro rfl h')) fun _ _ x=>x))))
end
section
variable {fa:Fa}{X:Cx}{a:Addr}
theorem Ii {elt t1 i1 t2 i2:Expr}{scope:Scope}{pos:Pos}{t:cy}{gw:Env->Mem->Res Walk}{ge:Env->Mem->Res D}(hx:X.xe=FF)(hcalm:X.calm=true)(hi:DI fa X t2 i2 gw)(hg:PG X t2 (gT fa X.K t))(he:DE fa X elt ge)
 (hs:∀x,foldedSetIterable i2 X.env x=pure x) :
 DB fa X a (slots t) (eval i2 X.env >>= fun x=>standAt i2.pos >>= fun _=>foldedSetIterable i2 X.env x >>= fun x=>holding [x] (pyIter x) >>= fun j=>runOwn (.compStart (.ListComp elt [⟨t1,i1,[],0⟩,⟨t2,i2,[],0⟩] scope pos) 1 j (.ref a) X.env) X.env >>= fun _=>pure ()) (sP t gw (bS ge)):=by
 intro pins s σ H Q μ Z M acc vs I hE hM hc ha hH hr h
 obtain ⟨w,M1,e,q⟩:=aI h
 refine tqa (aN (hi pins s σ H (fun J H1=>∃μ1,Ext μ H μ1 H1/\RelM fa X.K μ1 H1 M1/\cT fa X.K μ1 H1 w J) I ⟨μ,Z,M,hE,hM,?_⟩) fun v s1 h1=>?_)
 ·rw [e];exact fun J H1 μ1 x1 m1 wk=>⟨μ1,x1,m1,wk⟩
 refine tqa (wpAny_standAt (tqa (wpAny_of_eq (hs v) (tqa (tqo (aN h1 fun itv s2 h2=>?_))))))
 obtain ⟨it,fp,tn,J,H2,ei,I2,T,st2,f2,μ2,x2,m2,wk⟩:=h2
 subst ei
 have hH2:H2 a=some (.lst vs):=by rw [x2.pk a ha];exact hH
 have ha2:a∈μ2.priv:=by rw [x2.pr];exact ha
 have go:=uX (elt:=elt) (gens:=[⟨t1,i1,[],0⟩,⟨t2,i2,[],0⟩]) (scope:=scope) (pos:=pos) (W:=[]) (Q:=Q) (zF elt t1 i1 t2 i2 scope pos (.ref it) (.ref a) X.env) hx hcalm T hg (sX he) (fun i hi=>nomatch hi) I2 st2 f2 (hE.ext x2) m2 (by simpa using hc) ha2 hH2 (hr.ext x2) wk (aO q fun _ _ z=>z.ext x2.toD)
 refine tqa (wpAny_runOwn (h:=none) ?_)
 have go':codeAny (model X.prog X.w) (X.A.mark none) (.compLoop (.ListComp elt [⟨t1,i1,[],0⟩,⟨t2,i2,[],0⟩] scope pos) 1 (.ref it) (.ref a) X.env) (fun r s'=>match r with|.ok f=>wpAny (model X.prog X.w) X.A (pure ():Sem Unit) (fun _ s'=>∃σ' H',Inv X pins σ' H' s'/\Q σ' H') X.xe s'|.error e=>cameBackBy (model X.prog X.w) X.A X.env X.xe e s') s2:=
  codeAny_mono go fun r s' ⟨er,z⟩=>by subst er;exact tqb z
 exact qH go' (T.self _ 0 _ _ _ st2 go')
end
end LD
namespace LD
open PySem PySem.Spec PyProof.Rows L2
section
variable {fa:Fa}{K:MF}{μ1 μ':Mu}{H1 H':Hp}{M1 M':Mem}{a:Addr}
noncomputable def Hl (μ:Mu)(a:Addr):Mu:=⟨μ.pub,a::μ.priv,μ.ob⟩
theorem lJ (h:RelM fa K μ1 H1 M1)(ha:H1 a=none)(o:HO):ExtW μ1 H1 (Hl μ1 a) (upd H1 a o):=by
 have x:ExtW μ1 H1 μ1 (upd H1 a o):=(Ext.alloc h ha).toExtW
 refine ⟨x.mu,x.tups,fun b vs e n=>⟨(x.lsts b vs e n).1,fun z=>?_⟩,x.frzs,x.exts,x.obs⟩
 rcases z with z|z
 ·exact n (.inl z)
 ·rcases Np.mp z with z|z
  ·subst z;rw [ha] at e;cases e
  ·exact n (.inr z)
theorem xG (h:RelM fa K μ1 H1 M1)(ha:H1 a=none)(vs:List V):RelM fa K (Hl μ1 a) (upd H1 a (.lst vs)) M1:=by
 have x:=lJ h ha (.lst vs)
 refine ⟨fun k ds e=>(h.at' k ds e).imp (fun ⟨b,ws,h1,h2,h3⟩=>⟨b,ws,h1,by rw [ax (aP h2 ha)];exact h2,h3.extW x⟩) fun ⟨b,c,C,dx,fs,es,h1,h2,h3,h4,h5,h6,h7⟩=>⟨b,c,C,dx,fs,es,h1,h2,h3,by rw [ax (aP h4 ha)];exact h4,h5,h6,h7.extW x⟩,h.out,h.oout,h.inj,h.oinj,h.sep,fun b hb=>?_⟩
 ·rcases Np.mp hb with z|z
  ·subst z
   exact ⟨⟨vs,bt⟩,fun k e=>by
    obtain ⟨_,_,_,q,_⟩:=h.mu_lt e
    rw [ha] at q;cases q⟩
  ·obtain ⟨⟨ws,q⟩,n⟩:=h.pv b z
   exact ⟨⟨ws,by rw [ax (aP q ha)];exact q⟩,n⟩
theorem Ec {m:Bool}{acc:List D}{vs:List V}{Q:VK}(h:RelM fa K μ1 H1 M1)(ha:H1 a=none)(x:e9 a (Hl μ1 a) (upd H1 a (.lst [])) μ' H')(hM:RelM fa K μ' H' M')(hH:H' a=some (.lst vs))(hr:aF fa K μ' H' acc vs)
 (q:ag (bf m acc M') (aY fa K μ1 H1 Q)):Q (.ref a) H':=by
 have na:a∉μ1.priv:=fun z=>h.pne ha z rfl
 have hp:μ'.priv=a::μ1.priv:=x.pr
 have nk:∀k,μ'.pub k≠some a:=(hM.pv a (by rw [hp];exact Ni)).2
 have x0:=lJ h ha (.lst [])
 have xe:Ext μ1 H1 ⟨μ'.pub,μ1.priv,μ'.ob⟩ H':=by
  refine ⟨⟨fun k b e=>x.mu k b e,fun b ws e=>x.tups b ws (x0.tups b ws e),fun b ws e n=>?_,fun b ob u e=>x.frzs b ob u (x0.frzs b ob u e),fun b o i e=>x.exts b o i (x0.exts b o i e),fun k b e=>x.obs k b (x0.obs k b e)⟩,rfl,fun b hb=>?_⟩
  ·obtain ⟨z1,z2⟩:=x0.lsts b ws e n
   obtain ⟨z3,z4⟩:=x.lsts b ws z1 z2
   refine ⟨z3,fun z=>z4 ?_⟩
   rcases z with z|z
   ·exact .inl z
   ·exact .inr (by rw [hp];exact MV _ z)
  ·have nb:b≠a:=fun e=>na (by rw [<- e];exact hb)
   rw [x.pk b (MV _ hb) nb,ax nb]
 have xw:ExtW μ' H' ⟨μ'.pub,μ1.priv,μ'.ob⟩ H':=⟨fun _ _ e=>e,fun _ _ e=>e,fun b ws e n=>⟨e,fun z=>n (z.elim .inl fun z=>.inr (by rw [hp];exact MV _ z))⟩,fun _ _ _ e=>e,fun _ _ _ e=>e,fun _ _ e=>e⟩
 have me:RelM fa K ⟨μ'.pub,μ1.priv,μ'.ob⟩ H' M':=⟨fun k ds e=>(hM.at' k ds e).imp (fun ⟨b,ws,h1,h2,h3⟩=>⟨b,ws,h1,h2,h3.extW xw⟩) fun ⟨b,c,C,dx,fs,es,h1,h2,h3,h4,h5,h6,h7⟩=>⟨b,c,C,dx,fs,es,h1,h2,h3,h4,h5,h6,h7.extW xw⟩,hM.out,hM.oout,hM.inj,hM.oinj,hM.sep,fun b hb=>hM.pv b (by rw [hp];exact MV _ hb)⟩
 have re:aF fa K ⟨μ'.pub,μ1.priv,μ'.ob⟩ H' acc vs:=hr.extW xw
 have nMt:¬ (⟨μ'.pub,μ1.priv,μ'.ob⟩:Mu).Mt a:=fun z=>z.elim (fun ⟨k,e⟩=>nk k e) na
 unfold bf at q
 split at q
 ·cases m with
  | false =>
    have q:aY fa K μ1 H1 Q (.lst acc) M':=q
    exact q (.ref a) H' _ xe me ⟨a,vs,rfl,⟨hH,nMt⟩,re⟩
  | true =>
    have q:aY fa K μ1 H1 Q (.cell M'.length) (M'++[acc]):=q
    have pc:∀k b,(fh ⟨μ'.pub,μ1.priv,μ'.ob⟩ M'.length a).pub k=some b->(k=M'.length/\b=a)\/(k≠M'.length/\μ'.pub k=some b):=fun k b e=>by
     have e:(if k=M'.length then some a else μ'.pub k)=some b:=e
     split at e
     ·next z=>cases e;exact .inl ⟨z,rfl⟩
     ·next z=>exact .inr ⟨z,e⟩
    have mc:∀k b,μ'.pub k=some b->(fh ⟨μ'.pub,μ1.priv,μ'.ob⟩ M'.length a).pub k=some b:=fun k b e=>by
     show (if k=M'.length then some a else μ'.pub k)=some b
     split
     ·next z=>rw [z,hM.out _ (MN _)] at e;cases e
     ·exact e
    have ac:(fh ⟨μ'.pub,μ1.priv,μ'.ob⟩ M'.length a).pub M'.length=some a:=by
     show (if M'.length=M'.length then some a else _)=some a
     rw [if_pos rfl]
    have nc:∀b,¬ μ'.Mt b->¬ (fh ⟨μ'.pub,μ1.priv,μ'.ob⟩ M'.length a).Mt b:=fun b n z=>by
     rcases z with ⟨k,z⟩|z
     ·rcases pc k b z with ⟨_,e⟩|⟨_,e⟩
      ·exact n (.inr (by rw [hp,e];exact Ni))
      ·exact n (.inl ⟨k,e⟩)
     ·exact n (.inr (by rw [hp];exact MV _ z))
    have xc:ExtW μ' H' (fh ⟨μ'.pub,μ1.priv,μ'.ob⟩ M'.length a) H':=⟨mc,fun _ _ e=>e,fun b ws e n=>⟨e,nc b n⟩,fun _ _ _ e=>e,fun _ _ _ e=>e,fun _ _ e=>e⟩
    have xe2:Ext μ1 H1 (fh ⟨μ'.pub,μ1.priv,μ'.ob⟩ M'.length a) H':=by
     refine ⟨⟨fun k b e=>mc k b (x.mu k b e),xe.tups,fun b ws e n=>?_,xe.frzs,xe.exts,xe.obs⟩,rfl,xe.pk⟩
     obtain ⟨z1,z2⟩:=x0.lsts b ws e n
     obtain ⟨z3,z4⟩:=x.lsts b ws z1 z2
     exact ⟨z3,nc b z4⟩
    have mce:RelM fa K (fh ⟨μ'.pub,μ1.priv,μ'.ob⟩ M'.length a) H' (M'++[acc]):=by
     refine ⟨fun k ds e=>?_,fun k hk=>?_,fun k hk=>hM.oout k (by simp at hk;omega),fun j k b e1 e2=>?_,hM.oinj,fun k b z=>?_,fun b hb=>?_⟩
     ·by_cases hk:k<M'.length
      ·rw [Nh hk] at e
       rcases hM.at' k ds e with ⟨b,ws,h1,h2,h3⟩|⟨b,c,C,dx,fs,es,h1,h2,h3,h4,h5,h6,h7⟩
       ·exact .inl ⟨b,ws,mc k b h1,h2,h3.extW xc⟩
       ·exact .inr ⟨b,c,C,dx,fs,es,h1,by show (if k=M'.length then some a else μ'.pub k)=none;rw [if_neg (Nz hk)];exact h2,h3,h4,h5,h6,h7.extW xc⟩
      ·have hk':k=M'.length:=by
        have:=(MH.mp e).1
        simp at this;omega
       subst hk'
       rw [NP (MN _)] at e
       simp at e
       subst e
       exact .inl ⟨a,vs,ac,hH,hr.extW xc⟩
     ·simp at hk
      show (if k=M'.length then some a else μ'.pub k)=none
      rw [if_neg (by omega)]
      exact hM.out k (by omega)
     ·rcases pc j b e1 with ⟨j1,j2⟩|⟨j1,j2⟩<;>rcases pc k b e2 with ⟨k1,k2⟩|⟨k1,k2⟩
      ·omega
      ·exact absurd (j2 ▸ k2) (nk k)
      ·exact absurd (k2 ▸ j2) (nk j)
      ·exact hM.inj j k b j2 k2
     ·show μ'.ob (aG k)=none
      rcases pc k b z with ⟨e,_⟩|⟨_,e⟩
      ·rw [e];exact hM.oout _ (MN _)
      ·exact hM.sep k b e
     ·have hb:b∈μ1.priv:=hb
      obtain ⟨z1,z2⟩:=hM.pv b (by rw [hp];exact MV _ hb)
      refine ⟨z1,fun k e=>?_⟩
      rcases pc k b e with ⟨_,e⟩|⟨_,e⟩
      ·exact na (e ▸ hb)
      ·exact z2 k e
    exact q (.ref a) H' _ xe2 mce ⟨a,rfl,ac⟩
 ·exact q.elim
end
section
variable {fa:Fa}{X:Cx}
noncomputable def b7 (m:Bool)(n:Nat)(t:cy)(gw:Env->Mem->Res Walk)(g:Env->List D->Mem->Res (List D)):Env->Mem->Res D:=fun Z M=>
 (gw Z M).bind fun w M=>(dj (dw t g (List.replicate n none++Z)) w [] M).bind (bf m)
noncomputable def oF (X:Cx)(elt tg iter:Expr)(ifs:List Expr)(rest:List Oc)(scope:Scope)(pos:Pos)(body:Addr->Nx->Sem Unit):Prop:=
 ∀(it a:Addr) (env:Nx),compTurn (.ListComp elt (⟨tg,iter,ifs,0⟩::rest) scope pos) 0 (.ref it) (.ref a) env=(standAt iter.pos >>= fun _=>pyNext (.ref it) >>= fun r=>match r with
  |none=>pure (.done .next)
  |some v=>letOwnedTupleGo tg (.ref it) v >>= fun _=>assign tg env v >>= fun _=>body a env >>= fun _=>again (.compLoop (.ListComp elt (⟨tg,iter,ifs,0⟩::rest) scope pos) 0 (.ref it) (.ref a) env))
structure Block (fa:Fa) (X:Cx) (own bn:List Str) (scope:Scope) (tg:Expr) (t:cy) (W:List Nat) (body:Addr->Nx->Sem Unit) (g:Env->List D->Mem->Res (List D)):Prop where
 pg:∀cl C fp s H,PG (gF X own bn scope cl C fp s H) tg (gT fa X.K t)
 db:∀cl C fp s H a,DB fa (gF X own bn scope cl C fp s H) a W (body a (compEnvC scope cl C X.env)) g
theorem yV {n:Nat}{W:List Nat}{Z:Env}(h:∀i∈W,i<n):Clear W (List.replicate n none++Z):=fun i hi d e=>by
 rw [Nh (by simpa using h i hi),Oy] at e
 simp [h i hi] at e
theorem Ap {K:MF}{μ:Mu}{H:Hp}{σ:L2.St}{Z:Env}(n:Nat)(h:a8 fa K μ H σ Z):a8 fa K μ H (List.replicate n none++σ) (List.replicate n none++Z):=by
 refine ⟨by simp [h.len],fun i d e=>?_⟩
 by_cases hi:i<n
 ·rw [Nh (by simpa using hi),Oy] at e
  simp [hi] at e
 ·rw [NP (by simp;omega)] at e ⊢
  simp only [List.length_replicate] at e ⊢
  exact h.at' _ d e
theorem oz {elt tg iter:Expr}{ifs:List Expr}{rest:List Oc}{scope:Scope}{pos p0:Pos}{own bn:List Str}{t:cy}{W:List Nat}{body:Addr->Nx->Sem Unit}{gw:Env->Mem->Res Walk}{g:Env->List D->Mem->Res (List D)}{m:Bool}
 (S:iw X own bn scope) (hcalm:X.calm=true) (hi:DI fa X tg iter gw) (B:Block fa X own bn scope tg t W body g) (hT:oF X elt tg iter ifs rest scope pos body) (hW:∀i∈W,i∉slots t) (hn:∀i∈slots t++W,i<own.length)
 (hs:∀x,foldedSetIterable iter X.env x=pure x) {use:Option (MG->Sem Unit)}{QQ:MG->MI->Prop}
 {pins:List (Addr×Obj)}{s:MI}{σ:L2.St}{H:Hp}{Q:VK}{μ:Mu}{Z:Env}{M:Mem} (I:Inv X pins σ H s) (hE:a8 fa X.K μ H σ Z) (hM:RelM fa X.K μ H M) (h:ag (b7 m own.length t gw g Z M) (aY fa X.K μ H Q))
 (post:∀(a C:Addr) (s':MI) (H':Hp),Inv X pins σ H' s'->Q (.ref a) H'->(∃m,s'.heap.Ns C m)->(∀σ2 H2 s2,Inv X pins σ2 H2 s2->(H' C=none->H2 C=none)->H2 C=none/\∀h'',Heap.SameBut C s2.heap h''->Inv X pins σ2 H2 {s2 with heap:=h''})->H' C=none->(C≠X.env.locals/\∀x c,X.env.cells.lookup x=some c->c≠C)->compPost (model X.prog X.w) X.A X.xe use QQ (.ref a) C (.ok .next) s') :
 wpAny (model X.prog X.w) X.A (comprehension (.ListComp elt (⟨tg,iter,ifs,0⟩::rest) scope pos) scope X.env p0 (newList []) false (eval iter X.env) use) QQ X.xe s:=by
 obtain ⟨w,M1,ew,q⟩:=aI h
 obtain ⟨acc,M2,ea,q2⟩:=aI q
 obtain ⟨cl,hcl,hsub,hhas⟩:=wj (scope:=scope) (env:=X.env) fun y hy hf=>I.ok.has y.1 (S.free y hy hf)
 have CL:Cl X scope cl:=⟨hsub,hhas⟩
 refine wpAny_comprehension_free (use:=use) rfl hs hcl S.kind S.loc ?_
 refine aN (hi pins s σ H (fun J H1=>∃μ1,Ext μ H μ1 H1/\RelM fa X.K μ1 H1 M1/\cT fa X.K μ1 H1 w J) I ⟨μ,Z,M,hE,hM,?_⟩) fun v s1 h1=>aN h1 fun itv s2 h2=>?_
 ·rw [ew];exact fun J H1 μ1 x1 m1 wk=>⟨μ1,x1,m1,wk⟩
 obtain ⟨it,fp,tn,J,H2,ei,I2,T,st2,f2,μ2,x2,m2,wk⟩:=h2
 subst ei
 refine wpAny_newObj_type ?_
 have ha:H2 s2.heap.objs.size=none:=I2.hok.fresh (MN _)
 have I3:Inv X pins σ (upd H2 s2.heap.objs.size (.lst [])) {s2 with heap:=s2.heap.push {cls:=.type "list",dict:=none,data:=.seq ([]:List MG).toArray}}:=
  I2.laid (t':=s2.toks) (fun b o e=>MJ _ e) (MN _) ⟨Nat.zero_le _,[],_,.nil,M8 _ rfl⟩
 generalize hs3:({s2 with heap:=s2.heap.push {cls:=.type "list",dict:=none,data:=.seq ([]:List MG).toArray}}:MI)=s3 at I3 ⊢
 have k3:∀b o,s2.heap.get? b=some o->s3.heap.get? b=some o:=fun b o e=>by rw [<- hs3];exact MJ _ e
 have fo2:=T.obj _ _ st2
 have f3:∀b∈fp,fA X pins (upd H2 s2.heap.objs.size (.lst [])) b:=fun b hb=>by
  obtain ⟨o,e,_⟩:=fo2 b hb
  exact ⟨by rw [ax (Nz (MS e))];exact (f2 b hb).1,(f2 b hb).2⟩
 have fo3:∀b∈fp,∃o,s3.heap.get? b=some o:=fun b hb=>let ⟨o,e,_⟩:=fo2 b hb;⟨o,k3 b o e⟩
 refine wpAny_newFunctionEnv S.nocell (by intro y hy;simp at hy) (fun h₁ hns₁ hsb₁=>?_) S.kind
 have k4:∀b o,s3.heap.get? b=some o->h₁.get? b=some o:=fun b o e=>hsb₁.extBut b o (Nz (MS e)) (MJ _ e)
 have I4:=Bo (own:=own) (bn:=bn) (t':=s3.toks+([]:List (Str×MG)).length) I3 S CL f3 fo3 hns₁ k4
 have ok4:=I4.ok
 have f4:∀b∈fp,fA (gF X own bn scope cl s3.heap.objs.size fp s3 (upd H2 s2.heap.objs.size (.lst []))) [] (upd H2 s2.heap.objs.size (.lst [])) b:=fun b hb=>
  ⟨(f3 b hb).1,(ok4.exf b hb).1,ok4.exfs b hb,.inl hb,(ok4.exf b hb).2,fun p hp=>nomatch hp⟩
 have st4:tn 0 h₁:=T.keep _ _ _ st2 fun b hb o e=>k4 b o (k3 b o e)
 have x3:=lJ m2 ha (.lst [])
 have go:=uX (X:=gF X own bn scope cl s3.heap.objs.size fp s3 (upd H2 s2.heap.objs.size (.lst []))) (fa:=fa) (a:=s2.heap.objs.size) (W:=W) (t:=t) (g:=g) (acc:=[]) (vs:=[]) (Q:=fun _ H'=>Q (.ref s2.heap.objs.size) H') (hT it s2.heap.objs.size _) rfl hcalm T (B.pg _ _ _ _ _) (B.db _ _ _ _ _ _) hW I4 st4 f4
  (Ap own.length ((hE.ext x2).extW x3)) (xG m2 ha []) (yV hn) Ni bt rfl (wJ wk x3) (by
   rw [ea]
   intro σ' H' μ' vs' z1 z2 z3 z4 z5
   exact Ec (m:=m) m2 ha z1 z3 z4 z5 (jz q2 x2))
 have go':codeAny (model X.prog X.w) X.A (.compLoop (.ListComp elt (⟨tg,iter,ifs,0⟩::rest) scope pos) 0 (.ref it) (.ref s2.heap.objs.size) (compEnvC scope cl s3.heap.objs.size X.env)) (compPost (model X.prog X.w) X.A X.xe use QQ (.ref s2.heap.objs.size) s3.heap.objs.size) {s3 with heap:=h₁,toks:=s3.toks+([]:List (Str×MG)).length}:=
  codeAny_mono go fun r s' ⟨er,σ',H',I',z⟩=>by
   subst er
   refine post _ _ s' H' (comp_back I3 f3 I') z (let ⟨m,hn,_⟩:=I'.loc;⟨m,hn⟩) (fun σ2 H2 s2' I2' hf=>⟨hf I'.free,fun h'' hs''=>yS I3 (hf I'.free) I2' hs''⟩) I'.free ⟨NR I3.lt,fun x c e z=>by
    obtain ⟨v,q⟩:=I3.cell x c e
    exact absurd q.lt (by rw [z];exact NX _)⟩
 exact codeAny_compStart_list go' (T.self _ 0 _ _ _ st4 go')
theorem Ip (m:Bool){elt tg iter:Expr}{ifs:List Expr}{rest:List Oc}{scope:Scope}{pos:Pos}{own bn:List Str}{t:cy}{W:List Nat}{body:Addr->Nx->Sem Unit}{gw:Env->Mem->Res Walk}{g:Env->List D->Mem->Res (List D)}
 (S:iw X own bn scope) (hcalm:X.calm=true) (hi:DI fa X tg iter gw) (B:Block fa X own bn scope tg t W body g) (hT:oF X elt tg iter ifs rest scope pos body) (hW:∀i∈W,i∉slots t) (hn:∀i∈slots t++W,i<own.length)
 (hs:∀x,foldedSetIterable iter X.env x=pure x):DE fa X (.ListComp elt (⟨tg,iter,ifs,0⟩::rest) scope pos) (b7 m own.length t gw g):=by
 intro pins s σ H Q I ⟨μ,Z,M,hE,hM,h⟩
 rw [eval_ListComp]
 refine oz (use:=none) S hcalm hi B hT hW hn hs I hE hM h ?_
 intro a C s' H' I' q ⟨m,hn⟩ gone hf _
 exact ⟨m,hn,fun h' hs'=>⟨.ref a,H',(gone σ H' s' I' id).2 h' hs',rfl,q⟩⟩
theorem wa (m:Bool){i:Nat}{y:Str}{py spos:Pos}{elt tg iter:Expr}{ifs:List Expr}{rest:List Oc}{scope:Scope}{pos:Pos}{own bn:List Str}{t:cy}{W:List Nat}{body:Addr->Nx->Sem Unit}{gw:Env->Mem->Res Walk}{g:Env->List D->Mem->Res (List D)}
 (S:iw X own bn scope) (hcalm:X.calm=true) (hi:DI fa X tg iter gw) (B:Block fa X own bn scope tg t W body g) (hT:oF X elt tg iter ifs rest scope pos body) (hW:∀i∈W,i∉slots t) (hn:∀i∈slots t++W,i<own.length)
 (hs:∀x,foldedSetIterable iter X.env x=pure x) (hN:X.N.Nodup) (hy:X.N[i]?=some y) (hl:X.env.scope.names.lookup y=some .local)
 (hsw:swapsWith (.ListComp elt (⟨tg,iter,ifs,0⟩::rest) scope pos) (some (.Name y py)) spos.line X.env=pure true) :
 DS fa X (.Assign [.Name y py] (.ListComp elt (⟨tg,iter,ifs,0⟩::rest) scope pos) spos) (fun Z M=>(b7 m own.length t gw g Z M).bind fun x M=>(bK M (bN (.one i) x Z)).bind fun ρ1 M=>.ok (.next ρ1) M):=by
 intro pins s σ H D' I ⟨μ,Z,M,hE,hM,h⟩
 obtain ⟨x,M1,ex,q⟩:=aI h
 have q:∀σ' H' μ',Ext μ H μ' H'->a8 fa X.K μ' H' σ' (Z.set i (some x))->RelM fa X.K μ' H' M1->D'.nx σ' H':=q
 rw [exec_Assign_Name_used _ _ _ _ hsw]
 refine tqa (wpAny_standAt (tqa ?_))
 show wpAny _ X.A (do let _ <- comprehension (.ListComp elt (⟨tg,iter,ifs,0⟩::rest) scope pos) scope X.env _ (newList []) false (eval iter X.env) (some (assign (.Name y py) X.env))) _ _ s
 refine tqa (aN (oz (use:=some (assign (.Name y py) X.env)) (QQ:=fun _ s'=>SP X pins D' .next s') (Q:=fun v H'=>D'.nx (σ.set i (some v)) H') S hcalm hi B hT hW hn hs I hE hM (by
  rw [ex]
  exact fun v H' μ' x1 m1 r1=>q _ H' μ' x1 ((hE.ext x1).set r1) m1) ?_) fun _ s' hq=>tqb (tqb hq))
 intro a C s' H' I' q ⟨m,hn⟩ gone hf ⟨nL,nC⟩
 refine wpAny_assign_Name (pR I' hN hy (.inl hl) (v:=.ref a) rfl (fun s2 I2 ⟨b,hb,hb2⟩=>?_) (.inr hl))
 have nb:C≠b:=by
  rcases hb2 with z|z
  ·rw [z];exact nL
  ·exact NV (nC y b z)
 exact ⟨m,hn.sameBut hb nb,fun h' hs'=>⟨_,H',(gone _ H' s2 I2 id).2 h' hs',q⟩⟩
end
end LD
namespace LD
open PySem PySem.Spec PyProof.Rows L2
section
variable {X:Cx}{pins:List (Addr×Obj)}{σ:L2.St}{H:Hp}{s:MI}{h':Heap}{t':Nat}{ch:List Addr}
theorem t9 (I:Inv X pins σ H s)(hf:∀b∈ch,fA X pins H b)(k:∀b o,b∉ch->s.heap.get? b=some o->h'.get? b=some o):Inv X pins σ H {s with heap:=h',toks:=t'}:=by
 have nit:∀b u,H b=some u->b∉ch:=fun b u e z=>by rw [(hf b z).1] at e;cases e
 refine I.step (g':=s.gens) (d':=s.drawn) (ch:=ch) (fun b hb=>⟨(hf b hb).2.2.2.1,(hf b hb).2.1,(hf b hb).2.2.2.2.1,(hf b hb).2.2.2.2.2⟩) (fun b o _ _ hc e _=>k b o hc e) (fun b o _ _ hc e _=>⟨o.slots,k b o hc e⟩) (fun _ _ _ _ n=>n)
  (fun b o hc e=>⟨o,k b o hc e⟩) (fun _ _ e=>e) (fun _ _ _ e=>e) (fun b ps e=>⟨#[],by rw [e];simp⟩) (fun m hm=>?_) (fun b u e=>?_) I.bare
 ·obtain ⟨o,es,ep,ho,r⟩:=hm
  exact ⟨o,es,ep,k _ o (fun z=>(hf _ z).2.1 rfl) ho,r⟩
 ·refine (I.hok b u e).stay (fun c v hc q=>k c v ?_ q) (fun _ q=>q) fun _ _ q=>q
  rcases hc with z|z
  ·rw [z];exact nit b u e
  ·exact nit c _ z
theorem pN {T:Addr}{o:HO}(I:Inv X pins σ H s)(hf:∀b∈ch,fA X pins H b)(k:∀b o,b∉ch->s.heap.get? b=some o->h'.get? b=some o)(hT:s.heap.objs.size<=T)(new:b9 X.prog X.w (upd H T o) h' T o) :
 Inv X pins σ (upd H T o) {s with heap:=h',toks:=t'}:=by
 have hn:H T=none:=I.hok.fresh hT
 have nit:∀b u,H b=some u->b∉ch:=fun b u e z=>by rw [(hf b z).1] at e;cases e
 refine I.step (g':=s.gens) (d':=s.drawn) (ch:=ch) (fun b hb=>⟨(hf b hb).2.2.2.1,(hf b hb).2.1,(hf b hb).2.2.2.2.1,(hf b hb).2.2.2.2.2⟩) (fun b o _ _ hc e _=>k b o hc e) (fun b o _ _ hc e _=>⟨o.slots,k b o hc e⟩)
  (fun b o _ e n=>by rw [ax (Nz (M9 (MS e) hT))];exact n)
  (fun b o hc e=>⟨o,k b o hc e⟩) (fun b xs e=>by rw [ax (aP e hn)];exact e) (fun b ob u e=>by rw [ax (aP e hn)];exact e) (fun b ps e=>⟨#[],by rw [ax (aP e hn),e];simp⟩) (fun m hm=>?_) (fun b u e=>?_) I.bare
 ·obtain ⟨o,es,ep,ho,r⟩:=hm
  exact ⟨o,es,ep,k _ o (fun z=>(hf _ z).2.1 rfl) ho,r⟩
 ·by_cases hb:b=T
  ·subst hb;rw [bt] at e;cases e;exact new
  ·rw [ax hb] at e
   refine (I.hok b u e).stay (fun c v hc q=>k c v ?_ q) (fun c q=>by rw [ax (aP q hn)];exact q) fun c xs q=>by rw [ax (aP q hn)];exact q
   rcases hc with z|z
   ·rw [z];exact nit b u e
   ·exact nit c _ z
end
noncomputable def KS (K:MF)(a:Addr):It:=
 ⟨fun i H=>∃xs x,bV K H a xs/\xs[i]?=some x,fun i H v H'=>∃p x,H p=none/\v=.ref p/\H'=upd H p (.tup [.int i,x])/\∀xs,bV K H a xs->xs[i]?=some x,fun i H=>∃xs,bV K H a xs/\xs.length<=i⟩
theorem w9 {P:Na}{w:Nd}{K:MF}{elts:List Expr}{kk:Nat}{pos:Pos}(a it e:Addr)(hne:e≠it) :
 Turn P w K (.Tuple elts kk pos) (KS K a) [e,it] e (fun i h=>(∃old,IsEnum h e it (i:Nat) old)/\h.IsListIter it a i) where
 mem:=by simp
 obj:=fun i h ⟨⟨old,he⟩,o,ho,c,d⟩ b hb=>by
  rcases Np.mp hb with z|z
  ·subst z;exact ⟨_,he,fun v z=>by cases z⟩
  ·have e:b=it:=by simpa using z
   subst e
   exact ⟨o,ho,fun v z=>by rw [d] at z;cases z⟩
 keep:=fun i h h' ⟨⟨old,he⟩,st⟩ k=>⟨⟨old,k e (by simp) _ he⟩,st.at fun o e=>k it (by simp) o e⟩
 item:=by
  intro X hP hw hK hc i pins s σ H E I hf st hg
  subst hP hw hK
  obtain ⟨xs,x,hq,hx⟩:=hg
  obtain ⟨⟨old,he⟩,hit⟩:=st
  obtain ⟨its,rv,p,hz⟩:=I.list hq
  obtain ⟨u,hu,ru⟩:=rv.get hx
  refine wpAny_pyNext_enum_item he hit p.isList (x:=u) (by simpa using hu) hne fun h1 ho hit1 hT hsz hk=>⟨_,rfl,?_⟩
  have hT0:H s.heap.objs.size=none:=I.hok.fresh (MN _)
  have elt:e<s.heap.objs.size:=MS he
  refine wpAny_letOwnedTupleGo_enum (s:={s with heap:=h1,toks:=s.toks+1}) ho fun h2 he2 hs2=>?_
  have he2:IsEnum h2 e it ((i+1:Nat):Int) u:=by simpa using he2
  have hT2:h2.get? s.heap.objs.size=some {cls:=.type "tuple",data:=.seq #[.int i s.toks,u]}:=(hs2.2 _ (NR elt)).trans hT
  refine ⟨.ref s.heap.objs.size,upd H s.heap.objs.size (.tup [.int i,x]),pN (s:=s) (t':=s.toks+1) I hf (fun b o hb q=>(hs2.2 b (fun z=>hb (by simp [z]))).trans (hk b o (fun z=>hb (by simp [z])) (fun z=>hb (by simp [z])) q)) (MN _) ⟨?_,[.int i s.toks,u],.cons ⟨_,rfl⟩ (.cons ru .nil),⟨_,hT2,rfl,_,rfl⟩⟩,rfl,
   ⟨_,x,hT0,rfl,rfl,fun ys hy=>by rw [I.list_inj hy hq];exact hx⟩,⟨⟨u,he2⟩,hit1.extBut hs2.extBut (NV hne)⟩,fun b hb=>?_⟩
  ·show 2<=sizeLine;decide
  ·have:b<s.heap.objs.size:=by
    rcases Np.mp hb with z|z
    ·subst z;exact elt
    ·have e:b=it:=by simpa using z
     subst e
     obtain ⟨o,e,_⟩:=hit;exact MS e
   rw [ax (Nz this)];exact (hf b hb).1
 done:=by
  intro X hP hw hK hc i pins s σ H E I hf st hg
  subst hP hw hK
  obtain ⟨xs,hq,hx⟩:=hg
  obtain ⟨⟨old,he⟩,hit⟩:=st
  obtain ⟨its,rv,p,hz⟩:=I.list hq
  have hl:=rv.length
  exact wpAny_pyNext_enum_end (I.ok.hd hc) he hit p.isList (by simp;omega) fun h' eb=>⟨rfl,t9 I hf (t':=s.toks) fun b o hb q=>eb b o (fun z=>hb (by simp [z])) q⟩
 self:=fun _ _ _ _ _ ⟨⟨old,he⟩,_⟩ h=>wpAny_pyIter_enum he h
section
variable {fa:Fa}{X:Cx}{a:Expr}{ga:Env->Mem->Res D}{pos p:Pos}
theorem jE:∀(ds:List D) (k i:Nat),(dP k ds)[i]?=(ds[i]?).map fun d=>.tup [.int ((k+i:Nat):Int),d]
 |[],_,_=>by simp [dP]
 |d::ds,k,0=>by simp [dP]
 | d :: ds, k, i + 1 => by
   have:=jE ds (k+1) i
   simp only [dP,OU,this]
   congr 1
   funext d
   congr 3
   omega
theorem lN:∀(ds:List D) (k:Nat),(dP k ds).length=ds.length
 |[],_=>rfl
 |d::ds,k=>by simp [dP,lN ds]
theorem wL {μ0:Mu}{H0:Hp}{dd:D}{ad:Addr}(h:Rep fa X.K μ0 H0 dd (.ref ad)):cT fa X.K μ0 H0 (fun M=>(eF M dd).map (dP 0)) (KS X.K ad):=fun μ H M ds x hM e=>by
 dsimp only at e
 cases e0:eF M dd with
 |none=>rw [e0] at e;cases e
 | some es =>
   rw [e0] at e
   have e:dP 0 es=ds:=MO e
   subst e
   obtain ⟨ad',vs,ea,s,r⟩:=bB hM (Rep.extW x h) e0
   cases ea
   refine ⟨fun i d hd=>?_,fun i hi=>⟨vs,s,by rw [r.length,<- lN es 0];exact hi⟩⟩
   rw [jE] at hd
   cases e1:es[i]? with
   |none=>rw [e1] at hd;cases hd
   | some d0 =>
     rw [e1] at hd
     have hd:D.tup [.int ((0+i:Nat):Int),d0]=d:=MO hd
     subst hd
     obtain ⟨v,hv,rv⟩:=r.get e1
     refine ⟨⟨vs,v,s,hv⟩,fun y H' ⟨q,z,hq,ey,eH,hy⟩=>?_⟩
     have:=hy vs s
     rw [hv] at this;cases this
     subst eH ey
     refine ⟨Ext.alloc hM hq,hM.alloc hq,q,[.int i,v],rfl,.inl (.inl bt),.int i,[v],rfl,?_,v,[],rfl,rv.ext (Ext.alloc hM hq),rfl⟩
     show V.int i=V.int ((0+i:Nat):Int)
     rw [Nat.zero_add]
noncomputable def mq (ga:Env->Mem->Res D):Env->Mem->Res Walk:=fun Z M=>(ga Z M).bind fun x M=>match x with
 |.lst ds=>.ok (fun _=>some (dP 0 ds)) M
 |.frz ds=>.ok (fun _=>some (dP 0 ds)) M
 |.cell k=>.ok (fun M=>(M[k]?).map (dP 0)) M
 |_=>.bad
theorem E3 {elts:List Expr}{kk:Nat}{tp:Pos}(ha:DE fa X a ga)(hg:Gl X "enumerate")(hm:X.mg "enumerate"=none)(hs:starEach [a] X.env=[(false,eval a X.env)]):DI fa X (.Tuple elts kk tp) (.Call (.Name "enumerate" p) [a] [] pos) (mq ga):=by
 intro pins s σ H R I ⟨μ,Z,M,hE,hM,h⟩
 obtain ⟨x,M1,e,q⟩:=aI h
 have key:(∀μ' H',RelM fa X.K μ' H' M1->∀v,Rep fa X.K μ' H' x v->∃ds,eF M1 x=some ds)->(∀J H' μ',Ext μ H μ' H'->RelM fa X.K μ' H' M1->cT fa X.K μ' H' (fun M=>(eF M x).map (dP 0)) J->R J H')->
  wpAny (model X.prog X.w) X.A (eval (.Call (.Name "enumerate" p) [a] [] pos) X.env) (fun v s1=>wpAny (model X.prog X.w) X.A (pyIter v) (ze X pins σ (.Tuple elts kk tp) R) X.xe s1) X.xe s:=fun hx q=>by
  refine Call_ (fD I hg hm boot_enumerate (NN (aN (bO ha eT hs pos pins s σ H (fun vs H1=>∃v μ1,vs=[v]/\Ext μ H μ1 H1/\RelM fa X.K μ1 H1 M1/\Rep fa X.K μ1 H1 x v) I ⟨μ,Z,M,hE,hM,?_⟩) fun us s1 ⟨vs,H1,I1,r1,v,μ1,ev,x1,m1,rv⟩=>?_) hs rfl))
  ·rw [e];exact fun v H1 μ1 x1 m1 r1=>⟨v,μ1,rfl,x1,m1,r1⟩
  subst ev
  obtain ⟨ds,er⟩:=hx μ1 H1 m1 v rv
  obtain ⟨ad,vs,rfl,s1',r⟩:=bB m1 rv er
  cases r1 with
  | cons r1 rr =>
    cases rr
    obtain rfl:=r1
    obtain ⟨its,rvs,pl,hz⟩:=I1.list s1'
    refine call_enumerate_list pl.isList fun h1 he hit hsz hk=>?_
    have I2:Inv X pins σ H1 {s1 with heap:=h1}:=I1.kept (t':=s1.toks) hk
    refine wpAny_pyIter_enum (s:={s1 with heap:=h1}) he ?_
    refine ⟨s1.heap.objs.size+1,[s1.heap.objs.size+1,s1.heap.objs.size],_,_,H1,rfl,I2,w9 ad s1.heap.objs.size (s1.heap.objs.size+1) (Nat.succ_ne_self _),⟨⟨.none,he⟩,hit⟩,fun b hb=>?_,q _ H1 μ1 x1 m1 (wL rv)⟩
    have hb:s1.heap.objs.size<=b:=by
     rcases Np.mp hb with z|z
     ·subst z;exact Oz _
     ·have e:b=s1.heap.objs.size:=by simpa using z
      subst e;exact MN _
    exact I1.fpOk hb (I1.hok.fresh hb)
 cases x with
 |lst ds=>exact key (fun _ _ _ _ _=>⟨ds,rfl⟩) q
 |frz ds=>exact key (fun _ _ _ _ _=>⟨ds,rfl⟩) q
 |cell k=>exact key (fun μ' H' m' v ⟨ad,_,hk⟩=>let ⟨ds,_,e,_⟩:=m'.mu_lt hk;⟨ds,e⟩) q
 |_=>exact q.elim
end
end LD
namespace LD
open PySem PySem.Spec PyProof.Rows L2
noncomputable def bF:Bool->Heap->Addr->Array MG->Prop
 |true,h,a,its=>h.IsList a its
 |false,h,a,its=>h.IsTuple a its
noncomputable def jx:Bool->Heap->Addr->Addr->Nat->Prop
 |true,h,it,a,i=>h.IsListIter it a i
 |false,h,it,a,i=>h.IsTupleIter it a i
theorem bF.at {b:Bool}{h h':Heap}{a:Addr}{its:Array MG}(x:bF b h a its)(k:∀o,h.get? a=some o->h'.get? a=some o):bF b h' a its:=by
 cases b<;>(obtain ⟨o,ho,r⟩:=x;exact ⟨o,k o ho,r⟩)
theorem jx.at {b:Bool}{h h':Heap}{it a:Addr}{i:Nat}(x:jx b h it a i)(k:∀o,h.get? it=some o->h'.get? it=some o):jx b h' it a i:=by
 cases b<;>(obtain ⟨o,ho,r⟩:=x;exact ⟨o,k o ho,r⟩)
theorem jx.obj {b:Bool}{h:Heap}{it a:Addr}{i:Nat}(x:jx b h it a i):∃o,h.get? it=some o/\∀v,o.data≠.cell v:=by
 cases b<;>(obtain ⟨o,ho,c,d⟩:=x;exact ⟨o,ho,fun v z=>by rw [d] at z;cases z⟩)
section
variable {prog:Na}{w:Nd}{A:NL}{E:MG->MI->Prop}{s:MI}
theorem tO {a b:Nat}(h:a≠b):@Ne Addr a b:=h
theorem Fx {T:Addr}{its:Array MG}{k:Nat}{x:MG}{Q:Unit->MI->Prop}(hT:s.heap.get? T=some {cls:=.type "tuple",data:=.seq its})(hz:its.size<=64)
 (h:∀h',h'.get? T=some {cls:=.type "tuple",data:=.seq (its.setIfInBounds k x)}->Heap.SameBut T s.heap h'->Q () {s with heap:=h'}) :
 wpAny (model prog w) A (updateSeq T (·.setIfInBounds k x)) Q E s:=by
 refine wpAny_updateSeq hT rfl (h _ ?_ (Heap.SameBut.update ..)) (MR hz (by decide)) (by rw [Array.size_setIfInBounds];exact MR hz (by decide))
 rw [N9 _ hT rfl]
 simp [Obj.mapSeq]
theorem vD {b:Bool}{it a:Addr}{i:Nat}{its:Array MG}{Q:MG->MI->Prop}(hh:A.handled=none)(hit:jx b s.heap it a i)(hl:bF b s.heap a its)
 (hQ:∀x h',its[i]?=some x->jx b h' it a (i+1)->Heap.SameBut it s.heap h'->Q x {s with heap:=h'})
 (hE:its[i]?=none->∀h' e,Heap.ExtBut it s.heap h'->(∃o,h'.get? e=some o/\o.cls=.type "StopIteration")->E (.ref e) {s with heap:=h'}):wpAny (model prog w) A (Builtin.SmallTypes.nextOf (.ref it)) Q E s:=by
 cases b with
 | true => cases hx : its[i]? with
   |some x=>exact wpAny_nextOf_list_item hit hl hx fun h'=>hQ x h' hx
   |none=>exact wpAny_nextOf_list_end hh hit hl hx (hE hx)
 | false =>
   have hit:s.heap.IsTupleIter it a i:=hit
   obtain ⟨o,ho,hc,hd⟩:=id hit
   obtain ⟨ol,hol,_,nl,hdl⟩:=hl
   unfold Builtin.SmallTypes.nextOf
   refine tqa (wpAny_callSpecial?_slot (name:=Str.ofString "__next__") hit.typeIs F.slot_tuple_iterator_next
    (wpAny_call_entry F.slot_tuple_iterator_next hit.typeIs F.entry_tuple_iterator_next ?_ (F.args_tuple_iterator_next_1 _)))
   show wpAny _ _ (field (.ref it) 0 >>= _) _ _ s
   refine tqa (tqf ho hd (x:=.ref a) rfl ?_)
   show wpAny _ _ (if (Value.ref a==Value.none)=true then _ else _) _ _ s
   rw [if_neg (show ¬ ((Value.ref a==Value.none)=true) from Ng)]
   show wpAny _ _ (field (.ref it) 1 >>= _) _ _ s
   refine tqa (tqf ho hd (x:=.int i 0) rfl ?_)
   show wpAny _ _ (seqItems? (.ref a) >>= _) _ _ s
   refine tqa (wpAny_seqItems hol hdl ?_)
   cases hx:its[i]? with
   | some x =>
     simp only [N6,hx]
     refine tqa (wpAny_setField ho hd (by simp) (tqb ⟨x,rfl,tqb (hQ x _ hx ?_ (Heap.SameBut.update ..))⟩))
     exact ⟨_,N9 _ ho (OJ (N3 hd _)),(Obj.cls_mapFields ..).trans hc,by
      rw [N3 hd];simp [rawInt]⟩
   | none =>
     simp only [N6,hx]
     refine tqa (wpAny_rule (tqa (wpAny_setField ho hd (by simp) ?_)))
     show wpAny _ _ (newExc (.type "StopIteration") [] >>= _) _ _ _
     refine tqa ?_
     simp only [newExc,newTuple]
     refine tqa (wpAny_newObj_type ?_ (by size_fits))
     refine tqa (m:=firstArgMember _ _) (wpAny_of_eq (a:=Value.none) (by first|rfl|(simp only [firstArgMember];rfl)) ?_)
     refine wpAny_newObj_type ?_ (by size_fits)
     simp only [raiseNew]
     refine tqa (wpAny_handled ?_)
     first|rw [show A.in1.handled=none from hh]|rw [hh]
     refine tqa (tqb (wpAny_throw ?_))
     exact hE hx _ _ (((Heap.SameBut.update ..).extBut.push _).push _) ⟨_,M8 _ rfl,rfl⟩
abbrev jc (us:Array MG):Obj:={cls:=.type "tuple",data:=.seq us}
noncomputable def oR (n k j:Nat):List MG:=(List.range' k j).map fun k=>Value.ref (n+k)
noncomputable def wx (n m:Nat)(h h':Heap):Prop:=∀(c:Nat) o,(c<n\/c=n+m\/n+m+2<c)->h.get? c=some o->h'.get? c=some o
noncomputable def wB (n i k:Nat)(l:List (Bool×Nat))(h:Heap):Prop:=∀(j:Nat) b a,l[j]?=some (b,a)->jx b h (n+j) a (if j<k then i+1 else i)
noncomputable def IE (n:Nat)(l:List (Bool×Nat))(xs:Nat->Array MG)(h:Heap):Prop:=∀(j:Nat) b a,l[j]?=some (b,a)->a<n/\bF b h a (xs j)
abbrev mD (h:Heap)(n m:Nat)(v:MG):Prop:=IsZip h (n+m+2) (n+m) (n+m+1) v
noncomputable def Me (n m i k:Nat)(l:List (Bool×Nat))(xs:Nat->Array MG)(h0 h:Heap):Prop:=mD h n m .ellipsis/\(∃us:Array MG,us.size=m/\(∀j<k,us[j]?=(xs j)[i]?)/\h.get? (n+m+1)=some (jc us))/\wB n i k l h/\IE n l xs h/\wx n m h0 h/\h.objs.size=h0.objs.size
theorem Ci {M:Model}{β:Type}{f:MG×Nat->β->Sem (ForInStep β)}{b:β}{Q:β->MI->Prop}(n m:Nat)(I:Nat->MI->Prop)
 (hs:∀k s,k<m->I k s->wpAny M A (f (.ref (n+k),k) b) (fun r s'=>r=.yield b/\I (k+1) s') E s) (hQ:∀s,I m s->Q b s):∀(j k:Nat) (s:MI),k+j=m->I k s->wpAny M A (forIn ((oR n k j).zipIdx k) b f) Q E s
 |0,k,s,e,h=>tqb (hQ s (e ▸ h))
 | j + 1, k, s, e, h => by
   show wpAny M A (forIn ((Value.ref (n+k),k)::(oR n (k+1) j).zipIdx (k+1)) b f) Q E s
   rw [List.forIn_cons]
   refine tqa (aN (hs k s (by omega) h) ?_)
   rintro _ s' ⟨rfl,h'⟩
   exact Ci n m I hs hQ j (k+1) s' (by omega) h'
theorem rg {n m i:Nat}{l:List (Bool×Nat)}{xs:Nat->Array MG}{us:Array MG}{Q:MG->MI->Prop}(hh:A.handled=none)(hl:l.length=m+1)(h64:m<64)
 (hz:mD s.heap n (m+1) .none) (hTI:s.heap.get? (n+(m+1))=some (jc (oR n 0 (m+1)).toArray)) (hTO:s.heap.get? (n+(m+1)+1)=some (jc us)) (hu:us.size=m+1) (hi:wB n i 0 l s.heap) (hq:IE n l xs s.heap)
 (hQ:∀h' us,us.size=m+1->(∀k<m+1,us[k]?=(xs k)[i]?)->mD h' n (m+1) (rawInt s.heap.objs.size)->h'.get? (n+(m+1)+1)=some (jc us)->wB n (i+1) 0 l h'->h'.get? s.heap.objs.size=some (jc us)->wx n (m+1) s.heap h'->Q (.ref s.heap.objs.size) {s with heap:=h'})
 (hE:∀h' e k,k<m+1->(xs k)[i]?=none->wx n (m+1) s.heap h'->(∃o,h'.get? e=some o/\o.cls=.type "StopIteration")->E (.ref e) {s with heap:=h'}) :
 wpAny (model prog w) A (Builtin.«zip.__next__» ⟨[.ref (n+(m+1)+2)],[]⟩) (fun fin s'=>∃v,fin=.done (.ret v)/\Q v s') E s:=by
 show wpAny _ _ (field (.ref (n+(m+1)+2)) 2 >>= _) _ _ _
 refine tqa (tqf hz rfl (x:=.bool false) rfl ?_)
 show wpAny _ _ (field (.ref (n+(m+1)+2)) 3 >>= _) _ _ _
 refine tqa (tqf hz rfl (x:=.ref (n+(m+1))) rfl ?_)
 refine tqa (wpAny_seqItems hTI rfl ?_)
 show wpAny _ _ (Builtin.SmallTypes.ownedTupleIsFree (.ref (n+(m+1)+2)) >>= _) _ _ _
 refine tqa ?_
 unfold Builtin.SmallTypes.ownedTupleIsFree
 refine tqa (tqf hz rfl (x:=.none) rfl (tqb ?_))
 simp only [if_true]
 refine tqa (wpAny_rule ?_)
 refine tqa (tqf hz rfl (x:=.ref (n+(m+1)+1)) rfl ?_)
 refine tqa (wpAny_setField_rec hz (by simp) fun h0 hz0 hs0=>?_)
 have u0:∀(c:Nat) o,c≠n+(m+1)+2->s.heap.get? c=some o->h0.get? c=some o:=fun c o ne=>hs0.extBut c o ne
 have mm:∀{j b a},l[j]?=some (b,a)->j<m+1:=fun e=>hl ▸ (MH.mp e).1
 refine tqa (Ci n (m+1) (fun k s'=>∃h,s'={s with heap:=h}/\Me n (m+1) i k l xs s.heap h) ?_ ?_ (m+1) 0 _ (Nat.zero_add _) ⟨h0,rfl,hz0,⟨us,hu,fun _ z=>absurd z (Nat.not_lt_zero _),u0 _ _ (by omega) hTO⟩,fun j b a e=>(hi j b a e).at fun o=>u0 _ o (by have:=mm e;omega),fun j b a e=>⟨(hq j b a e).1,(hq j b a e).2.at fun o=>u0 _ o (by have:=(hq j b a e).1;omega)⟩,fun c o hc=>u0 c o (by omega),hs0.1⟩)
 ·rintro k _ hk ⟨h,rfl,hz,⟨us,hu,hx,hT⟩,hi,hq,kp,sz⟩
  obtain ⟨⟨b,a⟩,e⟩:∃p,l[k]?=some p:=⟨_,Nc (by omega)⟩
  have it:=hi k b a e
  rw [if_neg (NX k)] at it
  refine tqa (wpAny_onRaise ?_)
  show wpAny _ _ (Builtin.SmallTypes.nextOf (.ref (n+k)) >>= _) _ _ _
  refine tqa (vD hh it (hq k b a e).2 (fun x h1 ex j1 hs1=>tqb ?_) fun en h1 e1 hs1 ⟨oe,hoe,hce⟩=>?_)
  ·have hT1:=hs1.extBut _ _ (tO (by omega)) hT
   refine tqa (wpAny_seqItems hT1 rfl ?_)
   refine tqa (Fx hT1 (by omega) fun h2 hT2 hs2=>?_)
   have up:∀(c:Nat) o,c≠n+k->c≠n+(m+1)+1->h.get? c=some o->h2.get? c=some o:=fun c o x y z=>hs2.extBut c o y (hs1.extBut c o x z)
   refine tqa (wpAny_letGo (tqb ⟨rfl,h2,rfl,up _ _ (by omega) (by omega) hz,⟨_,(Array.size_setIfInBounds ..).trans hu,fun j hj=>?_,hT2⟩,fun j b' a' e'=>?_,fun j b a e=>⟨(hq j b a e).1,(hq j b a e).2.at fun o=>up _ o (by have:=(hq j b a e).1;omega) (by have:=(hq j b a e).1;omega)⟩,fun c o hc x=>up c o (by omega) (by omega) (kp c o hc x),by rw [hs2.1,hs1.1,sz]⟩))
   ·by_cases jk:j=k
    ·subst jk
     rw [Array.getElem?_setIfInBounds_self_of_lt (by omega),ex]
    ·rw [Array.getElem?_setIfInBounds_ne (NV jk),hx j (by omega)]
   ·by_cases jk:j=k
    ·subst jk
     cases e.symm.trans e'
     rw [if_pos (Nat.lt_succ_self _)]
     exact j1.at fun o=>hs2.extBut _ o (tO (by omega))
    ·have q:=hi j b' a' e'
     have:=mm e'
     rw [show (if j<k+1 then i+1 else i)=if j<k then i+1 else i by split<;>split<;>omega]
     exact q.at fun o=>up _ o (by omega) (by omega)
  ·have hz1:=hs1 _ _ (tO (by omega)) hz
   have hez:e1≠n+(m+1)+2:=fun x=>by subst x;rw [hz1] at hoe;cases hoe;simp at hce
   exact wpAny_setField_rec hz1 (by simp) fun h2 _ hs2=>hE h2 e1 k hk en (fun c o hc x=>hs2.extBut _ _ (tO (by omega)) (hs1 _ _ (tO (by omega)) (kp c o hc x))) ⟨oe,hs2.extBut _ _ hez hoe,hce⟩
 ·rintro _ ⟨h4,rfl,hz4,⟨us,hu,hx,hT⟩,hi,hq,kp,sz4⟩
  refine tqa (wpAny_seqItems hT rfl ?_)
  refine tqa (wpAny_newTuple (hsz:=MR (show us.toList.length<=64 by rw [Ot];omega) (by decide)) ?_)
  have hzlt:n+(m+1)+2<h4.objs.size:=MS hz4
  show wpAny _ _ (Builtin.SmallTypes.ownedTupleHandOut (.ref (n+(m+1)+2)) (.ref h4.objs.size) >>= _) _ _ _
  refine tqa ?_
  unfold Builtin.SmallTypes.ownedTupleHandOut
  have hz6:mD (h4.push (jc us)) n (m+1) .ellipsis:=MJ _ hz4
  refine tqa (wpAny_setField_rec hz6 (by simp) fun h7 hz7 hs7=>?_)
  replace hz7:mD h7 n (m+1) (rawInt h4.objs.size):=hz7
  refine wpAny_setField_rec hz7 (by simp) fun h8 hz8 hs8=>?_
  have up:∀(c:Nat) o,c≠n+(m+1)+2->(h4.push (jc us)).get? c=some o->h8.get? c=some o:=fun c o c1 e=>hs8.extBut _ _ c1 (hs7.extBut _ _ c1 e)
  refine tqb ⟨_,rfl,?_⟩
  show Q (.ref h4.objs.size) _
  have hT8:=up h4.objs.size _ (NR hzlt) (M8 _ rfl)
  rw [sz4] at hT8 hz8 ⊢
  refine hQ h8 us hu hx hz8 (up _ _ (by omega) (MJ _ hT)) (fun j b a e=>?_) hT8 fun c o hc e=>up c o (by omega) (MJ _ (kp c o hc e))
  have q:=hi j b a e
  rw [if_pos (mm e)] at q
  exact q.at fun o e'=>up _ o (by have:=mm e;omega) (MJ _ e')
end
end LD
namespace LD
open PySem PySem.Spec PyProof.Rows L2
noncomputable def jK (K:MF)(H:Hp):Bool->Addr->List V->Prop
 |true,a,xs=>bV K H a xs
 |false,a,xs=>di K H a xs
noncomputable def dO:D->Bool
 |.tup _=>false
 |_=>true
noncomputable def cX:D->Bool
 |.tup _=>true
 |.lst _=>true
 |.frz _=>true
 |.cell _=>true
 |_=>false
theorem uu {X:Cx}{pins:List (Addr×Obj)}{σ:L2.St}{H:Hp}{s:MI}{b:Bool}{a:Addr}{xs:List V}(I:Inv X pins σ H s)(h:jK X.K H b a xs):∃its:List MG,Vals xs its/\bF b s.heap a its.toArray:=by
 cases b with
 |true=>obtain ⟨its,r,p,_⟩:=I.list h;exact ⟨its,r,p.isList⟩
 |false=>obtain ⟨its,r,p,_⟩:=I.tuple h;exact ⟨its,r,p⟩
theorem mX {X:Cx}{pins:List (Addr×Obj)}{σ:L2.St}{H:Hp}{s:MI}{b:Bool}{a:Addr}{xs ys:List V}(I:Inv X pins σ H s)(h:jK X.K H b a xs)(h':jK X.K H b a ys):xs=ys:=by
 cases b with
 |true=>exact I.list_inj h h'
 |false=>exact I.tuple_inj h h'
theorem gU {fa:Fa}{X:Cx}{μ:Mu}{H:Hp}{M:Mem}{d:D}{a:Addr}{ds:List D}(hM:RelM fa X.K μ H M)(h:Rep fa X.K μ H d (.ref a))(e:bG M d=some ds):∃vs,jK X.K H (dO d) a vs/\aF fa X.K μ H ds vs:=by
 cases d with
 |tup xs=>cases e;obtain ⟨a',vs,e,s,r⟩:=h;cases e;exact ⟨vs,s,r⟩
 |lst xs=>obtain ⟨a',vs,e',s,r⟩:=bB hM h (show eF M (.lst xs)=some ds from e);cases e';exact ⟨vs,s,r⟩
 |frz xs=>obtain ⟨a',vs,e',s,r⟩:=bB hM h (show eF M (.frz xs)=some ds from e);cases e';exact ⟨vs,s,r⟩
 |cell k=>obtain ⟨a',vs,e',s,r⟩:=bB hM h (show eF M (.cell k)=some ds from e);cases e';exact ⟨vs,s,r⟩
 |_=>cases e
theorem jf {fa:Fa}{X:Cx}{pins:List (Addr×Obj)}{σ:L2.St}{μ:Mu}{H:Hp}{s:MI}{M:Mem}{d:D}{v:V}(I:Inv X pins σ H s)(hM:RelM fa X.K μ H M)(h:Rep fa X.K μ H d v)(e:cX d=true):∃(a:Nat) (its:Array MG),v=.ref a/\bF (dO d) s.heap a its:=by
 have key:∀ds,bG M d=some ds->∃(a:Nat) (its:Array MG),v=.ref a/\bF (dO d) s.heap a its:=fun ds z=>by
  obtain ⟨a,vs,rfl,_,_⟩:=jg hM h z
  obtain ⟨vs,s1,_⟩:=gU hM h z
  obtain ⟨its,_,p⟩:=uu I s1
  exact ⟨a,its.toArray,rfl,p⟩
 cases d with
 |tup xs=>exact key xs rfl
 |lst xs=>exact key xs rfl
 |frz xs=>exact key xs rfl
 | cell k =>
   obtain ⟨a,e,hk⟩:=id h
   obtain ⟨ds,_,z,_⟩:=hM.mu_lt hk
   exact key ds z
 |_=>cases e
theorem bF.lt {b:Bool}{h:Heap}{a:Addr}{its:Array MG}(x:bF b h a its):a<h.objs.size:=by
 cases b<;>(obtain ⟨o,ho,r⟩:=x;exact MS ho)
theorem bF.push {b:Bool}{h:Heap}{a:Addr}{its:Array MG}(x:bF b h a its)(ob:Obj):bF b (h.push ob) a its:=by
 cases b<;>(obtain ⟨o,ho,r⟩:=x;exact ⟨o,MJ _ ho,r⟩)
noncomputable def gz (b:Bool)(a:Addr):Obj:={cls:=.type (if b then "list_iterator" else "tuple_iterator"),data:=.fields #[.ref a,.int 0 0]}
theorem jx.new {b:Bool}{h:Heap}{it a:Addr}(e:h.get? it=some (gz b a)):jx b h it a 0:=by
 cases b<;>exact ⟨_,e,rfl,rfl⟩
theorem gq {prog:Na}{w:Nd}{A:NL}{E:MG->MI->Prop}{s:MI}{b:Bool}{a:Addr}{its:Array MG}{Q:MG->MI->Prop}(h:bF b s.heap a its)(hQ:Q (.ref s.heap.objs.size) {s with heap:=s.heap.push (gz b a)}):wpAny (model prog w) A (pyIter (.ref a)) Q E s:=by
 cases b with
 |true=>exact wpAny_pyIter_list h hQ
 |false=>exact wpAny_pyIter_tuple h hQ
abbrev jw:=List (Bool×Nat)
noncomputable def C0 (K:MF)(l:jw):It:=
 ⟨fun i H => ∀ (j : Nat) b a, l[j]? = some (b, a) -> ∃ xs x, jK K H b a xs /\ xs[i]? = some x,
  fun i H v H'=>∃p ys,H p=none/\v=.ref p/\H'=upd H p (.tup ys)/\ys.length=l.length/\∀(j:Nat) b a,l[j]?=some (b,a)->∀xs,jK K H b a xs->ys[j]?=xs[i]?,
  fun i H=>(∀(j:Nat) b a,l[j]?=some (b,a)->∃xs,jK K H b a xs)/\∃(j:Nat) (b:Bool) (a:Nat) (xs:List V),l[j]?=some (b,a)/\jK K H b a xs/\xs.length<=i⟩
noncomputable def q9 (n m:Nat)(l:jw)(i:Nat)(h:Heap):Prop:=mD h n (m+1) .none/\h.get? (n+(m+1))=some (jc (oR n 0 (m+1)).toArray)/\(∃us:Array MG,us.size=m+1/\h.get? (n+(m+1)+1)=some (jc us))/\wB n i 0 l h
noncomputable def BE (n m:Nat):List Addr:=List.range' n (m+4)
theorem dm {n m b:Nat}:b∈BE n m↔n<=b/\b<n+(m+4):=List.mem_range'_1
theorem B2 {X:Cx}{pins:List (Addr×Obj)}{σ:L2.St}{H:Hp}{s:MI}{l:jw}(I:Inv X pins σ H s)(h:∀(j:Nat) b a,l[j]?=some (b,a)->∃xs,jK X.K H b a xs) :
 ∃(vs:Nat->List V) (ws:Nat->List MG),∀(j:Nat) b a,l[j]?=some (b,a)->jK X.K H b a (vs j)/\Vals (vs j) (ws j)/\bF b s.heap a (ws j).toArray:=by
 obtain ⟨f,hf⟩:=Classical.skolem.mp fun j:Nat=>show ∃p:List V×List MG,∀b a,l[j]?=some (b,a)->jK X.K H b a p.1/\Vals p.1 p.2/\bF b s.heap a p.2.toArray from by
  cases e:l[j]? with
  |none=>exact ⟨([],[]),fun _ _ z=>by cases z⟩
  | some p =>
    obtain ⟨xs,hx⟩:=h j p.1 p.2 e
    obtain ⟨its,r,q⟩:=uu I hx
    exact ⟨(xs,its),fun b' a' z=>by cases z;exact ⟨hx,r,q⟩⟩
 exact ⟨fun j=>(f j).1,fun j=>(f j).2,hf⟩
theorem BP:∀{us:List MG}{R:Nat->V->Prop},(∀(k:Nat) w,us[k]?=some w->∃y,RelV y w/\R k y)->∃ys,Vals ys us/\∀(k:Nat) y,ys[k]?=some y->R k y
 |[],R,_=>⟨[],.nil,fun _ _ z=>by simp at z⟩
 | w :: r, R, h => by
   obtain ⟨y,e,q⟩:=h 0 w rfl
   obtain ⟨ys,v,t⟩:=BP (R:=fun k=>R (k+1)) fun k w e=>h (k+1) w e
   exact ⟨y::ys,.cons e v,fun k z e=>match k,e with
    |0,e=>by cases e;exact q
    |k+1,e=>t k z e⟩
theorem rq {P:Na}{w:Nd}{K:MF}{elts:List Expr}{kk:Nat}{pos:Pos}(n m:Nat)(l:jw)(hl:l.length=m+1)(h64:m<64)(hn:∀(j:Nat) b a,l[j]?=some (b,a)->a<n) :
 Turn P w K (.Tuple elts kk pos) (C0 K l) (BE n m) (n+(m+1)+2) (fun i h=>q9 n m l i h) where
 mem:=dm.mpr (by omega)
 obj:=fun i h ⟨h1,h2,⟨us,_,h3⟩,hi⟩ (b:Nat) hb=>by
  replace hb:=dm.mp hb
  by_cases c:b<n+(m+1)
  ·obtain ⟨j,rfl⟩:∃j,b=n+j:=⟨b-n,by omega⟩
   exact (hi j _ _ (Nc (by omega))).obj
  ·rcases (show b=n+(m+1)\/b=n+(m+1)+1\/b=n+(m+1)+2 by omega) with rfl|rfl|rfl
   ·exact ⟨_,h2,fun v z=>by cases z⟩
   ·exact ⟨_,h3,fun v z=>by cases z⟩
   ·exact ⟨_,h1,fun v z=>by cases z⟩
 keep:=fun i h h' ⟨h1,h2,⟨us,hu,h3⟩,hi⟩ k=>⟨k _ (dm.mpr (by omega)) _ h1,k _ (dm.mpr (by omega)) _ h2,⟨us,hu,k _ (dm.mpr (by omega)) _ h3⟩,fun j b a e=>(hi j b a e).at (k _ (dm.mpr (by have:=(MH.mp e).1;omega)))⟩
 item:=by
  intro X hP hw hK hc i pins s σ H E I hf ⟨h1,h2,⟨us,hu,h3⟩,hi⟩ hg
  subst hP hw hK
  obtain ⟨vs,ws,hv⟩:=B2 I fun j b a e=>(hg j b a e).imp fun _ ⟨_,h,_⟩=>h
  have it:∀k,k<m+1->∃x w b a,l[k]?=some (b,a)/\(vs k)[i]?=some x/\(ws k)[i]?=some w/\RelV x w:=fun k hk=>by
   have e:l[k]?=some (l[k]'(by omega)):=Nc _
   obtain ⟨xs,x,hx,ex⟩:=hg k _ _ e
   obtain ⟨q1,q2,_⟩:=hv k _ _ e
   rw [mX I hx q1] at ex
   obtain ⟨w,hw,r⟩:=q2.get ex
   exact ⟨x,w,_,_,e,ex,hw,r⟩
  have hT:s.TypeIs (.ref (n+(m+1)+2)) "zip":=⟨_,h1,rfl⟩
  unfold pyNext
  refine tqa (wpAny_attempt (wpAny_callSpecial?_slot (name:=Str.ofString "__next__") hT F.slot_zip_next
   (wpAny_call_entry F.slot_zip_next hT F.entry_zip_next
    (rg (E:=_) (xs:=fun j=>(ws j).toArray) (I.ok.hd hc) hl h64 h1 h2 h3 hu hi (fun j b a e=>⟨hn j b a e,(hv j b a e).2.2⟩) (fun h4 us hu hx z1 z2 g hTT hk=>tqb ⟨_,rfl,?_⟩) fun h' e k hk en _ _=>?_) (F.args_zip_next_1 _))))
  ·have zlt:n+(m+1)+2<s.heap.objs.size:=MS h1
   refine wpAny_letOwnedTupleGo_zip (s:={s with heap:=h4}) z1 fun h5 hz5 hs5=>?_
   have up:∀(c:Nat) o,c≠n+(m+1)+2->h4.get? c=some o->h5.get? c=some o:=fun c o=>hs5.extBut c o
   obtain ⟨ys,vy,ty⟩:=BP (us:=us.toList) (R:=fun j y=>(vs j)[i]?=some y) fun k w e=>by
    have hk:k<m+1:=by have:=(MH.mp e).1;rw [Ot] at this;omega
    obtain ⟨x,w',_,_,_,ex,ew,r⟩:=it k hk
    have q:=hx k hk
    rw [Array.getElem?_toList] at e
    simp only [List.getElem?_toArray] at q
    rw [e,ew] at q
    cases q
    exact ⟨x,r,ex⟩
   have ly:ys.length=m+1:=by rw [vy.length,Ot,hu]
   refine ⟨.ref s.heap.objs.size,upd H s.heap.objs.size (.tup ys),pN (s:=s) (t':=s.toks) I hf (fun (b:Nat) o hb q=>up b o (fun z=>hb (dm.mpr (by omega))) (hk b o (by rw [dm] at hb;omega) q)) (MN _) ⟨by rw [ly];exact MR (show m+1<=64 by omega) (by decide),us.toList,vy,⟨_,up _ _ (NR zlt) hTT,rfl,_,rfl⟩⟩,rfl,
    ⟨_,ys,I.hok.fresh (MN _),rfl,rfl,ly.trans hl.symm,fun j b a e xs hx=>?_⟩,⟨hz5,up _ _ (by omega) (hk _ _ (by omega) h2),⟨us,hu,up _ _ (by omega) z2⟩,fun j b a e=>(g j b a e).at fun o=>up _ o (by have:=(MH.mp e).1;omega)⟩,fun (b:Nat) hb=>?_⟩
   ·have hj:j<ys.length:=by have:=(MH.mp e).1;omega
    have e1:=Nc hj
    rw [mX I hx (hv j b a e).1,ty j _ e1,e1]
   ·rw [dm] at hb
    rw [ax (Nz (by omega:(b:Nat)<s.heap.objs.size))];exact (hf b (dm.mpr hb)).1
  ·obtain ⟨_,_,_,_,_,_,ew,_⟩:=it k hk
   simp only [List.getElem?_toArray] at en
   rw [ew] at en
   cases en
 done:=by
  intro X hP hw hK hc i pins s σ H E I hf ⟨h1,h2,⟨us,hu,h3⟩,hi⟩ ⟨hs,k,b,a,xs,ek,hq,le⟩
  subst hP hw hK
  obtain ⟨vs,ws,hv⟩:=B2 I hs
  have hT:s.TypeIs (.ref (n+(m+1)+2)) "zip":=⟨_,h1,rfl⟩
  unfold pyNext
  refine tqa (wpAny_attempt (wpAny_callSpecial?_slot (name:=Str.ofString "__next__") hT F.slot_zip_next
   (wpAny_call_entry F.slot_zip_next hT F.entry_zip_next
    (rg (E:=_) (xs:=fun j=>(ws j).toArray) (I.ok.hd hc) hl h64 h1 h2 h3 hu hi (fun j b a e=>⟨hn j b a e,(hv j b a e).2.2⟩) (fun h4 us hu hx _ _ _ _ _=>?_) fun h' e k _ _ hk he=>?_) (F.args_zip_next_1 _))))
  ·exfalso
   have hk:=(MH.mp ek).1
   have q:=hx k (by omega)
   obtain ⟨q1,q2,_⟩:=hv k b a ek
   rw [Array.getElem?_eq_getElem (by omega)] at q
   simp only [List.getElem?_toArray] at q
   rw [Oj (by rw [<- q2.length,mX I q1 hq];exact le)] at q
   cases q
  ·obtain ⟨o,ho,hcl⟩:=he
   refine tqa (wpAny_isInstance (T:="StopIteration") (b:=true) ⟨o,ho,hcl⟩ isSubtype_stop ?_)
   exact tqb ⟨rfl,t9 (s:=s) I hf (t':=s.toks) fun (b:Nat) o hb q=>hk b o (by rw [dm] at hb;omega) q⟩
 self:=fun _ _ _ _ _ st h=>wpAny_pyIter_zip st.1 h
noncomputable def hX (h:Heap):jw->Heap
 |[]=>h
 |p::r=>hX (h.push (gz p.1 p.2)) r
noncomputable def qO (h:Heap):jw->List MG
 |[]=>[]
 |p::r=>.ref h.objs.size::qO (h.push (gz p.1 p.2)) r
theorem nS:∀{h:Heap}{l:jw},(hX h l).objs.size=h.objs.size+l.length
 |_,[]=>rfl
 |h,p::r=>by show (hX _ r).objs.size=_;rw [nS,OO,ND];omega
theorem lq:∀{l:jw}{h:Heap}{c:Nat}{o:Obj},h.get? c=some o->(hX h l).get? c=some o
 |[],_,_,_,e=>e
 |_::r,_,_,_,e=>lq (l:=r) (MJ _ e)
theorem qc:∀{l:jw}{h:Heap}{j:Nat}{p:Bool×Nat},l[j]?=some p->(hX h l).get? (h.objs.size+j)=some (gz p.1 p.2)
 |_::r,h,0,_,e=>by cases e;exact lq (l:=r) (M8 _ rfl)
 | q :: r, h, j + 1, _, e => by
   have:=qc (l:=r) (h:=h.push (gz q.1 q.2)) (j:=j) e
   rw [OO,Nat.add_assoc,Nat.add_comm 1] at this
   exact this
theorem rZ:∀{l:jw}{h:Heap}{n k:Nat},h.objs.size=n+k->qO h l=oR n k l.length
 |[],_,_,_,_=>rfl
 | p :: r, h, n, k, e => by
   have:=rZ (l:=r) (h:=h.push (gz p.1 p.2)) (n:=n) (k:=k+1) (by rw [OO,e];rfl)
   show Value.ref h.objs.size::qO _ r=Value.ref (n+k)::oR n (k+1) r.length
   rw [this,e]
abbrev BD (h:Heap)(l:jw):Heap:=(hX h l).push (jc (qO h l).toArray)
abbrev tZ (h:Heap)(l:jw):Heap:=(BD h l).push (jc (l.map fun _=>Value.none).toArray)
abbrev pJ (h:Heap)(l:jw):Heap:=(tZ h l).push {cls:=.type "zip",data:=.fields #[.none,.bool false,.bool false,.ref (hX h l).objs.size,.ref (BD h l).objs.size]}
theorem tY (h:Heap){l:jw}{m:Nat}(hl:l.length=m+1):(tZ h l).objs.size=h.objs.size+(m+1)+2/\q9 h.objs.size m l 0 (pJ h l)/\∀c o,h.get? c=some o->(pJ h l).get? c=some o:=by
 have s0:(hX h l).objs.size=h.objs.size+(m+1):=by rw [nS,hl]
 have s1:(BD h l).objs.size=h.objs.size+(m+1)+1:=by rw [OO,s0]
 have s2:(tZ h l).objs.size=h.objs.size+(m+1)+2:=by rw [OO,s1]
 have up:∀{c:Nat}{o},(hX h l).get? c=some o->(pJ h l).get? c=some o:=fun e=>MJ _ (MJ _ (MJ _ e))
 have g1:(pJ h l).get? (hX h l).objs.size=some _:=MJ _ (MJ _ (M8 _ rfl))
 have g2:(pJ h l).get? (BD h l).objs.size=some _:=MJ _ (M8 _ rfl)
 have g3:(pJ h l).get? (tZ h l).objs.size=some _:=M8 _ rfl
 rw [s0,rZ (Nat.add_zero _).symm,hl] at g1
 rw [s1] at g2
 rw [s2,s1,s0] at g3
 exact ⟨s2,⟨g3,g1,⟨_,by simp [hl],g2⟩,fun j b a e=>jx.new (up (qc e))⟩,fun c o e=>up (lq e)⟩
theorem vK (b0:Bool)(a0:Nat)(b1:Bool)(a1:Nat)(xs0 xs1:Array MG) :
 Meets (Builtin.«zip.__new__» ⟨[.type "zip",.ref a0,.ref a1],[]⟩) (fun _ R s=>bF b0 s.heap a0 xs0/\bF b1 s.heap a1 xs1/\
  R (.ok (.ret (.ref (tZ s.heap [(b0,a0),(b1,a1)]).objs.size))) {s with heap:=pJ s.heap [(b0,a0),(b1,a1)]}):=
 .of_wp fun prog w A R s h=>by
  obtain ⟨hp,g,d,tk,os⟩:=s;obtain ⟨q0,q1,h⟩:=h
  have hsub:=sub_zip
  have L0:bF b0 (Shared.heap ⟨hp,g,d,tk,os⟩) a0 xs0:=q0
  have L1:bF b1 (Shared.heap ⟨hp.push (gz b0 a0),g,d,tk,os⟩) a1 xs1:=(q1).push _
  wp_walk using gq L0,gq L1
  exact ⟨_,rfl,h⟩
theorem vJ (b0:Bool)(a0:Nat)(b1:Bool)(a1:Nat)(b2:Bool)(a2:Nat)(xs0 xs1 xs2:Array MG) :
 Meets (Builtin.«zip.__new__» ⟨[.type "zip",.ref a0,.ref a1,.ref a2],[]⟩) (fun _ R s=>bF b0 s.heap a0 xs0/\bF b1 s.heap a1 xs1/\bF b2 s.heap a2 xs2/\
  R (.ok (.ret (.ref (tZ s.heap [(b0,a0),(b1,a1),(b2,a2)]).objs.size))) {s with heap:=pJ s.heap [(b0,a0),(b1,a1),(b2,a2)]}):=
 .of_wp fun prog w A R s h=>by
  obtain ⟨hp,g,d,tk,os⟩:=s;obtain ⟨q0,q1,q2,h⟩:=h
  have hsub:=sub_zip
  have L0:bF b0 (Shared.heap ⟨hp,g,d,tk,os⟩) a0 xs0:=q0
  have L1:bF b1 (Shared.heap ⟨hp.push (gz b0 a0),g,d,tk,os⟩) a1 xs1:=(q1).push _
  have L2:bF b2 (Shared.heap ⟨(hp.push (gz b0 a0)).push (gz b1 a1),g,d,tk,os⟩) a2 xs2:=((q2).push _).push _
  wp_walk using gq L0,gq L1,gq L2
  exact ⟨_,rfl,h⟩
theorem oM (a b c:MG):checkTypeCall "zip" ⟨[a,b,c],[]⟩=pure ():=by kernel_rfl
theorem qG (a b c:MG):checkBuiltinCall "zip.__new__" ⟨[.type "zip",a,b,c],[]⟩=pure ():=by kernel_rfl
theorem lT (a b c d:MG):argsOk "object.__init__" ⟨[a,b,c,d],[]⟩:=by
 unfold argsOk;rw [signature?_of (id:="object.__init__") (n:=['_','_','t','i','n','i','_','_']) (o:=['t','c','e','j','b','o']) (by kernel_rfl) F.owner_object];kernel_rfl
section
variable {prog:Na}{w:Nd}{A:NL}{E:MG->MI->Prop}{s:MI}{a0 a1 a2:Nat}{b0 b1 b2:Bool}{xs0 xs1 xs2:Array MG}{Q:MG->MI->Prop}
theorem yX (q0:bF b0 s.heap a0 xs0)(q1:bF b1 s.heap a1 xs1)(h:∀h',q9 s.heap.objs.size 1 [(b0,a0),(b1,a1)] 0 h'->(∀c o,s.heap.get? c=some o->h'.get? c=some o)->Q (.ref (s.heap.objs.size+2+2)) {s with heap:=h'}) :
 wpAny (model prog w) A (call (.type "zip") [.ref a0,.ref a1]) Q E s:=by
 obtain ⟨z,y,x⟩:=tY s.heap (l:=[(b0,a0),(b1,a1)]) (m:=1) rfl
 refine callType_new F.called_zip (by decide) (F.typeCall_zip_2 _ _) (F.newCall_zip_2 _ _) (fun obj=>F.args_object_init_3 obj _ _) F.entry_zip_new (vK b0 a0 b1 a1 xs0 xs1) ⟨q0,q1,?_⟩
 show _/\_
 rw [z]
 exact ⟨⟨_,y.1,rfl⟩,h _ y x⟩
theorem yW (q0:bF b0 s.heap a0 xs0)(q1:bF b1 s.heap a1 xs1)(q2:bF b2 s.heap a2 xs2)(h:∀h',q9 s.heap.objs.size 2 [(b0,a0),(b1,a1),(b2,a2)] 0 h'->(∀c o,s.heap.get? c=some o->h'.get? c=some o)->Q (.ref (s.heap.objs.size+3+2)) {s with heap:=h'}) :
 wpAny (model prog w) A (call (.type "zip") [.ref a0,.ref a1,.ref a2]) Q E s:=by
 obtain ⟨z,y,x⟩:=tY s.heap (l:=[(b0,a0),(b1,a1),(b2,a2)]) (m:=2) rfl
 refine callType_new F.called_zip (by decide) (oM _ _ _) (qG _ _ _) (fun obj=>lT obj _ _ _) F.entry_zip_new (vJ b0 a0 b1 a1 b2 a2 xs0 xs1 xs2) ⟨q0,q1,q2,?_⟩
 show _/\_
 rw [z]
 exact ⟨⟨_,y.1,rfl⟩,h _ y x⟩
end
noncomputable def km (d0 d1:D):Walk:=fun M=>(bG M d0).bind fun y0=>(bG M d1).map fun y1=>gP y0 y1
noncomputable def mn (g0 g1:Env->Mem->Res D):Env->Mem->Res Walk:=fun Z M=>(g0 Z M).bind fun d0 M=>(g1 Z M).bind fun d1 M=>if cX d0&&cX d1 then .ok (km d0 d1) M else .bad
theorem rk:∀(y0 y1:List D) (i:Nat) (d:D),(gP y0 y1)[i]?=some d↔∃e0 e1,y0[i]?=some e0/\y1[i]?=some e1/\d=.tup [e0,e1]
 |c0::t0,c1::t1,0,d=>by simp [gP,eq_comm]
 | c0 :: t0, c1 :: t1, i + 1, d => by
   have:=rk t0 t1 i d
   simpa [gP] using this
 |[],_,i,d=>by simp [gP]
 |_::_,[],i,d=>by simp [gP]
theorem rj:∀(y0 y1:List D) (i:Nat),(gP y0 y1).length<=i->y0.length<=i\/y1.length<=i
 |c0::t0,c1::t1,0,h=>by simp [gP] at h
 | c0 :: t0, c1 :: t1, i + 1, h => by
   have:=rj t0 t1 i (by simpa [gP] using h)
   simpa using this
 |[],_,i,h=>by simp
 |_::_,[],i,h=>by simp
noncomputable def nJ (d0 d1 d2:D):Walk:=fun M=>(bG M d0).bind fun y0=>(bG M d1).bind fun y1=>(bG M d2).map fun y2=>fc y0 y1 y2
noncomputable def ml (g0 g1 g2:Env->Mem->Res D):Env->Mem->Res Walk:=fun Z M=>(g0 Z M).bind fun d0 M=>(g1 Z M).bind fun d1 M=>(g2 Z M).bind fun d2 M=>if cX d0&&cX d1&&cX d2 then .ok (nJ d0 d1 d2) M else .bad
theorem pI:∀(y0 y1 y2:List D) (i:Nat) (d:D),(fc y0 y1 y2)[i]?=some d↔∃e0 e1 e2,y0[i]?=some e0/\y1[i]?=some e1/\y2[i]?=some e2/\d=.tup [e0,e1,e2]
 |c0::t0,c1::t1,c2::t2,0,d=>by simp [fc,eq_comm]
 | c0 :: t0, c1 :: t1, c2 :: t2, i + 1, d => by
   have:=pI t0 t1 t2 i d
   simpa [fc] using this
 |[],_,_,i,d=>by simp [fc]
 |_::_,[],_,i,d=>by simp [fc]
 |_::_,_::_,[],i,d=>by simp [fc]
theorem pH:∀(y0 y1 y2:List D) (i:Nat),(fc y0 y1 y2).length<=i->y0.length<=i\/y1.length<=i\/y2.length<=i
 |c0::t0,c1::t1,c2::t2,0,h=>by simp [fc] at h
 | c0 :: t0, c1 :: t1, c2 :: t2, i + 1, h => by
   have:=pH t0 t1 t2 i (by simpa [fc] using h)
   simpa using this
 |[],_,_,i,h=>by simp
 |_::_,[],_,i,h=>by simp
 |_::_,_::_,[],i,h=>by simp
theorem B5 {fa:Fa}{K:MF}{μ:Mu}{H:Hp}:∀{es:List D}{ws:List V},es.length=ws.length->(∀(j:Nat) e w,es[j]?=some e->ws[j]?=some w->Rep fa K μ H e w)->aF fa K μ H es ws
 |[],[],_,_=>rfl
 |e::es,w::ws,hl,h=>⟨w,ws,rfl,h 0 e w rfl rfl,B5 (by simpa using hl) fun j e w=>h (j+1) e w⟩
theorem rn {fa:Fa}{X:Cx}{μ0:Mu}{H0:Hp}{l:jw}{w:Walk} (hw:∀μ H M ds,ExtW μ0 H0 μ H->RelM fa X.K μ H M->w M=some ds->∃ys:List (List D),ys.length=l.length/\(∀(j:Nat) y b a,ys[j]?=some y->l[j]?=some (b,a)->∃vs,jK X.K H b a vs/\aF fa X.K μ H y vs)/\
 (∀(i:Nat) d,ds[i]?=some d->∃es,d=.tup es/\es.map some=ys.map (·[i]?))/\∀i,ds.length<=i->∃y∈ys,y.length<=i):cT fa X.K μ0 H0 w (C0 X.K l):=fun μ H M ds x hM e=>by
 obtain ⟨ys,hl,hv,hd,he⟩:=hw μ H M ds x hM e
 have at_:∀(j:Nat) b a,l[j]?=some (b,a)->∃y vs,ys[j]?=some y/\jK X.K H b a vs/\aF fa X.K μ H y vs:=fun j b a e=>by
  have hj:=(MH.mp e).1
  have ey:=Nc (l:=ys) (i:=j) (by omega)
  obtain ⟨vs,q,r⟩:=hv j _ b a ey e
  exact ⟨_,vs,ey,q,r⟩
 refine ⟨fun i d hi=>?_,fun i hi=>⟨fun j b a e=>?_,?_⟩⟩
 ·obtain ⟨es,rfl,ee⟩:=hd i d hi
  have ej:∀{j:Nat}{y:List D},ys[j]?=some y->es[j]?.map some=some y[i]?:=fun {j y} ey=>by
   have:=congrArg (·[j]?) ee
   simpa [ey] using this
  have le:es.length=l.length:=by have:=congrArg List.length ee;simpa [hl] using this
  have it:∀(j:Nat) b a,l[j]?=some (b,a)->∃vs e v,es[j]?=some e/\jK X.K H b a vs/\vs[i]?=some v/\Rep fa X.K μ H e v:=fun j b a e=>by
   obtain ⟨y,vs,ey,q,r⟩:=at_ j b a e
   have z:=ej ey
   cases h:es[j]? with
   |none=>rw [h] at z;cases z
   | some e =>
     rw [h] at z
     obtain ⟨v,hv,rv⟩:=r.get (MO z).symm
     exact ⟨vs,e,v,rfl,q,hv,rv⟩
  refine ⟨fun j b a e=>?_,fun y H' ⟨p,zs,hp,ey,eH,lz,t⟩=>?_⟩
  ·obtain ⟨vs,_,v,_,q,hv,_⟩:=it j b a e
   exact ⟨vs,v,q,hv⟩
  subst eH ey
  refine ⟨Ext.alloc hM hp,hM.alloc hp,p,zs,rfl,.inl (.inl bt),B5 (le.trans lz.symm) fun j e w ee ew=>?_⟩
  have el:=Nc (l:=l) (i:=j) (by have:=(MH.mp ee).1;omega)
  obtain ⟨vs,e',v,h1,q,hv,rv⟩:=it j _ _ el
  have z:=t j _ _ el vs q
  rw [ew,hv] at z
  rw [ee] at h1
  cases z;cases h1
  exact rv.ext (Ext.alloc hM hp)
 ·obtain ⟨_,vs,_,q,_⟩:=at_ j b a e
  exact ⟨vs,q⟩
 ·obtain ⟨y,hy,ly⟩:=he i hi
  obtain ⟨j,ej⟩:=List.getElem?_of_mem hy
  have el:=Nc (l:=l) (i:=j) (by have:=(MH.mp ej).1;omega)
  obtain ⟨vs,q,r⟩:=hv j y _ _ ej el
  exact ⟨j,_,_,vs,el,q,by rw [r.length];exact ly⟩
section
variable {fa:Fa}{X:Cx}{μ0:Mu}{H0:Hp}{d0 d1 d2:D}{a0 a1 a2:Nat}(r0:Rep fa X.K μ0 H0 d0 (.ref a0))(r1:Rep fa X.K μ0 H0 d1 (.ref a1))(r2:Rep fa X.K μ0 H0 d2 (.ref a2))
include r0 r1
theorem wI:cT fa X.K μ0 H0 (km d0 d1) (C0 X.K [(dO d0,a0),(dO d1,a1)]):=rn fun μ H M ds x hM e=>by
 obtain ⟨y0,s0,e⟩:=N0.mp e
 obtain ⟨y1,s1,rfl⟩:=Nj.mp e
 refine ⟨[y0,y1],rfl,fun j y b a ey el=>?_,fun i d hd=>?_,fun i hi=>?_⟩
 ·match j,ey,el with
  |0,ey,el=>cases ey;cases el;exact gU hM (Rep.extW x r0) s0
  |1,ey,el=>cases ey;cases el;exact gU hM (Rep.extW x r1) s1
 ·obtain ⟨e0,e1,h0,h1,rfl⟩:=(rk y0 y1 i d).mp hd
  exact ⟨_,rfl,by simp [h0,h1]⟩
 ·rcases rj y0 y1 i hi with z|z<;>exact ⟨_,by simp,z⟩
include r2
theorem wH:cT fa X.K μ0 H0 (nJ d0 d1 d2) (C0 X.K [(dO d0,a0),(dO d1,a1),(dO d2,a2)]):=rn fun μ H M ds x hM e=>by
 obtain ⟨y0,s0,e⟩:=N0.mp e
 obtain ⟨y1,s1,e⟩:=N0.mp e
 obtain ⟨y2,s2,rfl⟩:=Nj.mp e
 refine ⟨[y0,y1,y2],rfl,fun j y b a ey el=>?_,fun i d hd=>?_,fun i hi=>?_⟩
 ·match j,ey,el with
  |0,ey,el=>cases ey;cases el;exact gU hM (Rep.extW x r0) s0
  |1,ey,el=>cases ey;cases el;exact gU hM (Rep.extW x r1) s1
  |2,ey,el=>cases ey;cases el;exact gU hM (Rep.extW x r2) s2
 ·obtain ⟨e0,e1,e2,h0,h1,h2,rfl⟩:=(pI y0 y1 y2 i d).mp hd
  exact ⟨_,rfl,by simp [h0,h1,h2]⟩
 ·rcases pH y0 y1 y2 i hi with z|z|z<;>exact ⟨_,by simp,z⟩
end
theorem EY {fa:Fa}{X:Cx}{elts:List Expr}{kk:Nat}{tp p pos:Pos}{e0 e1:Expr}{g0 g1:Env->Mem->Res D}(h0:DE fa X e0 g0)(h1:DE fa X e1 g1)(hg:Gl X "zip")(hm:X.mg "zip"=none)
 (hs0:starEach [e0,e1] X.env=[(false,eval e0 X.env),(false,eval e1 X.env)]) (hs1:starEach [e1] X.env=[(false,eval e1 X.env)]):DI fa X (.Tuple elts kk tp) (.Call (.Name "zip" p) [e0,e1] [] pos) (mn g0 g1):=by
 intro pins s σ H R I ⟨μ,Z,M,hE,hM,h⟩
 obtain ⟨d0,M0,c0,t0⟩:=aI h
 obtain ⟨d1,M1,c1,t1⟩:=aI t0
 split at t1
 ·next hsq=>
  simp only [MM] at hsq
  obtain ⟨hq0,hq1⟩:=hsq
  refine Call_ (fD I hg hm boot_zip (NN (aN (bO h0 (bO h1 eT hs1) (by rw [hs0,hs1]) pos pins s σ H (fun vs H1=>∃v0 v1 μ1,vs=[v0,v1]/\Ext μ H μ1 H1/\RelM fa X.K μ1 H1 M1/\Rep fa X.K μ1 H1 d0 v0/\Rep fa X.K μ1 H1 d1 v1) I ?_) fun us s1 ⟨vs,H1,I1,r1,v0,v1,μ1,ev,x1,m1,rv0,rv1⟩=>?_) (by rw [hs0,hs1]) (by rw [hs1];rfl)))
  ·refine ⟨μ,Z,M,hE,hM,?_⟩
   rw [c0]
   intro v0 H1 μ1 x1 m1 r0
   refine ⟨μ1,Z,M0,(hE.ext x1),m1,?_⟩
   rw [c1]
   intro v1 H2 μ2 x2 m2 r1
   exact ⟨v0,v1,μ2,rfl,(x1.trans x2),m2,(r0.ext x2),r1⟩
  subst ev
  obtain ⟨a0,its0,rfl,z0⟩:=jf I1 m1 rv0 hq0
  obtain ⟨a1,its1,rfl,z1⟩:=jf I1 m1 rv1 hq1
  cases r1 with
  | cons y0 r1 =>
    cases r1 with
    | cons y1 r1 =>
      cases r1
      obtain rfl:=y0
      obtain rfl:=y1
      refine yX z0 z1 fun h1 za hk=>?_
      have I2:Inv X pins σ H1 {s1 with heap:=h1}:=I1.kept (t':=s1.toks) hk
      refine wpAny_pyIter_zip (s:={s1 with heap:=h1}) za.1 ?_
      refine ⟨s1.heap.objs.size+2+2,BE s1.heap.objs.size 1,_,_,H1,rfl,I2,rq s1.heap.objs.size 1 [(dO d0,a0),(dO d1,a1)] rfl (by decide) (fun j b a e=>match j,e with
       |0,e=>by cases e;exact z0.lt
       |1,e=>by cases e;exact z1.lt),za,fun b hb=>?_,t1 _ H1 μ1 x1 m1 (wI rv0 rv1)⟩
      have hb:=(dm.mp hb).1
      exact I1.fpOk hb (I1.hok.fresh hb)
 ·exact t1.elim
theorem EX {fa:Fa}{X:Cx}{elts:List Expr}{kk:Nat}{tp p pos:Pos}{e0 e1 e2:Expr}{g0 g1 g2:Env->Mem->Res D}(h0:DE fa X e0 g0)(h1:DE fa X e1 g1)(h2:DE fa X e2 g2)(hg:Gl X "zip")(hm:X.mg "zip"=none)
 (hs0:starEach [e0,e1,e2] X.env=[(false,eval e0 X.env),(false,eval e1 X.env),(false,eval e2 X.env)]) (hs1:starEach [e1,e2] X.env=[(false,eval e1 X.env),(false,eval e2 X.env)]) (hs2:starEach [e2] X.env=[(false,eval e2 X.env)]):DI fa X (.Tuple elts kk tp) (.Call (.Name "zip" p) [e0,e1,e2] [] pos) (ml g0 g1 g2):=by
 intro pins s σ H R I ⟨μ,Z,M,hE,hM,h⟩
 obtain ⟨d0,M0,c0,t0⟩:=aI h
 obtain ⟨d1,M1,c1,t1⟩:=aI t0
 obtain ⟨d2,M2,c2,t2⟩:=aI t1
 split at t2
 ·next hsq=>
  simp only [MM,and_assoc] at hsq
  obtain ⟨hq0,hq1,hq2⟩:=hsq
  refine Call_ (fD I hg hm boot_zip (NN (aN (bO h0 (bO h1 (bO h2 eT hs2) (by rw [hs1,hs2])) (by rw [hs0,hs1]) pos pins s σ H (fun vs H1=>∃v0 v1 v2 μ1,vs=[v0,v1,v2]/\Ext μ H μ1 H1/\RelM fa X.K μ1 H1 M2/\Rep fa X.K μ1 H1 d0 v0/\Rep fa X.K μ1 H1 d1 v1/\Rep fa X.K μ1 H1 d2 v2) I ?_) fun us s1 ⟨vs,H1,I1,r1,v0,v1,v2,μ1,ev,x1,m1,rv0,rv1,rv2⟩=>?_) (by rw [hs0,hs1]) (by rw [hs1];rfl)))
  ·refine ⟨μ,Z,M,hE,hM,?_⟩
   rw [c0]
   intro v0 H1 μ1 x1 m1 r0
   refine ⟨μ1,Z,M0,(hE.ext x1),m1,?_⟩
   rw [c1]
   intro v1 H2 μ2 x2 m2 r1
   refine ⟨μ2,Z,M1,((hE.ext x1).ext x2),m2,?_⟩
   rw [c2]
   intro v2 H3 μ3 x3 m3 r2
   exact ⟨v0,v1,v2,μ3,rfl,((x1.trans x2).trans x3),m3,((r0.ext x2).ext x3),(r1.ext x3),r2⟩
  subst ev
  obtain ⟨a0,its0,rfl,z0⟩:=jf I1 m1 rv0 hq0
  obtain ⟨a1,its1,rfl,z1⟩:=jf I1 m1 rv1 hq1
  obtain ⟨a2,its2,rfl,z2⟩:=jf I1 m1 rv2 hq2
  cases r1 with
  | cons y0 r1 =>
    cases r1 with
    | cons y1 r1 =>
      cases r1 with
      | cons y2 r1 =>
        cases r1
        obtain rfl:=y0
        obtain rfl:=y1
        obtain rfl:=y2
        refine yW z0 z1 z2 fun h1 za hk=>?_
        have I2:Inv X pins σ H1 {s1 with heap:=h1}:=I1.kept (t':=s1.toks) hk
        refine wpAny_pyIter_zip (s:={s1 with heap:=h1}) za.1 ?_
        refine ⟨s1.heap.objs.size+3+2,BE s1.heap.objs.size 2,_,_,H1,rfl,I2,rq s1.heap.objs.size 2 [(dO d0,a0),(dO d1,a1),(dO d2,a2)] rfl (by decide) (fun j b a e=>match j,e with
         |0,e=>by cases e;exact z0.lt
         |1,e=>by cases e;exact z1.lt
         |2,e=>by cases e;exact z2.lt),za,fun b hb=>?_,t2 _ H1 μ1 x1 m1 (wH rv0 rv1 rv2)⟩
        have hb:=(dm.mp hb).1
        exact I1.fpOk hb (I1.hok.fresh hb)
 ·exact t2.elim
end LD
namespace LD
open PySem PySem.Spec PyProof.Rows L2
abbrev GE:=Env->Mem->Res D
abbrev GT:=Env->Mem->Res Bool
abbrev GA:=Env->Mem->Res (List D)
abbrev GW:=Env->Mem->Res Walk
abbrev GS:=Env->Mem->Res Fl
abbrev GB:=Env->List D->Mem->Res (List D)
abbrev Call:=Nat->List D->Mem->Res D
noncomputable def aa (i:Nat):GE:=fun Z M=>bK M (Z[i]?.getD none)
noncomputable def gC (d:D):GE:=fun _ M=>.ok d M
noncomputable def ay (m:Bool)(o:mS)(a b:GE):GE:=fun Z M=>(a Z M).bind fun x M=>(b Z M).bind fun y M=>gY m o x y M
noncomputable def aU (o:iJ)(a b:GE):GE:=fun Z M=>(a Z M).bind fun x M=>(b Z M).bind fun y M=>(bK M (bx o x y M)).bind fun b M=>.ok (.bl b) M
noncomputable def sQ (o o':iJ)(a b c:GE):GE:=fun Z M=>(a Z M).bind fun x M=>(b Z M).bind fun y M=>(bK M (bx o x y M)).bind fun k M=>
 if k then (c Z M).bind fun z M=>(bK M (bx o' y z M)).bind fun b M=>.ok (.bl b) M else .ok (.bl false) M
noncomputable def du (a:GE):GE:=fun Z M=>(a Z M).bind fun x M=>match x with|.int i=>.ok (.int (-i)) M|_=>.bad
noncomputable def dv (a b:GE):GE:=fun Z M=>(a Z M).bind fun x M=>match x with|.bl true=>b Z M|.bl false=>.ok (.bl false) M|_=>.bad
noncomputable def KO (a b:GE):GE:=fun Z M=>(a Z M).bind fun x M=>match x with|.bl true=>.ok (.bl true) M|.bl false=>b Z M|_=>.bad
noncomputable def LS (a:GE):GE:=fun Z M=>(a Z M).bind fun x M=>match x with|.bl k=>.ok (.bl (!k)) M|_=>.bad
noncomputable def jq (t:GT)(a b:GE):GE:=fun Z M=>(t Z M).bind fun k M=>if k then a Z M else b Z M
noncomputable def aE (a b:GE):GE:=fun Z M=>(a Z M).bind fun x M=>(b Z M).bind fun y M=>bK M (cH x y M)
noncomputable def dq (m hl hh:Bool)(a lo hi:GE):GE:=fun Z M=>(a Z M).bind fun x M=>(lo Z M).bind fun l M=>(hi Z M).bind fun h M=>if dn hl l&&dn hh h then fP m x l h M else .bad
noncomputable def ah:GA:=fun _ M=>.ok [] M
noncomputable def ae (a:GE)(s:GA):GA:=fun Z M=>(a Z M).bind fun x M=>(s Z M).bind fun xs M=>.ok (x::xs) M
noncomputable def cJ (s:GA):GE:=fun Z M=>(s Z M).bind kD
noncomputable def bE (m:Bool)(s:GA):GE:=fun Z M=>(s Z M).bind (bf m)
noncomputable def au (f:Nat)(c:Call)(s:GA):GE:=fun Z M=>(s Z M).bind fun ds M=>c f ds M
noncomputable def lI (i:Nat)(c:Call)(s:GA):GE:=fun Z M=>match Z[i]?.getD none with|some (.fn f)=>(s Z M).bind fun ds M=>c f ds M|_=>.bad
noncomputable def aR (f:tR)(s:GA):GE:=fun Z M=>(s Z M).bind fun ds M=>dA f ds M
noncomputable def cz (t:Ty)(a:GE):GE:=fun Z M=>(a Z M).bind fun x M=>(bK M (dF t x)).bind fun b M=>.ok (.bl b) M
noncomputable def aC (a:GE):GT:=fun Z M=>(a Z M).bind fun x M=>bK M (jN M x)
noncomputable def jd (a b:GT):GT:=fun Z M=>(a Z M).bind fun k M=>if k then b Z M else .ok false M
noncomputable def gj (a b:GT):GT:=fun Z M=>(a Z M).bind fun k M=>if k then .ok true M else b Z M
noncomputable def bH (a:GT):GT:=fun Z M=>(a Z M).bind fun k M=>.ok (!k) M
noncomputable def aK (t:cy)(a:GE):GS:=fun Z M=>(a Z M).bind fun x M=>(bK M (bN t x Z)).bind fun ρ1 M=>.ok (.next ρ1) M
noncomputable def dz (a b d:GE):GS:=fun Z M=>(d Z M).bind fun z M=>(a Z M).bind fun x M=>(b Z M).bind fun y M=>match x,y with
 | .cell k, .int n => match M[k]? with
   | some ds => match bI ds.length n with
     |some j=>.ok (.next Z) (M.set k (ds.set j z))
     |none=>.bad
   |none=>.bad
 |_,_=>.bad
noncomputable def iA (a d:GE):GS:=fun Z M=>(a Z M).bind fun x M=>(d Z M).bind fun z M=>match x with
 | .cell k => match M[k]? with
   |some ds=>if ds.length<sz then .ok (.next Z) (M.set k (ds++[z])) else .bad
   |none=>.bad
 |_=>.bad
noncomputable def sEx (a:GE):GS:=fun Z M=>(a Z M).bind fun _ M=>.ok (.next Z) M
noncomputable def aM (a:GE):GS:=fun Z M=>(a Z M).bind fun x M=>.ok (.ret x) M
noncomputable def B3:GS:=fun _ M=>.ok (.ret .non) M
noncomputable def B4:GS:=fun Z M=>.ok (.next Z) M
noncomputable def Lh:GS:=fun _ _=>.bad
noncomputable def aQ (c:GT)(a b:GS):GS:=fun Z M=>(c Z M).bind fun k M=>if k then a Z M else b Z M
noncomputable def dJ (t:cy)(w:GW)(b:GS):GS:=fun Z M=>(w Z M).bind fun w M=>dj (gk t b) w (.next Z) M
noncomputable def aj:GS:=fun Z M=>.ok (.next Z) M
noncomputable def af (a b:GS):GS:=fun Z M=>(a Z M).bind fun fl M=>match fl with
 |.next Z=>b Z M
 |fl=>.ok fl M
noncomputable def notStar:Expr->Bool
 |.Starred _ _=>false
 |_=>true
theorem bg {a:Expr}{es:List Expr}{env:Nx}(h:notStar a=true):starEach (a::es) env=(false,eval a env)::starEach es env:=by
 cases a<;>first|rfl|cases h
theorem bW {pos:Pos}{env:Nx}:∀{es:List Expr},es.all notStar=true->(backTo pos (starEach es env)).any (·.1)=false
 |[],_=>rfl
 | a :: es, h => by
   simp only [Ny,MM] at h
   have ih:=bW (pos:=pos) (env:=env) h.2
   rw [bg h.1]
   simpa [backTo] using ih
section
variable {fa:Fa}{X:Cx}{a b d:Expr}{ga gb gd:GE}{ta tb:GT}{pos p:Pos}{es:List Expr}{gs:GA}{n:Nat}
theorem Gf {x:Str}{i:Int}{t:Tok}(hg:Gl X x)(hm:X.mg x=some (.int i t))(hd:(x==("__debug__":Str))=false):DE fa X (.Name x pos) (gC (.int i)):=i9 (v:=.int i) (jY hg hm ⟨t,rfl⟩ hd) fun _ _=>rfl
end
structure Df where
 params:Nat
 slots:Nat
 body:Call->GS
noncomputable def LW:Fl->Mem->Res D
 |.ret d,M=>.ok d M
 |.next _,M=>.ok .non M
 |.exc x _,M=>.err x M
noncomputable def LV:Res Fl->Res D
 |.ok fl M=>LW fl M
 |_=>.bad
noncomputable def fQ (c:Call)(d:Df)(ds:List D)(M:Mem):Res D:=if ds.length=d.params then LV (d.body c (ds.map some++List.replicate (d.slots-ds.length) none) M) else .bad
noncomputable def ak (P:Nat->Option Df):Nat->Call
 |0,_,_,_=>.bad
 | n + 1, f, ds, M => match P f with
   |none=>.bad
   |some d=>fQ (ak P n) d ds M
structure wD (fa:Fa) (P:Na) (w:Nd) (K:MF) (mg:Str->Option MG) (base:Heap) (f:Nat) (d:Df):Prop where
 ex:∃(ad:Addr) (fd:OG) (ps N:List Str) (st:Stmt) (x qual:Str),fa f=some ad/\oJ K x qual st ad fd/\Binds K fd ps []/\f6 N ps (aL st)/\d.params=ps.length/\d.slots=N.length/\
  ∀(call:Call) (n:Nat) (cdv:MG) (A:NL) (outer:List Nx) (s:MI) (H:Hp) (E:XK),(∀f,dI fa P w K mg base n f (call f))->bu (2*n+5) (A.deeper (envOfC qual (aL st) s.heap.objs.size ad cdv))->
   kU fa (eA (fv P w) P w K mg base N qual (aL st) ad cdv A outer s H E) (cx st) (d.body call)
theorem xp {fa:Fa}{K:MF}{μ:Mu}{H:Hp}{N:List Str}{ds:List D}{vs:List V}(h:aF fa K μ H ds vs):a8 fa K μ H (L2.start N vs) (ds.map some++List.replicate (N.length-ds.length) none):=by
 have hl:=h.length
 refine ⟨by unfold L2.start;simp [hl],fun i d e=>?_⟩
 by_cases hi:i<ds.length
 ·rw [Nh (by simpa using hi),Nv] at e
  cases e1:ds[i]? with
  |none=>rw [e1] at e;cases e
  | some d' =>
    rw [e1] at e
    cases e
    obtain ⟨v,hv,rv⟩:=h.get e1
    refine ⟨v,?_,rv⟩
    unfold L2.start
    rw [Nh (by simp;omega),Nv,hv]
    rfl
 ·rw [NP (by simp;omega),Oy] at e
  split at e<;>cases e
theorem ph {P:Na}{w:Nd}{K:MF}{mg:Str->Option MG}{base:Heap}{x qual:Str}{st:Stmt}{f:Addr}{fd:OG}{N ps:List Str}{k:Nat}{sp:Sp}(F:oJ K x qual st f fd)(S:f6 N ps (aL st))(len:∀vs H Q E,sp vs H Q E->vs.length=ps.length)
 (hbody:∀(cdv:MG) (A:NL) (outer:List Nx) (s:MI) (H:Hp) (vs:List V) (Q:VK) (E:XK),bu k (A.deeper (envOfC qual (aL st) s.heap.objs.size f cdv))->sp vs H Q E->
  ∃t,lU (eA (fv P w) P w K mg base N qual (aL st) f cdv A outer s H E) (cx st) t/\t {nx:=fun _ H'=>Q .non H',rt:=Q} (start N vs) H):fB P w K mg base (fv P w) (k+1) f fd ps sp:=by
 obtain ⟨oc,od,kV,doc,pm,an,cdv,ct,osl,rfl,lk,hcd⟩:=F.ex
 exact JH lk hcd S len fun A outer s H vs Q E hr hsp=>hbody cdv A outer s H vs Q E hr hsp
theorem qr {fa:Fa}{P:Na}{w:Nd}{K:MF}{mg:Str->Option MG}{base:Heap}{N:List Str}{qual:Str}{scope:Scope}{f:Addr}{cd:MG}{A:NL}{outer:List Nx}{s:MI}{H:Hp}{E:XK}{Q:VK}{d:Df}{c:Call}{ds:List D}{vs:List V}{μ:Mu}{M:Mem}
 (hs:d.slots=N.length) (hM:RelM fa K μ H M) (hr:aF fa K μ H ds vs) (hq:gr (fQ c d ds M) (aY fa K μ H Q) (wy fa K μ H E)):tF fa (eA (fv P w) P w K mg base N qual scope f cd A outer s H E) (d.body c) {nx:=fun _ H'=>Q .non H',rt:=Q} (start N vs) H:=by
 unfold fQ at hq
 split at hq
 ·refine ⟨μ,_,M,xp hr,hM,?_⟩
  rw [<- hs]
  cases e1:d.body c (ds.map some++List.replicate (d.slots-ds.length) none) M with
  | ok fl M1 =>
    rw [e1] at hq
    cases fl with
    | next ρ' =>
      have q1:aY fa K μ H Q .non M1:=hq
      exact fun σ' H' μ' x' e' m'=>q1 .non H' μ' x' m' rfl
    |ret d=>exact hq
    | exc x ρ' =>
      have q1:wy fa K μ H E x M1:=hq
      exact fun pins σ' H' μ' s' a C dx c p I y _ m ex hc hn fl=>AR I fl (q1 C dx c p H' μ' y m ex hc hn)
  |err=>rw [e1] at hq;exact hq.elim
  |bad=>rw [e1] at hq;exact hq.elim
 ·exact hq.elim
theorem tj {fa:Fa}{P:Na}{w:Nd}{K:MF}{mg:Str->Option MG}{base:Heap}{Pg:Nat->Option Df}(h:∀f d,Pg f=some d->wD fa P w K mg base f d):∀(n f:Nat),dI fa P w K mg base n f (ak Pg n f)
 |0,f=>.inl fun _ _=>rfl
 | n + 1, f => by
   have ih:=tj h n
   cases e:Pg f with
   |none=>exact .inl fun ds M=>by show (match Pg f with|none=>Res.bad|some d=>fQ (ak Pg n) d ds M)=Res.bad;rw [e]
   | some d =>
     have eq:∀ds M,ak Pg (n+1) f ds M=fQ (ak Pg n) d ds M:=fun ds M=>by show (match Pg f with|none=>Res.bad|some d=>fQ (ak Pg n) d ds M)=_;rw [e]
     obtain ⟨ad,fd,ps,N,st,x,qual,h1,F,hb,S,hp,hs,hbody⟩:=(h f d e).ex
     refine .inr ⟨ad,fd,ps,h1,F.kp,hb,fun ds M hl=>?_,?_⟩
     ·rw [eq];unfold fQ;rw [if_neg (by rw [hp];exact hl)]
     ·refine ph (k:=2*n+5) F S (fun vs H Q E hsp=>hsp.1) fun cdv A outer s H vs Q E hr hsp=>⟨_,hbody (ak Pg n) n cdv A outer s H E ih hr,?_⟩
      obtain ⟨hl,μ,M,ds,hM,hr,hq⟩:=hsp
      rw [eq] at hq
      exact qr hs hM hr hq
end LD
namespace LD
open PySem PySem.Spec PyProof.Rows L2
noncomputable def nH (P:N2)(e:OI)(kv:Str×Addr):Prop:=∃t,e=⟨PyData.keyHash P kv.1,.str kv.1 t,.ref kv.2⟩
structure fu (K:MF) (P:N2) (a:Addr) (kvs:List (Str×Addr)):Prop where
 ex:∃(es:Array OI) (n:Nat),K.lookup a=some {cls:=.type "dict",data:=.dict es n}/\ON (nH P) es.toList kvs
 nd:(kvs.map (·.1)).Nodup
 ns:(a==sysModules)=false
noncomputable def uP (kvs:List (Str×Addr)):List (Key×MG):=kvs.map fun kv=>(Sum.inr kv.1,.ref kv.2)
theorem sV {P:N2}:∀{es:List OI}{kvs:List (Str×Addr)},ON (nH P) es kvs->∀e∈es,∃x t,e.key=.str x t/\e.hash=PyData.keyHash P x
 |_,_,.nil,e,h=>nomatch h
 | _, _, .cons r t, e, h => by
   rcases Np.mp h with z|z
   ·subst z;obtain ⟨t,rfl⟩:=r;exact ⟨_,t,rfl,rfl⟩
   ·exact sV t e z
theorem oy {prog:Na}{w:Nd}:∀{es:List OI}{kvs:List (Str×Addr)},ON (nH w.params) es kvs->Pairs (j0 prog w) es (uP kvs)
 |_,_,.nil=>.nil
 | e :: es, kv :: kvs, .cons r t => by
   obtain ⟨u,rfl⟩:=r
   exact Pairs.cons (kv:=((Sum.inr kv.1:Key),Value.ref kv.2)) (jB kv.1 u) rfl (oy t)
theorem sI {X:Cx}{pins:List (Addr×Obj)}{σ:L2.St}{H:Hp}{s:MI}{a:Addr}{kvs:List (Str×Addr)}(I:Inv X pins σ H s)(h:fu X.K X.w.params a kvs):s.heap.DictOf (j0 X.prog X.w) a (uP kvs):=by
 obtain ⟨es,n,lk,pr⟩:=h.ex
 refine ⟨_,es,n,I.kIn _ _ lk,⟨rfl,rfl,rfl⟩,rfl,fun e he=>?_,oy pr,?_⟩
 ·obtain ⟨x,t,e1,e2⟩:=sV pr e (by simpa using he)
  exact ⟨Sum.inr x,by rw [e1];exact jB x t,e2⟩
 ·have e:(uP kvs).map (·.1)=(kvs.map (·.1)).map Sum.inr:=by unfold uP;simp
  rw [e]
  exact List.Pairwise.map _ (fun a b (n:a≠b) z=>n (Sum.inr.inj z)) h.nd
theorem yp (kvs:List (Str×Addr))(k:Str):valueAt (uP kvs) (Sum.inr k:Key)=(kvs.lookup k).map Value.ref:=by
 induction kvs with
 |nil=>rfl
 | cons kv r ih =>
   unfold valueAt uP at ih ⊢
   rw [NQ,List.find?_cons,Nq]
   by_cases e:kv.1=k
   ·subst e;simp
   ·have e2:decide ((Sum.inr kv.1:Key)=Sum.inr k)=false:=decide_eq_false fun z=>e (Sum.inr.inj z)
    have e3:(k==kv.1)=false:=NA.mpr (NV e)
    rw [e2,e3]
    exact ih
noncomputable def dX (fa:Fa)(kvs:List (Str×Addr))(fs:List (Str×Nat)):Prop:=ON (fun (p:Str×Addr) (q:Str×Nat)=>p.1=q.1/\fa q.2=some p.2) kvs fs
theorem dX.look {fa:Fa}{k:Str}:∀{kvs:List (Str×Addr)}{fs:List (Str×Nat)},dX fa kvs fs->(fs.lookup k=none/\kvs.lookup k=none)\/∃f ad,fs.lookup k=some f/\kvs.lookup k=some ad/\fa f=some ad
 |_,_,.nil=>.inl ⟨rfl,rfl⟩
 | (x, a) :: r, (y, f) :: t, .cons ⟨e1, e2⟩ q => by
   have e1:x=y:=e1
   subst e1
   rw [Nq,Nq]
   cases e:k==x with
   |true=>exact .inr ⟨f,a,rfl,rfl,e2⟩
   |false=>exact dX.look q
noncomputable def kK (fs:List (Str×Nat))(i:GE):GE:=fun Z M=>(i Z M).bind fun d M=>match d with
 |.str k=>bK M ((fs.lookup k).map D.fn)
 |_=>.bad
noncomputable def iQ (fs:List (Str×Nat))(i:GE):GE:=fun Z M=>(i Z M).bind fun d M=>match d with
 |.str k=>.ok (.bl (!(fs.lookup k).isSome)) M
 |_=>.bad
section
variable {fa:Fa}{X:Cx}{a b:Expr}{ga gb:GE}{pos p:Pos}{ad:Addr}{kvs:List (Str×Addr)}{fs:List (Str×Nat)}{x:Str}
theorem A1 (hd:fu X.K X.w.params ad kvs):ki X (fun x y H Q=>∃k v,x=.ref ad/\y=.str k/\kvs.lookup k=some v/\Q (.ref v) H):=by
 intro value slice pins s σ H x y v u Q I rx ry h hs
 obtain ⟨k,c,rfl,rfl,hk,q⟩:=h
 cases rx
 obtain ⟨t,rfl⟩:=ry
 have dd:=sI I hd
 have hT:s.TypeIs (.ref ad) "dict":=let ⟨o,_,_,ho,⟨hc,_⟩,_⟩:=dd;⟨o,ho,hc⟩
 refine tail_any hT PySem.F.slot_dict_getitem.lookup (wpAny_getItem_of (k:=(Sum.inr k:Key)) (jB k t) dd.mapOf (v:=.ref c) ?_ ?_) hs
 ·rw [yp,hk];rfl
 ·exact ⟨.ref c,H,I.tok _,rfl,q⟩
theorem sj (hd:fu X.K X.w.params ad kvs):bz X (compareOp .NotIn) (fun x y H Q=>∃k,x=.str k/\y=.ref ad/\Q (.bl (!(kvs.lookup k).isSome)) H):=by
 intro pins s σ H x y v u Q I rx ry h
 obtain ⟨k,rfl,rfl,q⟩:=h
 obtain ⟨t,rfl⟩:=rx
 cases ry
 have dd:=sI I hd
 refine wpAny_notIn_of (k:=(Sum.inr k:Key)) (jB k t) hd.ns dd.mapOf ?_
 rw [yp,Option.isSome_map]
 exact ⟨.bl _,H,I.tok _,rfl,q⟩
theorem Gh (hd:fu X.K X.w.params ad kvs)(ho:dX fa kvs fs)(hg:Gl X x)(hm:X.mg x=some (.ref ad))(hdb:(x==("__debug__":Str))=false)(hb:DE fa X b gb)(hs:kg b):DE fa X (.Subscript (.Name x p) b pos) (kK fs gb):=
 br (B8 (A1 hd) (jY (v:=.ref ad) hg hm rfl hdb) hb hs) fun σ H Q ⟨μ,Z,M,hE,hM,h⟩=>t1 hE hM h fun d M1 v H1 μ1 x1 hE1 hM1 r1 h1=>by
  cases d with
  | str k =>
    obtain ⟨d,e,q⟩:=jZ h1
    rcases ho.look (k:=k) with ⟨e1,_⟩|⟨f,c,e1,e2,e3⟩
    ·rw [e1] at e;cases e
    ·rw [e1] at e
     cases e
     exact ⟨k,c,rfl,r1,e2,q (.ref c) H1 μ1 x1 hM1 ⟨c,rfl,.inl e3⟩⟩
  |_=>exact h1.elim
theorem AG {d:D}{M1:Mem}{P:D->Mem->Prop}(h:ag (match d with|.str k=>Res.ok (.bl (!(fs.lookup k).isSome)) M1|_=>.bad) P):∃k,d=.str k/\P (.bl (!(fs.lookup k).isSome)) M1:=by
 cases d with
 |str k=>exact ⟨k,rfl,h⟩
 |_=>exact h.elim
theorem Bj (ho:dX fa kvs fs)(k:Str):(kvs.lookup k).isSome=(fs.lookup k).isSome:=by
 rcases ho.look (k:=k) with ⟨e1,e2⟩|⟨f,c,e1,e2,_⟩<;>rw [e1,e2]<;>rfl
theorem yC (ho:dX fa kvs fs)(σ:L2.St)(H:Hp)(Q:VK)(h:tE fa X.K (iQ fs ga) σ H Q):xm (fun x y H Q=>∃k,x=.str k/\y=.ref ad/\Q (.bl (!(kvs.lookup k).isSome)) H) (tE fa X.K ga) (tC (.ref ad)) σ H Q:=by
 obtain ⟨μ,Z,M,hE,hM,h⟩:=h
 refine t1 hE hM h fun d M1 v H1 μ1 x1 hE1 hM1 r1 h1=>?_
 obtain ⟨k,rfl,q⟩:=AG h1
 refine ⟨k,r1,rfl,?_⟩
 rw [Bj ho]
 exact q (.bl _) H1 μ1 x1 hM1 rfl
theorem Gg (hd:fu X.K X.w.params ad kvs)(ho:dX fa kvs fs)(hg:Gl X x)(hm:X.mg x=some (.ref ad))(hdb:(x==("__debug__":Str))=false)(ha:DE fa X a ga)(hmk:behindInMarks .NotIn (.Name x p)=false):DE fa X (.Compare a [.NotIn] [.Name x p] pos) (iQ fs ga):=
 br (uD (sj hd) ha (jY (v:=.ref ad) hg hm rfl hdb) hmk) fun σ H Q h=>yC ho σ H Q h
theorem Gs (hd:fu X.K X.w.params ad kvs)(ho:dX fa kvs fs)(hg:Gl X x)(hm:X.mg x=some (.ref ad))(hdb:(x==("__debug__":Str))=false)(ha:DE fa X a ga)(hmk:behindInMarks .NotIn (.Name x p)=false):DT fa X (.Compare a [.NotIn] [.Name x p] pos) (aC (iQ fs ga)):=
 jW (oS (sj hd) ha (jY (v:=.ref ad) hg hm rfl hdb) hmk) fun σ H Q h=>by
  refine yC ho σ H _ ?_
  obtain ⟨μ,Z,M,hE,hM,h⟩:=h
  obtain ⟨z,M3,e,q⟩:=aI h
  refine ⟨μ,Z,M,hE,hM,?_⟩
  rw [e]
  have hz:∃k,z=.bl k:=by
   obtain ⟨d,M1,e1,e2⟩:=eB e
   cases d<;>first|(cases e2;exact ⟨_,rfl⟩)|cases e2
  obtain ⟨k,rfl⟩:=hz
  intro v H' μ' x' m' r'
  obtain rfl:v=.bl k:=r'
  exact ⟨k,rfl,q H' μ' x' m'⟩
noncomputable def lH (m:Bool)(a:GE):GE:=fun Z M=>(a Z M).bind fun x M=>match x with
 |.int n=>if -(2^62)<=n/\n<2^20 then bf m ((List.range n.toNat).map fun (k:Nat)=>D.int (k:Int)) M else .bad
 |_=>.bad
theorem vU:∀(n:Nat) (its:List MG),its.length=n->(∀(i:Nat) (v:MG),its[i]?=some v->∃t,v=.int (i:Int) t)->Vals ((List.range n).map fun (k:Nat)=>V.int (k:Int)) its:=by
 intro n its hl h
 have key:∀(k:Nat) (its:List MG),(∀(i:Nat) (v:MG),its[i]?=some v->∃t,v=.int ((k+i:Nat):Int) t)->Vals ((List.range its.length).map fun (j:Nat)=>V.int ((k+j:Nat):Int)) its:=by
  intro k its
  induction its generalizing k with
  |nil=>intro _;exact .nil
  | cons v r ih =>
    intro h
    rw [ND,List.range_succ_eq_map,NQ,List.map_map]
    refine .cons (h 0 v rfl) ?_
    have:=ih (k+1) fun i u e=>by
     have:=h (i+1) u (by simpa using e)
     rw [show k+1+i=k+(i+1) by omega];exact this
    refine cast (congrArg (fun f=>Vals ((List.range r.length).map f) r) ?_) this
    funext j
    show V.int _=V.int _
    congr 2
    omega
 have:=key 0 its fun i v e=>by rw [Nat.zero_add];exact h i v e
 rw [hl] at this
 simpa using this
theorem D4 (m:Bool){p1 p2 pos2:Pos}(hc:X.calm=true)(ha:DE fa X a ga)(hgl:Gl X "list")(hml:X.mg "list"=none)(hg:Gl X "range")(hm:X.mg "range"=none)(hs:starEach [a] X.env=[(false,eval a X.env)])
 (hs2:starEach [.Call (.Name "range" p2) [a] [] pos2] X.env=[(false,eval (.Call (.Name "range" p2) [a] [] pos2) X.env)]) :
 DE fa X (.Call (.Name "list" p1) [.Call (.Name "range" p2) [a] [] pos2] [] pos) (lH m ga):=by
 intro pins s σ H Q I ⟨μ,Z,M,hE,hM,h⟩
 obtain ⟨x,M1,e,q⟩:=aI h
 have key:∀n,x=.int n->ag (if -(2^62)<=n/\n<2^20 then bf m ((List.range n.toNat).map fun (k:Nat)=>D.int (k:Int)) M1 else .bad) (aY fa X.K μ H Q)->
  wpAny (model X.prog X.w) X.A (eval (.Call (.Name "list" p1) [.Call (.Name "range" p2) [a] [] pos2] [] pos) X.env) (EP X pins σ Q) X.xe s:=fun n en q'=>by
  subst en
  by_cases c:-(2^62)<=n/\n<2^20
  ·rw [if_pos c] at q'
   refine Call_ (fD I hgl hml (by decide +kernel:bootBuiltins "list"=some (.type "list")) (NN ?_ hs2 rfl))
   rw [hs2]
   refine Calls.spliced_cons ?_
   refine Call_ (fD I hg hm boot_range (NN (aN (bO ha eT hs pos2 pins s σ H (fun vs H1=>∃μ1,vs=[.int n]/\Ext μ H μ1 H1/\RelM fa X.K μ1 H1 M1) I ⟨μ,Z,M,hE,hM,?_⟩) fun us s1 ⟨vs,H1,I1,r1,μ1,ev,x1,m1⟩=>?_) hs rfl))
   ·rw [e]
    intro v H1 μ1 x1 m1 r1
    obtain rfl:v=.int n:=r1
    exact ⟨μ1,rfl,x1,m1⟩
   subst ev
   cases r1 with
   | cons r rr =>
     cases rr
     obtain ⟨t,rfl⟩:=r
     refine call_range_1 ?_
     refine Calls.spliced_nil ?_
     refine call_list_range (n:=n.toNat) (I.ok.hd hc) (IsRange.new ..) (small_one (by omega) (by omega) (by omega) (by omega)) (by rw [rangeSize_one];split<;>omega) (by omega) fun h' tk acc' c' kp eS its=>?_
     obtain ⟨hsz,hit⟩:=its
     have I2:Inv X pins σ H1 {s1 with heap:=s1.heap.push {cls:=.type "range",data:=.fields #[.int 0 s1.toks,.int n t,.int 1 (s1.toks+1)]},toks:=s1.toks+1+1}:=I1.kept fun b o e=>MJ _ e
     have hv:Vals ((List.range n.toNat).map fun (k:Nat)=>V.int (k:Int)) acc'.toList:=vU n.toNat acc'.toList (by simpa using hsz) fun i v e=>by
      obtain ⟨u,z⟩:=hit i v (by simpa using e)
      exact ⟨u,by rw [z];simp⟩
     have rl:aF fa X.K μ1 H1 ((List.range n.toNat).map fun (k:Nat)=>D.int (k:Int)) ((List.range n.toNat).map fun (k:Nat)=>V.int (k:Int)):=by
      have:=aF.ints (fa:=fa) (K:=X.K) (μ:=μ1) (H:=H1) ((List.range n.toNat).map fun (k:Nat)=>(k:Int))
      simpa [List.map_map,OE] using this
     obtain ⟨c1,k1⟩:=fN m1 rl (jz q' x1)
     refine ⟨.ref _,_,I2.laid (t':=tk) (o:=.lst ((List.range n.toNat).map fun (k:Nat)=>V.int (k:Int))) kp (MN _) ⟨?_,acc'.toList,c',hv,by simpa using eS⟩,rfl,k1 _ (I2.hok.fresh (MN _))⟩
     rw [rl.length,<- cV];exact c1
  ·rw [if_neg c] at q';exact q'.elim
 cases x with
 |int n=>exact key n rfl q
 |_=>exact q.elim
end
end LD
namespace LD
open PySem PySem.Spec PyProof.Rows L2
noncomputable def pz (bn N:List Str)(sc scope:Scope):Bool:=
 scope.names.all (fun y=>y.2 != .cell&&(y.2 != .local||scope.names.lookup y.1==some .local)&&(y.2 != .free||sc.names.lookup y.1==some .cell||sc.names.lookup y.1==some .free)) &&
 bn.length==N.length&&(bn.zip N).all fun p=>(p.1==p.2&&scope.names.lookup p.2 != some .local)||scope.names.lookup p.1==none
theorem nX {α β:Type}{R:α->β->Prop}:∀{l:List α}{r:List β},l.length=r.length->(∀p∈l.zip r,R p.1 p.2)->ON R l r
 |[],[],_,_=>.nil
 |a::l,b::r,h,g=>.cons (g (a,b) Ni) (nX (by simpa using h) fun p hp=>g p (MV _ hp))
 |[],_::_,h,_=>by cases h
 |_::_,[],h,_=>by cases h
theorem yT {X:Cx}{own bn N:List Str}{sc scope:Scope}(hk:scope.kind=.function)(hs:X.env.scope=sc)(hN:X.N=N)(h:pz bn N sc scope=true):iw X own bn scope:=by
 unfold pz at h
 rw [MM,MM,MX,MX] at h
 obtain ⟨⟨h1,hl⟩,h2⟩:=h
 refine ⟨hk,fun y hy=>?_,fun y hy e=>?_,fun y hy e=>?_,?_⟩
 ·have:=h1 y hy
  simp only [MM] at this
  simpa using this.1.1
 ·have:=h1 y hy
  simp only [MM] at this
  have:=this.1.2
  rw [e] at this
  simpa using this
 ·have:=h1 y hy
  simp only [MM] at this
  have:=this.2
  rw [e] at this
  show X.env.scope.names.lookup y.1=_\/X.env.scope.names.lookup y.1=_
  rw [hs]
  simpa using this
 ·rw [hN]
  refine nX (by simpa using hl) fun p hp=>?_
  have:=h2 p hp
  simp only [Oo,MM,beq_iff_eq,bne_iff_ne] at this
  exact this
section
variable {fa:Fa}{X:Cx}{elt tg iter c t2 i2:Expr}{scope:Scope}{pos:Pos}{own bn:List Str}{t u:cy}{gw gw2:GW}{ge:GE}{gc:GT}
theorem mV {n:Nat}{l:List Nat}(h:l.all (· < n)=true):∀i∈l,i<n:=fun i hi=>by
 have:=MX.mp h i hi
 simpa using this
theorem xA {l W:List Nat}(h:W.all (fun i=>!l.contains i)=true):∀i∈W,i∉l:=fun i hi z=>by
 have:=MX.mp h i hi
 simp [z] at this
variable {i:Nat}{y:Str}{py spos:Pos}
theorem D5 {x:Str}{i:Int}(hg:Gl X x)(hm:∃t,X.mg x=some (.int i t))(hd:(x==("__debug__":Str))=false):DE fa X (.Name x pos) (gC (.int i)):=let ⟨_,h⟩:=hm;Gf hg h hd
theorem D7 {x:Str}{b:Expr}{gb:GE}{p:Pos}{fs:List (Str×Nat)}(h:∃ad kvs,X.mg x=some (.ref ad)/\fu X.K X.w.params ad kvs/\dX fa kvs fs)(hg:Gl X x)(hdb:(x==("__debug__":Str))=false)(hb:DE fa X b gb)(hs:kg b):DE fa X (.Subscript (.Name x p) b pos) (kK fs gb):=
 let ⟨_,_,h1,h2,h3⟩:=h;Gh h2 h3 hg h1 hdb hb hs
theorem D6 {x:Str}{a:Expr}{ga:GE}{p:Pos}{fs:List (Str×Nat)}(h:∃ad kvs,X.mg x=some (.ref ad)/\fu X.K X.w.params ad kvs/\dX fa kvs fs)(hg:Gl X x)(hdb:(x==("__debug__":Str))=false)(ha:DE fa X a ga)(hmk:behindInMarks .NotIn (.Name x p)=false):DE fa X (.Compare a [.NotIn] [.Name x p] pos) (iQ fs ga):=
 let ⟨_,_,h1,h2,h3⟩:=h;Gg h2 h3 hg h1 hdb ha hmk
theorem Ea {x:Str}{a:Expr}{ga:GE}{p:Pos}{fs:List (Str×Nat)}(h:∃ad kvs,X.mg x=some (.ref ad)/\fu X.K X.w.params ad kvs/\dX fa kvs fs)(hg:Gl X x)(hdb:(x==("__debug__":Str))=false)(ha:DE fa X a ga)(hmk:behindInMarks .NotIn (.Name x p)=false):DT fa X (.Compare a [.NotIn] [.Name x p] pos) (aC (iQ fs ga)):=
 let ⟨_,_,h1,h2,h3⟩:=h;Gs h2 h3 hg h1 hdb ha hmk
theorem D0 {X:Cx}{n:Nat}(h:bu (n+4) X.A):Rm X:=by have:=h.un;show X.A.units+100<cLine;omega
end
end LD
namespace LD
open PySem PySem.Spec PyProof.Rows L2
theorem iR {α β:Type}{f g:α->Option β}:∀{l:List α},(∀x∈l,f x=g x)->l.filterMap f=l.filterMap g
 |[],_=>rfl
 | a :: l, h => by
   rw [OM,OM,h a Ni,iR (l:=l) fun x hx=>h x (MV _ hx)]
theorem qa (n:Nat)(xs:List MG)(h:xs.length=n):(List.range n).filterMap (fun (k:Nat)=>xs[n-1-k]?)=xs.reverse:=by
 have e:∀k∈List.range n,xs[n-1-k]?=some (xs.reverse.getD k .none):=fun k hk=>by
  have hk:=List.mem_range.mp hk
  rw [NU,List.getElem?_reverse (by omega),h,Nc (by omega)]
  simp
 have:(List.range n).filterMap (fun (k:Nat)=>xs[n-1-k]?)=(List.range n).map fun k=>xs.reverse.getD k .none:=by
  rw [iR (g:=fun k=>some (xs.reverse.getD k .none)) e]
  simp
 rw [this]
 refine List.ext_getElem? fun i=>?_
 rw [Nv]
 by_cases hi:i<n
 ·rw [OL hi]
  show some (xs.reverse.getD i .none)=_
  rw [NU,Nc (show i<xs.reverse.length by simp;omega)]
  simp
 ·rw [Oj (by simp;omega),Oj (by simp;omega)]
  rfl
theorem qE (its:List MG):slicePick its.toArray none none (some (-1))=its.reverse.toArray:=by
 unfold slicePick sliceBounds sliceRange
 simp only [Option.getD_some,MP]
 have e1:¬ ((-1:Int) > 0):=by decide
 simp only [e1,if_false]
 have e2:(if (its.length:Int)-1 > -1 then ((its.length:Int)-1 - -1 - -1-1) / (- -1) else 0).toNat=its.length:=by
  split
  ·simp
  ·omega
 rw [e2,List.filterMap_map,<- qa its.length its rfl]
 congr 1
 refine iR fun k hk=>?_
 have hk:=List.mem_range.mp hk
 have e3:((its.length:Int)-1+-1*(k:Int)).toNat=its.length-1-k:=by omega
 show its.toArray[((its.length:Int)-1+-1*(k:Int)).toNat]?=_
 rw [e3]
 simp
section
variable {prog:Na}{w:Nd}{A:NL}{E:MG->MI->Prop}{s:MI}
theorem mE {t sl:Addr}{items:Array MG}{k:Tok}{Q:MG->MI->Prop}(ht:IsTup s.heap t items)(hs:s.heap.IsSliceOf sl .none .none (.int (-1) k))
 (h:Q (.ref s.heap.objs.size) {s with heap:=s.heap.push {cls:=.type "tuple",data:=.seq items.toList.reverse.toArray}})
 (hsz:items.size<=sizeLine):wpAny (model prog w) A (getItem (.ref t) (.ref sl)) Q E s:=by
 have htake:sizeOk (.seq items.toList.reverse.toArray):=by
  show items.toList.reverse.toArray.size<=sizeLine
  simpa using hsz
 obtain ⟨os,hos,hcs,hds⟩:=id hs
 have hTs:s.TypeIs (.ref sl) "slice":=⟨os,hos,hcs⟩
 unfold getItem
 try with_reducible refine tqo ?_
 first|refine tqa (tqb ?_)|skip
 refine tqa (wpAny_sequenceKey ht.typeIs (by decide) ?_)
 refine tqa (wpAny_callSpecial?_slot (name:=Str.ofString "__getitem__") ht.typeIs Nw
  (wpAny_call_entry Nw ht.typeIs entry_tuple_getitem ?_ (args_tuple_getitem _ _)))
 show wpAny _ _ (Builtin.Tuple.tupleItemsOf (.ref t) >>= _) _ _ s
 refine tqa (tupleItemsOf_ ht ?_)
 refine tqa (wpAny_typeOf hTs ?_)
 rw [if_pos (by decide)]
 unfold Builtin.Slice.sliceApplied Builtin.Slice.sliceFields
 refine tqa (tqa (tqa (tqf hos hds (x:=.none) rfl (tqa (tqf hos hds (x:=.none) rfl (tqa (tqf hos hds (x:=.int (-1) k) rfl (tqb ?_))))))))
 refine tqa (slicePart_int ?_)
 show wpAny _ _ (if ((-1:Int)==0)=true then _ else _) _ _ s
 rw [if_neg (by decide)]
 refine tqa (slicePart_none (tqa (slicePart_none (tqa (tqb ?_)))))
 have ea:Builtin.Slice.sliceAdjust none none (-1) (items.size:Int)=((items.size:Int)-1,-1):=by simp [Builtin.Slice.sliceAdjust]
 have ep:Builtin.Slice.slicePlaces ((items.size:Int)-1) (-1) (-1)=items.size:=by
  unfold Builtin.Slice.slicePlaces
  rw [if_neg (by decide)]
  split
  ·simp
  ·omega
 show wpAny _ _ (match Builtin.Slice.sliceAdjust none none (-1) (items.size:Int) with|(lo,hi)=>pure (lo,(-1:Int),Builtin.Slice.slicePlaces lo hi (-1))) _ _ s
 rw [ea]
 show wpAny _ _ (pure ((items.size:Int)-1,(-1:Int),Builtin.Slice.slicePlaces ((items.size:Int)-1) (-1) (-1))) _ _ s
 rw [ep]
 refine tqb ?_
 have hno:¬ ((((items.size:Int)-1)==0&&(-1:Int)==1&&items.size==items.size)=true):=by simp
 show wpAny _ _ (if (((items.size:Int)-1)==0&&(-1:Int)==1&&items.size==items.size)=true then _ else _) _ _ s
 rw [if_neg hno]
 have pick:((List.range items.size).filterMap fun (m:Nat)=>items[(((items.size:Int)-1)+(m:Int) * -1).toNat]?).toArray=items.toList.reverse.toArray:=by
  rw [<- qa items.size items.toList (by simp)]
  congr 1
  refine iR fun m hm=>?_
  have hm:=List.mem_range.mp hm
  have e3:((items.size:Int)-1+(m:Int) * -1).toNat=items.size-1-m:=by omega
  rw [e3]
  simp
 rw [pick]
 first
  |exact tqa (m:=Builtin.Tuple.tupleExact _) (wpAny_newObj_type (tqb ⟨_,rfl,tqb h⟩) htake)
  |exact tqa (m:=Builtin.Tuple.tupleExact _) (wpAny_newObj_type (tqa (tqb (tqb ⟨_,rfl,tqb h⟩))) htake)
  |exact tqa (tqa (m:=Builtin.Tuple.tupleExact _) (wpAny_newObj_type (tqb (tqb ⟨_,rfl,tqb h⟩)) htake))
  |exact tqa (tqa (m:=Builtin.Tuple.tupleExact _) (wpAny_newObj_type (tqb ⟨_,rfl,tqb h⟩) htake))
end
section
variable {fa:Fa}{X:Cx}{a st:Expr}{ga:GE}{pos p2:Pos}
noncomputable def Al (m:Bool)(x:D)(M:Mem):Res D:=match x with
 |.tup xs=>.ok (.tup xs.reverse) M
 | x => match eF M x with
   |some xs=>bf m xs.reverse M
   |none=>.bad
noncomputable def HL (m:Bool)(a:GE):GE:=fun Z M=>(a Z M).bind fun x M=>Al m x M
noncomputable def Gk (K:MF):V->Hp->VK->Prop:=fun x H Q=>∃a xs,x=.ref a/\((bV K H a xs/\∀p,H p=none->Q (.ref p) (upd H p (.lst xs.reverse)))\/(di K H a xs/\∀p,H p=none->Q (.ref p) (upd H p (.tup xs.reverse))))
theorem mU:∀{xs:List V}{us:List MG},Vals xs us->Vals xs.reverse us.reverse
 |_,_,.nil=>.nil
 | _, _, .cons p r => by
   rw [OC,OC]
   exact (mU r).append (.cons p .nil)
theorem GI {ta:TE}(ha:PE X a ta){ts:TE}(hst:PE X st ts) :
 PE X (.Subscript a (.Slice none none (some st) p2) pos) (fun σ H Q=>ta σ H fun x H1=>ts σ H1 fun y H2=>y=.int (-1)/\Gk X.K x H2 Q):=by
 intro pins s σ H Q I h
 refine Subscript_ (aN (ha pins s σ H _ I h) fun v s1 ⟨x,H1,I1,r1,q1⟩=>?_)
 refine wpAny_Slice ?_
 rw [evalPart_none]
 refine tqb ?_
 refine tqb ?_
 rw [evalPart_some]
 refine aN (hst pins s1 σ H1 _ I1 q1) fun vu s3 ⟨y,H3,I3,r3,ey,q3⟩=>?_
 subst ey
 obtain ⟨k,rfl⟩:=r3
 have I4:Inv X pins σ H3 {s3 with heap:=s3.heap.push {cls:=.type "slice",data:=.fields #[.none,.none,.int (-1) k]}}:=I3.kept (t':=s3.toks) fun b ob q=>MJ _ q
 have hsl:(s3.heap.push {cls:=.type "slice",data:=.fields #[.none,.none,.int (-1) k]}).IsSliceOf s3.heap.objs.size .none .none (.int (-1) k):=Heap.IsSliceOf.new ..
 obtain ⟨b,xs,rfl,q⟩:=q3
 cases r1
 have key:∃T id,typeLookup (.type T) "__getitem__"=pure (some (.builtin id))/\Shared.TypeIs {s3 with heap:=s3.heap.push {cls:=.type "slice",data:=.fields #[.none,.none,.int (-1) k]}} (.ref b) T/\wpAny (model X.prog X.w) X.A (getItem (.ref b) (.ref s3.heap.objs.size)) (EP X pins σ Q) X.xe {s3 with heap:=s3.heap.push {cls:=.type "slice",data:=.fields #[.none,.none,.int (-1) k]}}:=by
  rcases q with ⟨hx,q⟩|⟨hx,q⟩
  ·obtain ⟨its,r,ht,hz⟩:=I4.list hx
   have hlen:=r.length
   refine ⟨"list",_,slot_list_getitem.lookup,ht.isList.typeIs,?_⟩
   refine wpAny_getItem_list_slice ht.isList hsl .none .none (.int (-1) k) (by decide) ?_ (by rw [MP]<;>omega)
   rw [qE]
   refine ⟨.ref _,_,I4.laid (t':=s3.toks) (o:=.lst xs.reverse) (fun b ob q=>MJ _ q) (MN _) ?_,rfl,q _ (I4.hok.fresh (MN _))⟩
   exact ⟨by simpa using hz,_,0,mU r,M8 _ rfl⟩
  ·obtain ⟨its,r,ht,hz⟩:=I4.tuple hx
   have hlen:=r.length
   refine ⟨"tuple",_,Nw.lookup,ht.typeIs,?_⟩
   refine mE ht hsl ?_ (by rw [MP,<- hlen];exact hz)
   refine ⟨.ref _,_,I4.laid (t':=s3.toks) (o:=.tup xs.reverse) (fun b ob q=>MJ _ q) (MN _) ?_,rfl,q _ (I4.hok.fresh (MN _))⟩
   exact ⟨by simpa using hz,_,mU r,IsTup.new _ _⟩
 obtain ⟨T,id,hT,ht,hg⟩:=key
 show wpAny (model X.prog X.w) X.A (subscriptTail a (.Slice none none (some st) p2) (.ref b) (.ref s3.heap.objs.size)) (EP X pins σ Q) X.xe {s3 with heap:=s3.heap.push {cls:=.type "slice",data:=.fields #[.none,.none,.int (-1) k]}}
 exact tail_any (ops:=[.ref b,.ref s3.heap.objs.size]) ht hT hg (by with_unfolding_all rfl)
theorem Jh (m:Bool){pc pu:Pos}{k:Nat}(ha:DE fa X a ga):DE fa X (.Subscript a (.Slice none none (some (.UnaryOp .USub (.Constant (.int 1) k pc) pu)) p2) pos) (HL m ga):=
 br (GI ha (B7 wO xO)) fun σ H Q ⟨μ,Z,M,hE,hM,h⟩=>t1 hE hM h fun x M1 v H1 μ1 x1 hE1 hM1 r1 h1=>by
  refine ⟨1,rfl,rfl,?_⟩
  have lst:∀(ds:List D) (b:Addr) (vs:List V),bV X.K H1 b vs->aF fa X.K μ1 H1 ds vs->ag (bf m ds.reverse M1) (aY fa X.K μ H Q)->Gk X.K (.ref b) H1 Q:=fun ds b vs hs hr h1=>by
   obtain ⟨_,q⟩:=fN hM1 hr.reverse (jz h1 x1)
   exact ⟨b,vs,rfl,.inl ⟨hs,q⟩⟩
  cases x with
  | tup ds =>
    obtain ⟨b,vs,rfl,hs,hr⟩:=r1
    exact ⟨b,vs,rfl,.inr ⟨hs,gQ hM1 hr.reverse (aY.ext h1 x1)⟩⟩
  | lst ds =>
    obtain ⟨b,vs,rfl,hs,hr⟩:=r1
    exact lst ds b vs (bV.of hs.1) hr h1
  | frz ds =>
    obtain ⟨b,vs,rfl,hs,hr⟩:=r1
    exact lst ds b vs (hs.elim (fun ⟨o,z⟩=>.inl (.inr ⟨o,z⟩)) .inr) hr h1
  | cell k =>
    obtain ⟨b,rfl,hk⟩:=r1
    obtain ⟨ds,vs,e,hH,hr⟩:=hM1.mu_lt hk
    have h1:ag (match M1[k]? with|some xs=>bf m xs.reverse M1|none=>.bad) (aY fa X.K μ H Q):=h1
    rw [e] at h1
    exact lst ds b vs (bV.of hH) hr h1
  |_=>exact h1.elim
end
end LD
namespace LD
open PySem PySem.Spec PyProof.Rows L2
theorem mm {fa:Fa}{mg:Str->Option MG}{i:Nat}{x:Str}{f:Addr}(e:fa i=some f)(m:mg x=some (.ref f)):∀ad,fa i=some ad->mg x=some (.ref ad):=fun ad h=>by rw [e] at h;cases h;exact m
theorem us1 {α:Type}{p:List α->Prop}(h:∀a,p [a])(us:List α)(hl:us.length=1):p us:=by
 obtain ⟨a,rfl⟩:=List.length_eq_one_iff.mp hl;exact h a
theorem Ki {α:Type}{p:List α->Prop}(h:∀a b,p [a,b]):∀(us:List α) (hl:us.length=2),p us
 |[a,b],_=>h a b
theorem us3 {α:Type}{p:List α->Prop}(h:∀a b c,p [a,b,c]):∀(us:List α) (hl:us.length=3),p us
 |[a,b,c],_=>h a b c
theorem us4 {α:Type}{p:List α->Prop}(h:∀a b c d,p [a,b,c,d]):∀(us:List α) (hl:us.length=4),p us
 |[a,b,c,d],_=>h a b c d
theorem yk {K:MF}{h:Heap}{mg:Str->Option MG}{x:Str}{f:Addr}(X:K.In h)(G:h.Ns mainGlobals mg)(a:PySem.W.nsIn K mainGlobals x=some (some (.ref f))):mg x=some (.ref f):=NW X G a
theorem yu {P:N2}:ON (nH P) [] []:=.nil
theorem fU {P:N2}{x:Str}{t:Tok}{a:Addr}{es:List OI}{kvs:List (Str×Addr)}(h:ON (nH P) es kvs):ON (nH P) (⟨PyData.keyHash P x,.str x t,.ref a⟩::es) ((x,a)::kvs):=.cons ⟨t,rfl⟩ h
noncomputable def B1 (K:MF):Sp:=fun vs H Q _=>∃(a:Addr) (ns:List Int),vs=[.ref a]/\bV K H a (ns.map V.int)/\wA H/\ns.length<=63/\∀H',Q (.bl true) H'
theorem Hs {fa:Fa}{P:Na}{w:Nd}{K:MF}{mg:Str->Option MG}{base:Heap}{Pg:Nat->Option Df}{n f:Nat}{ad:Addr}{d:Df}{fd:OG}{N:List Str}{st:Stmt}{x qual y:Str}(h:∀f d,Pg f=some d->wD fa P w K mg base f d)
 (hl:∀ns:List Int,ns.length<=63->∃M,ak Pg (n+1) f [.frz (ns.map D.int)] []=.ok (.bl true) M) (e:Pg f=some d) (F:oJ K x qual st ad fd) (S:f6 N [y] (aL st)) (hs:d.slots=N.length)
 (hbody:∀(call:Call) (n:Nat) (cdv:MG) (A:NL) (outer:List Nx) (s:MI) (H:Hp) (E:XK),(∀f,dI fa P w K mg base n f (call f))->bu (2*n+5) (A.deeper (envOfC qual (aL st) s.heap.objs.size ad cdv))->
  kU fa (eA (fv P w) P w K mg base N qual (aL st) ad cdv A outer s H E) (cx st) (d.body call)):fB P w K mg base (fv P w) (2*n+5+1) ad fd [y] (B1 K):=by
 have eq:∀ds M,ak Pg (n+1) f ds M=fQ (ak Pg n) d ds M:=fun ds M=>by show (match Pg f with|none=>Res.bad|some d=>fQ (ak Pg n) d ds M)=_;rw [e]
 refine ph F S (fun vs H Q E hsp=>?_) fun cdv A outer s H vs Q E hr hsp=>⟨_,hbody (ak Pg n) n cdv A outer s H E (tj h n) hr,?_⟩
 ·obtain ⟨a,ns,rfl,_⟩:=hsp;rfl
 ·obtain ⟨a,ns,rfl,hS,hO,hn,q⟩:=hsp
  obtain ⟨M',e'⟩:=hl ns hn
  rw [eq] at e'
  have rp:aF fa K ⟨fun _=>none,[],fun _=>none⟩ H [.frz (ns.map D.int)] [.ref a]:=by
   refine ⟨.ref a,[],rfl,⟨a,ns.map V.int,rfl,?_,aF.ints ns⟩,rfl⟩
   rcases hS with (z|⟨o,z⟩)|z
   ·rcases hO a with y|⟨o,xs,y⟩
    ·rw [y] at z;cases z
    ·rw [y] at z;cases z
   ·exact .inl ⟨o,z⟩
   ·exact .inr z
  refine qr (μ:=⟨fun _=>none,[],fun _=>none⟩) (M:=[]) hs ⟨fun k ds z=>by simp at z,fun _ _=>rfl,fun _ _=>rfl,(fun _ _ _ z=>nomatch z),(fun _ _ _ z=>nomatch z),(fun _ _ z=>nomatch z),(fun _ z=>nomatch z)⟩ rp ?_
  rw [e']
  intro v H' μ' _ _ r
  obtain rfl:v=.bl true:=r
  exact q H'
theorem uL {K:MF}{h:Heap}{mg:Str->Option MG}{x:Str}{ad:Addr}{P:N2}{es:Array OI}{n:Nat}{kvs:List (Str×Addr)}{fa:Fa}{fs:List (Str×Nat)}(X:K.In h)(G:h.Ns mainGlobals mg)(a:PySem.W.nsIn K mainGlobals x=some (some (.ref ad)))
 (l:K.lookup ad=some {cls:=.type "dict",data:=.dict es n}) (he:ON (nH P) es.toList kvs) (nd:(kvs.map (·.1)).Nodup) (ns:(ad==sysModules)=false) (dk:dX fa kvs fs):∃ad kvs,mg x=some (.ref ad)/\fu K P ad kvs/\dX fa kvs fs:=
 ⟨ad,kvs,NW X G a,⟨⟨es,n,l,he⟩,nd,ns⟩,dk⟩
end LD
namespace LD
open PySem PySem.Spec PyProof.Rows L2
theorem xo (lo hi:Option Int)(n:Nat):Builtin.Str.strSliceIndices lo hi 1 n=(List.range (HT.aJ n n hi-HT.aJ n 0 lo)).map (HT.aJ n 0 lo+·):=by
 rw [<- sliceRange_one]
 unfold Builtin.Str.strSliceIndices
 simp only [show (1:Int) > 0 by decide,if_true]
 congr 1
 ·cases lo with
  |none=>rfl
  | some i =>
    simp only [HT.aJ]
    split<;>omega
 ·cases hi with
  |none=>rfl
  | some i =>
    simp only [HT.aJ]
    split<;>omega
noncomputable def wc (z:Str)(l h:Nat):Str:=⟨(cut z.cps.toList l h).toArray⟩
section
variable {fa:Fa}{X:Cx}{a b:Expr}{ga gb:GE}{pos p2:Pos}{tg:Expr}
theorem sg {v:MG}{o:Option Int}(h:IsPart v o):∃p:Option (Int×Tok),v=partValue p/\p.map (·.1)=o:=by
 cases h with
 |none=>exact ⟨none,rfl,rfl⟩
 |int i t=>exact ⟨some (i,t),rfl,rfl⟩
theorem FV:kT X (fun x lo hi H Q=>∃z:Str,x=.str z/\z.cps.size<=sizeLine/\Q (.str (wc z (HT.aJ z.cps.size 0 lo) (HT.aJ z.cps.size z.cps.size hi))) H):=by
 intro pins s σ H x v vl vu lo hi sl Q I rx hs pl pu h
 obtain ⟨z,rfl,hz,q⟩:=h
 obtain ⟨t,rfl⟩:=rx
 obtain ⟨l,rfl,el⟩:=sg pl
 obtain ⟨u,rfl,eu⟩:=sg pu
 refine ⟨"str",_,slot_str_getitem.lookup,typeIs_str s z t,?_⟩
 refine wpAny_getItem_str_slice (l:=l) (u:=u) (st:=none) hs rfl ?_
 have e:(slicePicked z l u none).filterMap (z.cps[·]?)=cut z.cps.toList (HT.aJ z.cps.size 0 lo) (HT.aJ z.cps.size z.cps.size hi):=by
  unfold slicePicked
  rw [el,eu]
  show (Builtin.Str.strSliceIndices lo hi 1 z.cps.size).filterMap _=_
  rw [xo,pick_run]
  rfl
 unfold sliceMade
 split
 ·next c=>
  have c':(slicePicked z l u none).length=z.length:=by simpa using c
  have e2:wc z (HT.aJ z.cps.size 0 lo) (HT.aJ z.cps.size z.cps.size hi)=z:=by
   have hl:HT.aJ z.cps.size z.cps.size hi-HT.aJ z.cps.size 0 lo=z.cps.size:=by
    unfold slicePicked at c'
    rw [el,eu] at c'
    have c':(Builtin.Str.strSliceIndices lo hi 1 z.cps.size).length=z.cps.size:=c'
    rw [xo] at c'
    simpa using c'
   have hh:HT.aJ z.cps.size z.cps.size hi<=z.cps.size:=by
    cases hi with
    |none=>exact MN _
    |some i=>simp only [HT.aJ];split<;>omega
   have h0:HT.aJ z.cps.size 0 lo=0\/z.cps.size=0:=by omega
   unfold wc cut
   rw [hl]
   rcases h0 with h0|h0
   ·rw [h0]
    rcases z with ⟨zs⟩
    show (⟨(List.take zs.size (List.drop 0 zs.toList)).toArray⟩:Str)=⟨zs⟩
    rw [List.drop_zero,N4 (by simp)]
   ·have:z.cps=#[]:=Array.eq_empty_of_size_eq_zero h0
    rcases z with ⟨zs⟩
    simp at this
    subst this
    simp
  rw [e2] at q
  exact ⟨.str z,H,I,⟨t,rfl⟩,q⟩
 ·rw [e]
  refine ⟨?_,.str _,H,I.tok _,⟨_,rfl⟩,q⟩
  have:(cut z.cps.toList (HT.aJ z.cps.size 0 lo) (HT.aJ z.cps.size z.cps.size hi)).length<=z.cps.size:=by
   unfold cut
   rw [N8,List.length_drop]
   simp
   omega
  show (cut z.cps.toList _ _).toArray.size<=sizeLine
  simp at this ⊢
  omega
noncomputable def CC (hl hh:Bool)(a lo hi:GE):GE:=fun Z M=>(a Z M).bind fun x M=>(lo Z M).bind fun l M=>(hi Z M).bind fun h M=>if dn hl l&&dn hh h then (match x with
 | .str z => if z.cps.size <= sz then (match aJ z.cps.size 0 l, aJ z.cps.size z.cps.size h with
   |some l,some h=>.ok (.str (wc z l h)) M
   |_,_=>.bad) else .bad
 |_=>.bad) else .bad
theorem Ge (hl hh:Bool){lo hi:Option Expr}{gl gh:GE}(ha:DE fa X a ga)(hlo:DO fa X lo hl gl)(hhi:DO fa X hi hh gh):DE fa X (.Subscript a (.Slice lo hi none p2) pos) (CC hl hh ga gl gh):=
 br (r9 FV ha hlo hhi) fun σ H Q ⟨μ,Z,M,hE,hM,h⟩=>t1 hE hM h fun x M1 v H1 μ1 x1 hE1 hM1 r1 h1=>by
  obtain ⟨l,M2,e2,h2⟩:=aI h1
  obtain ⟨u,M3,e3,h3⟩:=aI h2
  split at h3
  ·next c=>
   rw [MM] at c
   obtain ⟨ol,el⟩:=part_of c.1
   obtain ⟨ou,eu⟩:=part_of c.2
   refine ⟨μ1,Z,M1,hE1,hM1,?_⟩
   rw [e2]
   refine ⟨ol,c.1,el,fun H2 μ2 x2 hM2=>⟨μ2,Z,M2,hE1.ext x2,hM2,?_⟩⟩
   rw [e3]
   refine ⟨ou,c.2,eu,fun H3 μ3 x3 hM3=>?_⟩
   cases x with
   | str z =>
     obtain rfl:v=.str z:=r1
     dsimp only at h3
     split at h3
     ·next hz=>
      simp only [mY,el,eu,Option.map_some] at h3
      exact ⟨z,rfl,by rw [<- cV];exact hz,aZ (v:=.str _) hM3 (aY.ext h3 ((x1.trans x2).trans x3)) rfl⟩
     ·exact h3.elim
   |_=>exact h3.elim
  ·exact h3.elim
theorem Er:bz X (compareOp .IsNot) (fun x y H Q=>∃k,x=.bl k/\y=.bl true/\Q (.bl (!k)) H):=by
 intro pins s σ H x y v u Q I rx ry h
 obtain ⟨k,rfl,rfl,q⟩:=h
 cases rx
 cases ry
 refine tqb (bh I q ?_)
 cases k<;>rfl
noncomputable def vX (a b:GE):GE:=fun Z M=>(a Z M).bind fun x M=>(b Z M).bind fun y M=>match x,y with
 |.bl k,.bl true=>.ok (.bl (!k)) M
 |_,_=>.bad
theorem Gr (ha:DE fa X a ga)(hb:DE fa X b gb)(hm:behindInMarks .IsNot b=false):DT fa X (.Compare a [.IsNot] [b] pos) (aC (vX ga gb)):=
 jW (oS Er ha hb hm) fun σ H Q ⟨μ,Z,M,hE,hM,h⟩=>by
  obtain ⟨z,M3,e,q⟩:=aI h
  have h':ag (vX ga gb Z M) (fun d M=>d=z/\M=M3):=by rw [e];exact ⟨rfl,rfl⟩
  refine t2 hE hM h' fun x y M2 v u H2 μ2 x2 hE2 hM2 r1 r2 h2=>?_
  cases x with
  | bl k =>
    cases y with
    | bl j =>
      cases j with
      | true =>
        obtain ⟨rfl,rfl⟩:=h2
        exact ⟨k,r1,r2,!k,rfl,q H2 μ2 x2 hM2⟩
      |false=>exact h2.elim
    |_=>exact h2.elim
  |_=>cases y<;>exact h2.elim
noncomputable def signs (z:Str):List D:=z.cps.toList.map fun c=>.str ⟨#[c]⟩
noncomputable def II (z:Str):It:=⟨fun i _=>i<z.cps.size,fun i H x H'=>H'=H/\∃c,z.cps[i]?=some c/\x=.str ⟨#[c]⟩,fun i _=>z.cps.size<=i⟩
theorem rA {P:Na}{w:Nd}{K:MF}{n:String}(hn:["enumerate","zip","dict_itemiterator","dict_reverseitemiterator","odict_iterator","itertools.zip_longest","itertools.pairwise"].contains n=false)(it:Addr)(z:Str)(t:Tok)
 (W:∀A':NL,A'.handled=none->Walks P w A' it [it] [it] z.cps.size (SignAt z) (fun i h=>h.IsStrIter it n z t i))
 (S:∀(A:NL) (i:Nat) (s:MI) (Q:MG->MI->Prop) (E:MG->MI->Prop),s.heap.IsStrIter it n z t i->Q (.ref it) s->wpAny (model P w) A (pyIter (.ref it)) Q E s)
 (D:∀(A:NL) (hh:A.handled=none) (i:Nat) (s:MI) (Q:Option MG->MI->Prop) (E:MG->MI->Prop),s.heap.IsStrIter it n z t i->z.cps.size<=i->(∀h',(∀b o,b≠it->s.heap.get? b=some o->h'.get? b=some o)->Q none {s with heap:=h'})->wpAny (model P w) A (pyNext (.ref it)) Q E s) :
 Turn P w K tg (II z) [it] it (fun i h=>h.IsStrIter it n z t i) where
 mem:=by simp
 obj:=fun i h st b hb=>by
  have e:b=it:=by simpa using hb
  subst e
  obtain ⟨o,e,c,d⟩:=st
  exact ⟨o,e,fun v z=>by rw [d] at z;cases z⟩
 keep:=fun i h h' st k=>let ⟨o,e,r⟩:=st;⟨o,k it (by simp) o e,r⟩
 item:=by
  intro X hP hw hK hc i pins s σ H E I hf st hg
  subst hP hw hK
  obtain ⟨f0,f1,f2,f3,f4,f5⟩:=hf it (by simp)
  refine (W X.A (I.ok.hd hc)).item i s _ _ hg st fun v h' tk hv st' kk=>?_
  obtain ⟨c,u,hc',rfl⟩:=hv
  have I1:Inv X pins σ H {s with heap:=h',toks:=tk}:=I.turned (fun b o hb e=>kk b o (by simpa using hb) e) f0 f1 f3 f4 f5
  obtain ⟨o,e,co,d⟩:=id st'
  exact ⟨_,rfl,om (s:={s with heap:=h',toks:=tk}) e co d hn ⟨.str ⟨#[c]⟩,H,I1,⟨u,rfl⟩,⟨rfl,c,hc',rfl⟩,st',fun b hb=>(hf b hb).1⟩⟩
 done:=by
  intro X hP hw hK hc i pins s σ H E I hf st hg
  subst hP hw hK
  obtain ⟨f0,f1,f2,f3,f4,f5⟩:=hf it (by simp)
  exact D X.A (I.ok.hd hc) i s _ _ st hg fun h' eb=>⟨rfl,I.turned (t':=s.toks) (fun b o hb e=>eb b o hb e) f0 f1 f3 f4 f5⟩
 self:=fun A i s Q E st h=>S A i s Q E st h
theorem GC {l:Expr}{tl:TE}(hl:PE X l tl):PI X tg l (fun σ H R=>tl σ H fun x H1=>∃z,x=.str z/\R (II z) H1):=by
 intro pins s σ H R I h
 refine aN (hl pins s σ H _ I h) fun v s1 ⟨x,H1,I1,r1,q1⟩=>?_
 obtain ⟨z,rfl,q⟩:=q1
 obtain ⟨t,rfl⟩:=r1
 have fp:∀b∈[s1.heap.objs.size],fA X pins H1 b:=fun b hb=>by
  have e:b=s1.heap.objs.size:=by simpa using hb
  subst e
  exact I1.fpOk (MN _) (I1.hok.fresh (MN _))
 cases ha:z.cps.all (· < 128)
 ·refine wpAny_pyIter_wide ha ?_
  exact ⟨s1.heap.objs.size,[s1.heap.objs.size],_,_,H1,rfl,I1.kept (t':=s1.toks) fun b o e=>MJ _ e,rA (n:="str_iterator") rfl _ z t (fun A' h=>Walks.strWide h _ z t) (fun A i s Q E st h=>wpAny_pyIter_striter_wide st h) (fun A hh i s Q E st hi k=>wpAny_pyNext_wide_end hh st (by simp;omega) k),⟨_,M8 _ rfl,rfl,rfl⟩,fp,q⟩
 ·refine wpAny_pyIter_ascii ha ?_
  exact ⟨s1.heap.objs.size,[s1.heap.objs.size],_,_,H1,rfl,I1.kept (t':=s1.toks) fun b o e=>MJ _ e,rA (n:="str_ascii_iterator") rfl _ z t (fun A' h=>Walks.strAscii h _ z t) (fun A i s Q E st h=>wpAny_pyIter_striter_ascii st h) (fun A hh i s Q E st hi k=>wpAny_pyNext_ascii_end hh st (by simp;omega) k),⟨_,M8 _ rfl,rfl,rfl⟩,fp,q⟩
noncomputable def CD (ga:GE):Env->Mem->Res Walk:=fun Z M=>(ga Z M).bind fun x M=>match x with
 |.str z=>.ok (fun _=>some (signs z)) M
 |_=>.bad
theorem zl {μ0:Mu}{H0:Hp}(z:Str):cT fa X.K μ0 H0 (fun _=>some (signs z)) (II z):=fun μ H M ds x hM e=>by
 cases e
 refine ⟨fun i d hd=>?_,fun i hi=>(show z.cps.size<=i by simpa [signs] using hi)⟩
 have hd:(signs z)[i]?=some d:=hd
 unfold signs at hd
 rw [Nv] at hd
 cases e:z.cps.toList[i]? with
 |none=>rw [e] at hd;cases hd
 | some c =>
   rw [e] at hd
   have e':D.str ⟨#[c]⟩=d:=MO hd
   subst e'
   have e2:z.cps[i]?=some c:=by simpa using e
   refine ⟨(NH.mp e2).1,fun y H' ⟨e1,c',e3,e4⟩=>?_⟩
   rw [e2] at e3
   cases e3
   subst e1 e4
   exact ⟨.refl,hM,rfl⟩
theorem EZ (ha:DE fa X a ga):DI fa X tg a (CD ga):=fun pins s σ H R I ⟨μ,Z,M,hE,hM,h⟩=>by
 obtain ⟨x,M1,e,q⟩:=aI h
 refine GC ha pins s σ H R I ⟨μ,Z,M,hE,hM,?_⟩
 rw [e]
 intro v H1 μ1 x1 m1 r1
 cases x with
 | str z =>
   obtain rfl:v=.str z:=r1
   exact ⟨z,rfl,q _ H1 μ1 x1 m1 (zl z)⟩
 |_=>exact q.elim
end
end LD
namespace LD
open PySem PySem.Spec PySem.Calls PyProof.Rows PySem.W
section
variable {prog:Na}{w:Nd}{A:NL}{E:MG->MI->Prop}{s:MI}{K:Frag}{x C:Addr}{ox:Obj}{od:Option Obj}{name:Str}
noncomputable def Fq (K:Frag)(C:Addr):Bool:=findIn K (.ref C) "__getattribute__"==some (some (.builtin "BaseException.__getattribute__"))&&findIn K (.ref C) "__getattr__"==some none&&mroIn K C (.type "BaseException")==some true&&mroIn K C (.type "object")==some true &&
 findIn K (.ref C) "__class__"==some (some (.builtin "object.__class__"))&&specialIn K (.builtin "object.__class__") "__get__"==some (some (.builtin "getset_descriptor.__get__"))&&takesIn K (.builtin "object.__class__")==some true
end
end LD
namespace LD
open PySem PySem.Spec PyProof.Rows L2
noncomputable def dg (f:Nat)(c:Call)(s:GA):GE:=fun Z M=>match s Z M with
 |.ok ds M=>c f ds M
 |_=>.bad
noncomputable def u9 (k:D->Mem->Res Fl)(Z:Env):Res D->Res Fl
 |.ok d M=>k d M
 |.err x M=>.ok (.exc x Z) M
 |.bad=>.bad
noncomputable def iz (a:GE):GS:=fun Z M=>u9 (fun _ M=>.ok (.next Z) M) Z (a Z M)
noncomputable def hV (t:cy)(a:GE):GS:=fun Z M=>u9 (fun x M=>(bK M (bN t x Z)).bind fun ρ1 M=>.ok (.next ρ1) M) Z (a Z M)
noncomputable def vo (a:GE):GS:=fun Z M=>u9 (fun x M=>.ok (.ret x) M) Z (a Z M)
noncomputable def vY (t:GT)(a b:GE):GE:=fun Z M=>match t Z M with
 |.ok k M=>if k then a Z M else b Z M
 |_=>.bad
noncomputable def eE (c:Nat)(s:GA):GS:=fun Z M=>match s Z M with
 |.ok ds M=>if ds.length<=sz then .ok (.exc (.exc c none) Z) M else .bad
 |_=>.bad
noncomputable def Kn (fa:Fa)(X:Cx)(g:GE):TE:=fun σ H Q=>∃μ Z M,a8 fa X.K μ H σ Z/\RelM fa X.K μ H M/\gr (g Z M) (aY fa X.K μ H Q) (fun x M'=>XW fa X μ H x Z M')
abbrev DX (fa:Fa)(X:Cx)(e:Expr)(g:GE):Prop:=PE X e (Kn fa X g)
section
variable {fa:Fa}{X:Cx}{a b:Expr}{ga gb:GE}{ta:GT}{pos p:Pos}{es:List Expr}{gs:GA}{n:Nat}
theorem x_call (f:Nat){x:Str}{call:Call}(C:∀f,dI fa X.prog X.w X.K X.mg X.base n f (call f))(hr:bu (2*n+4) X.A)(hex:X.ex=[])(hg:Gl X x)(hm:∀ad,fa f=some ad->X.mg x=some (.ref ad))(hs:DA fa X (a::es) gs)
 (hdb:(x==("__debug__":Str))=false) (he:notStar a=true) (hpl:es.all notStar=true):DX fa X (.Call (.Name x p) (a::es) [] pos) (dg f call gs):=by
 intro pins s σ H Q I ⟨μ,Z,M,hE,hM,h⟩
 unfold dg at h
 cases eg:gs Z M with
 |err=>rw [eg] at h;exact h.elim
 |bad=>rw [eg] at h;exact h.elim
 | ok ds M1 =>
   rw [eg] at h
   have h:gr (call f ds M1) (aY fa X.K μ H Q) (fun x M'=>XW fa X μ H x Z M'):=h
   rcases C f with hb|⟨ad,fd,ps,h1,h2,h3,h4,F⟩
   ·rw [hb] at h;exact h.elim
   ·have hl:ds.length=ps.length:=by
     by_cases hl:ds.length=ps.length
     ·exact hl
     ·rw [h4 ds M1 hl] at h;exact h.elim
    refine wpAny_Call_Name_kw (fj I hg (hm ad h1) ?_ hdb)
    refine Og (h₀:=X.base) I.ok.mod.kin h2 (aN (hs pos pins s σ H (fun vs H1=>∃μ1,Ext μ H μ1 H1/\RelM fa X.K μ1 H1 M1/\aF fa X.K μ1 H1 ds vs) I ⟨μ,Z,M,hE,hM,by rw [eg];exact fun vs H1 μ1 x1 m1 r1=>⟨μ1,x1,m1,r1⟩⟩) fun us s1 ⟨vs,H1,I1,r,μ1,x1,m1,r1⟩=>⟨I1.kIn,?_⟩) (bg he) (bW hpl)
    have hsp:ur fa X.K ps.length (call f) vs H1 Q fun Cv dx H'=>∃y M' μ' C' c p,Cv=.ref C'/\Ext μ1 H1 μ' H'/\RelM fa X.K μ' H' M'/\y=.exc c p/\fa (eI c)=some C'/\tP H' c dx p/\XW fa X μ H y Z M':=by
     refine ⟨by rw [r1.length];exact hl,μ1,M1,ds,m1,r1,?_⟩
     cases ec:call f ds M1 with
     |ok d M2=>rw [ec] at h;exact aY.ext h x1
     |err y M2=>rw [ec] at h;exact fun C dx c p H' μ' y' m ex hc hn=>⟨_,M2,μ',C,c,p,rfl,y',m,ex,hc,hn,h⟩
     |bad=>rw [ec] at h;exact h.elim
    have hl2:us.length=ps.length:=by rw [<- r.length,r1.length];exact hl
    have hb:=h3 s1 us I1.kIn (by simpa using hl2)
    rw [OA] at hb
    refine wpAny_call (codeAny_mono (F.run X.A X.stack s1 H1 ⟨us,[]⟩ us vs Q _ hr I1.env0 hb r hsp) fun r' s' hq=>?_)
    cases r' with
    | error e =>
      unfold CR at hq
      dsimp only at hq
      obtain ⟨a',C',dx,H',rfl,I',fl,y,M',μ',C2,c,p,ec,ye,m',ey,hc,hn,hw⟩:=ql I1 hex hq
      cases ec
      exact hw pins σ H' μ' s' a' C' dx c p I' (x1.trans ye) ((hE.ext x1).ext ye) m' ey hc hn fl
    | ok fl =>
      cases fl with
      |ret u=>exact I1.after hq
      |next=>exact False.elim hq
      |brk=>exact False.elim hq
      |cont=>exact False.elim hq
theorem IU {c:Expr}(hc:DT fa X c ta)(ha:DX fa X a ga)(hb:DX fa X b gb):DX fa X (.IfExp c a b pos) (vY ta ga gb):=
 br (sd hc ha hb) fun σ H Q ⟨μ,Z,M,hE,hM,h⟩=>by
  unfold vY at h
  cases et:ta Z M with
  |err=>rw [et] at h;exact h.elim
  |bad=>rw [et] at h;exact h.elim
  | ok k M1 =>
    rw [et] at h
    refine ⟨μ,Z,M,hE,hM,?_⟩
    rw [et]
    intro H1 μ1 x1 m1
    have go:∀g:GE,gr (g Z M1) (aY fa X.K μ H Q) (fun x M'=>XW fa X μ H x Z M')->Kn fa X g σ H1 Q:=fun g q=>by
     refine ⟨μ1,Z,M1,hE.ext x1,m1,?_⟩
     cases e:g Z M1 with
     |ok d M2=>rw [e] at q;exact aY.ext q x1
     |err y M2=>rw [e] at q;exact XW.ext q x1
     |bad=>rw [e] at q;exact q
    cases k with
    |true=>exact go ga h
    |false=>exact go gb h
theorem Je (ha:DX fa X a ga)(hs:swapsWith a none pos.line X.env=pure false):DS fa X (.Expr a pos) (iz ga):=
 dY (l7 ha hs) fun D' σ H ⟨μ,Z,M,hE,hM,h⟩=>⟨μ,Z,M,hE,hM,by
  unfold iz at h
  cases e:ga Z M with
  |ok d M1=>rw [e] at h;exact fun v H1 μ1 x1 m1 r1=>h σ H1 μ1 x1 (hE.ext x1) m1
  |err x M1=>rw [e] at h;exact h
  |bad=>rw [e] at h;exact h.elim⟩
theorem F3 {tg:Expr}{t:cy}(ha:DX fa X a ga)(hg:PG X tg (gT fa X.K t))(hs:swapsWithSole [tg] a pos.line X.env=pure false)(hw:swappedStores [tg] a X.env=pure none)(h1:(assignEach [tg] X.env).map (·.2)=[assign tg X.env]) :
 DS fa X (.Assign [tg] a pos) (hV t ga):=
 dY (rY ha hg hs hw h1) fun D σ H ⟨μ,Z,M,hE,hM,h⟩=>⟨μ,Z,M,hE,hM,by
  unfold hV at h
  cases e:ga Z M with
  | ok d M1 =>
    rw [e] at h
    obtain ⟨ρ1,M2,e',q⟩:=aI h
    cases eb:bN t d Z with
    |none=>rw [eb] at e';cases e'
    | some ρ2 =>
      rw [eb] at e'
      cases e'
      exact fun v H1 μ1 x1 m1 r1=>⟨μ1,Z,_,d,ρ1,hE.ext x1,m1,r1,eb,fun σ1 hE2=>q σ1 H1 μ1 x1 hE2 m1⟩
  |err x M1=>rw [e] at h;exact h
  |bad=>rw [e] at h;exact h.elim⟩
theorem FZ (ha:DX fa X a ga):DS fa X (.Return (some a) pos) (vo ga):=
 dY (xI ha) fun D' σ H ⟨μ,Z,M,hE,hM,h⟩=>⟨μ,Z,M,hE,hM,by
  unfold vo at h
  cases e:ga Z M with
  |ok d M1=>rw [e] at h;exact h
  |err x M1=>rw [e] at h;exact h
  |bad=>rw [e] at h;exact h.elim⟩
end
abbrev lR:List MG:=[.type "ValueError",.type "Exception",.type "BaseException",.type "object"]
noncomputable def FX (K:MF)(C:Addr)(f:ClassData->Addr->List MG->String->Bool):Bool:=match K.lookup C with
 | some ⟨.type "type", _, .cls cd, sl⟩ => (match cd.mro, sl.toList with
   |.ref C'::bm,[_,_,_,_,some (.builtin n),_]=>f cd C' bm n
   |_,_=>false)
 |_=>false
theorem xB {K:MF}{h:Heap}{C:Addr}{f:ClassData->Addr->List MG->String->Bool}(X:K.In h)(q:FX K C f=true) :
 ∃bm N nm q bs hdct sn sub ab col dd k0 k1 k2 k3 k5 dl n C',f ⟨nm,bs,.ref C'::bm,N,q,hdct,sn,sub,ab,col,dl⟩ C' bm n=true/\h.get? C=some ⟨.type "type",dd,.cls ⟨nm,bs,.ref C'::bm,N,q,hdct,sn,sub,ab,col,dl⟩,#[k0,k1,k2,k3,some (.builtin n),k5]⟩:=by
 unfold FX at q
 split at q
 ·rename_i dd cd sl ho
  split at q
  ·rename_i C' bm k0 k1 k2 k3 n k5 hm hs
   obtain ⟨nm,bs,mro,ns,qn,hd,sn,sub,ab,col,del⟩:=cd
   dsimp only at hm
   subst hm
   have hsl:sl=#[k0,k1,k2,k3,some (.builtin n),k5]:=by
    obtain ⟨l⟩:=sl
    simp only at hs
    rw [hs]
   subst hsl
   exact ⟨_,_,_,_,_,_,_,_,_,_,_,_,_,_,_,_,_,_,_,q,X _ _ ho⟩
  ·cases q
 ·cases q
theorem Bd {K:MF}{h:Heap}{C:Addr}{bmB:List MG}{newId:String}(X:K.In h)(q:PySem.W.excIn K C bmB newId=true) :
 ∃bm N nm q bs hdct sn sub ab col dd k0 k1 k2 k3 k5 mN,h.get? C=some (excClassObj nm q C N bs bm hdct sn sub ab col dd k0 k1 k2 k3 k5 newId)/\h.Ns N mN/\mN "__init__"=none/\OwnTail h bmB bm:=by
 obtain ⟨bm,ns,nm,qn,bs,hd,sn,sub,ab,col,dd,k0,k1,k2,k3,k5,dl,n,C',q,ho⟩:=xB (f:=fun cd C' bm n=>C'==C&&n==newId&&!cd.hasDel&&PySem.W.tailIn K bmB bm&&PySem.W.nsOkIn K cd.ns&&PySem.W.nsIn K cd.ns "__init__"==some none) X q
 simp only [MM,beq_iff_eq,OF] at q
 obtain ⟨⟨⟨⟨⟨rfl,rfl⟩,rfl⟩,ht⟩,hok⟩,hni⟩:=q
 exact ⟨bm,ns,nm,qn,bs,hd,sn,sub,ab,col,dd,k0,k1,k2,k3,k5,_,ho,.of_isNs (PySem.W.isNs_of_in X hok),PySem.W.nsMap_none_of_in X hok hni,PySem.W.tail_of_in X ht⟩
theorem yc {P:Na}{w:Nd}{H:Hp}{h:Heap}{a:Addr}{o:HO}(x:b9 P w H h a o):∃ob,h.get? a=some ob:=by
 cases o with
 |lst xs=>obtain ⟨_,_,_,_,e⟩:=x;exact ⟨_,e⟩
 |tup xs=>obtain ⟨_,_,_,ob,e,_⟩:=x;exact ⟨_,e⟩
 |dK kvs=>obtain ⟨_,_,_,_,o,_,_,e,_⟩:=x;exact ⟨_,e⟩
 |dT kvs=>obtain ⟨_,_,_,_,o,_,_,e,_⟩:=x;exact ⟨_,e⟩
 |set S n=>obtain ⟨o,_,_,_,e,_⟩:=x;exact ⟨_,e⟩
 |ins C dx fs=>obtain ⟨_,_,_,e,_⟩:=x;exact ⟨_,e⟩
 |own y=>exact x
 |xd fs=>obtain ⟨_,⟨_,_,_,e,_⟩,_⟩:=x;exact ⟨_,e⟩
 |rng lo hi=>obtain ⟨_,_,_,e⟩:=x;exact ⟨_,e⟩
 |frz ob u=>obtain ⟨e,_⟩:=x;exact ⟨_,e⟩
 |tbl ps=>exact ⟨_,x⟩
 |met f y=>exact ⟨_,x⟩
 |ext φ=>obtain ⟨_,e,_⟩:=x;exact e
theorem nq {X:Cx}{pins:List (Addr×Obj)}{σ:L2.St}{H:Hp}{s:MI}(I:Inv X pins σ H s)(hex:X.ex=[]){e:Addr}(hn:s.heap.get? e=none):lV X e/\H e=none:=by
 refine ⟨⟨?_,fun p hp z=>?_⟩,?_⟩
 ·cases q:X.s₀.heap.get? e with
  |none=>rfl
  | some o =>
    obtain ⟨o',e'⟩:=I.base.there e o q (by rw [hex];simp)
    rw [hn] at e';cases e'
 ·have:=(I.pin p (Oq _ hp)).1
  rw [z,hn] at this;cases this
 ·cases q:H e with
  |none=>rfl
  | some u =>
    obtain ⟨ob,z⟩:=yc (I.hok e u q)
    rw [hn] at z;cases z
section
variable {fa:Fa}{X:Cx}{a b:Expr}{ga gb:GE}{ta:GT}{pos p:Pos}{es:List Expr}{gs:GA}{n:Nat}
theorem DY (c:Nat){x:Str}{np cpos:Pos}(hx:∃C,X.mg x=some (.ref C)/\fa (eI c)=some C/\PySem.W.excIn X.K C lR "ValueError.__new__"=true)(hex:X.ex=[])(hg:Gl X x)(hc:X.calm=true)(hs:DA fa X (a::es) gs)
 (hdb:(x==("__debug__":Str))=false) (he:notStar a=true) (hpl:es.all notStar=true):DS fa X (.Raise (some (.Call (.Name x np) (a::es) [] cpos)) none pos) (eE c gs):=by
 intro pins s σ H D' I ⟨μ,Z,M,hE,hM,h⟩
 obtain ⟨C,hmC,hfC,hin⟩:=hx
 obtain ⟨bm,N,nm,q,bs,hdct,sn,sub,ab,col,dd,k0,k1,k2,k3,k5,mN,hC,hN,hni,T⟩:=Bd I.ok.mod.kin hin
 unfold eE at h
 cases eg:gs Z M with
 |err=>rw [eg] at h;exact h.elim
 |bad=>rw [eg] at h;exact h.elim
 | ok ds M1 =>
   rw [eg] at h
   dsimp only at h
   split at h
   ·next hz=>
    have h:XW fa X μ H (.exc c none) Z M1:=h
    refine wpAny_Raise_call_subT (nm:=nm) (q:=q) (N:=N) (bs:=bs) (hdct:=hdct) (sn:=sn) (sub:=sub) (ab:=ab) (col:=col) (dd:=dd) (k0:=k0) (k1:=k1) (k2:=k2) (k3:=k3) (k5:=k5) PySem.F.excBase_ValueError (T.hasType (by decide +kernel)) (I.ok.hd hc) (bW (es:=a::es) (by simp [he,hpl])) hni (fj I hg hmC ⟨rfl,?_⟩ hdb)
    have ar:=aN (hs cpos pins s σ H (fun vs H1=>∃μ1,Ext μ H μ1 H1/\RelM fa X.K μ1 H1 M1/\aF fa X.K μ1 H1 ds vs) I ⟨μ,Z,M,hE,hM,by rw [eg];exact fun vs H1 μ1 x1 m1 r1=>⟨μ1,x1,m1,r1⟩⟩) (Q':=fun us s2=>([]:List (Str×MG))=[]/\us.length<=sizeLine/\s2.heap.get? C=some (excClassObj nm q C N bs bm hdct sn sub ab col dd k0 k1 k2 k3 k5 "ValueError.__new__")/\s2.heap.Ns N mN/\OwnTail s2.heap lR bm/\∀h' e,Heap.MadeExcOf s2.heap h' e (.ref C) us->X.xe (.ref e) {s2 with heap:=h'}) fun us s1 ⟨vs,H1,I1,r,μ1,x1,m1,r1⟩=>by
     refine ⟨rfl,?_,I1.bk _ _ hC,hN.keeps I1.bk,T.keeps I1.bk,fun h' e hm=>?_⟩
     ·rw [<- r.length,r1.length,<- cV];exact hz
     ·obtain ⟨t,ht,_,_⟩:=hm.there
      obtain ⟨n1,n2⟩:=nq I1 hex hm.new
      exact h pins σ H1 μ1 {s1 with heap:=h'} e C none c none (I1.kept (t':=s1.toks) hm.keeps) x1 (hE.ext x1) m1 rfl hfC rfl ⟨n1,n2,_,_,ht,rfl,rfl,rfl,.inl rfl⟩
    rw [bg he] at ar ⊢
    exact PySem.Calls.evalArgs_plain ar
   ·exact h.elim
end
end LD
namespace LD
open PySem PySem.Spec PyProof.Rows L2
structure IC (fa:Fa) (K:MF):Prop where
 g:∀c C,fa (eI c)=some C->Fq K C=true/\PySem.W.mroIn K C (.type "ValueError")=some true/\PySem.W.isIn K (.ref C) C=true
 d:∀c C D,fa (eI c)=some C->fa 999=some D->PySem.W.isIn K (.ref C) D=true/\PySem.W.mroIn K C (.ref D)=some true/\PySem.W.mroIn K D (.type "BaseException")=some true/\PySem.W.typeIn K (.ref D)=some (.type "type")
 n:∀c C c' C',fa (eI c)=some C->fa (eI c')=some C'->c'≠c->PySem.W.kin_not K C C'=true
theorem vZ {M:Model}{A:NL}{E:MG->MI->Prop}{New:Addr->Prop}{C a:Addr}{dx:Option Addr}{H:Hp}{s:MI}{Q:Unit->MI->Prop}(f:lX New C dx a s.heap H)(h:Q () s):wpAny M A (setFlight (.ref a) none) Q E s:=by
 obtain ⟨_,_,o,vs,h1,_,_,h4,tr⟩:=f
 unfold setFlight
 rcases tr with t|⟨T,oT,ts,t1,_,_,_,t5,t6,t7⟩
 ·refine tqa (tqf h1 h4 t ?_)
  rw [if_neg (by decide)]
  exact tqb h
 ·refine tqa (tqf h1 h4 t1 ?_)
  rw [if_pos (show (Value.ref T != Value.none)=true from by simp)]
  refine wpAny_setField t5 t6 (NH.mp t7).1 ?_
  have e:=Heap.update_setField_same s.heap T oT ts 3 .none t5 t6 t7
  show Q () {s with heap:=s.heap.update T (Obj.mapFields (·.setIfInBounds 3 .none))}
  rw [e];exact h
section
variable {X:Cx}{pins:List (Addr×Obj)}{σ:L2.St}{H:Hp}{s:MI}
abbrev oj (X:Cx)(pn:List (Addr×Obj))(E:MG->MI->Prop):Cx:={X with pn:=pn,xe:=E}
abbrev qV (X:Cx)(v:MG)(E:MG->MI->Prop):Cx:={X with A:=X.A.mark (some v),calm:=false,xe:=E}
theorem yz (I:Inv X pins σ H s)(E:MG->MI->Prop):Inv (oj X (X.pn++pins) E) [] σ H s:=
 ⟨⟨I.ok.mod,I.ok.kind,I.ok.glob,I.ok.blt,I.ok.above,I.ok.inj,I.ok.has,I.ok.cab,I.ok.hd,I.ok.frames,I.ok.stk,I.ok.exf,I.ok.bs,I.ok.bsz,I.ok.noex,I.ok.exfs,I.ok.funs,I.ok.frf⟩,I.os,I.bare,I.base,I.loc,I.cell,I.free,I.freeC,fun p hp=>I.pin p (by simpa using hp),I.hok,I.len⟩
theorem ik {E:MG->MI->Prop}{pins':List (Addr×Obj)}(I:Inv (oj X (X.pn++pins) E) pins' σ H s):Inv X pins σ H s:=
 ⟨⟨I.ok.mod,I.ok.kind,I.ok.glob,I.ok.blt,I.ok.above,I.ok.inj,I.ok.has,I.ok.cab,I.ok.hd,I.ok.frames,I.ok.stk,I.ok.exf,I.ok.bs,I.ok.bsz,I.ok.noex,I.ok.exfs,I.ok.funs,I.ok.frf⟩,I.os,I.bare,I.base,I.loc,I.cell,I.free,I.freeC,fun p hp=>I.pin p (Oq _ hp),I.hok,I.len⟩
theorem qk (I:Inv X pins σ H s)(v:MG)(E:MG->MI->Prop):Inv (qV X v E) pins σ H s:=
 ⟨⟨I.ok.mod,I.ok.kind,I.ok.glob,I.ok.blt,I.ok.above,I.ok.inj,I.ok.has,I.ok.cab,(fun z=>nomatch z),I.ok.frames,I.ok.stk,I.ok.exf,I.ok.bs,I.ok.bsz,I.ok.noex,I.ok.exfs,I.ok.funs,I.ok.frf⟩,I.os,I.bare,I.base,I.loc,I.cell,I.free,I.freeC,I.pin,I.hok,I.len⟩
theorem jD {v:MG}{E:MG->MI->Prop}(hh:X.calm=true->X.A.handled=none)(I:Inv (qV X v E) pins σ H s):Inv X pins σ H s:=
 ⟨⟨I.ok.mod,I.ok.kind,I.ok.glob,I.ok.blt,I.ok.above,I.ok.inj,I.ok.has,I.ok.cab,hh,I.ok.frames,I.ok.stk,I.ok.exf,I.ok.bs,I.ok.bsz,I.ok.noex,I.ok.exfs,I.ok.funs,I.ok.frf⟩,I.os,I.bare,I.base,I.loc,I.cell,I.free,I.freeC,I.pin,I.hok,I.len⟩
end
noncomputable def Ft (K:MF)(cl:List (Nat×Addr))(D:Addr):Bool:=PySem.W.mroIn K D (.type "BaseException")==some true&&PySem.W.typeIn K (.ref D)==some (.type "type") &&
 cl.all fun q=>Fq K q.2&&PySem.W.mroIn K q.2 (.type "ValueError")==some true&&PySem.W.isIn K (.ref q.2) q.2&&PySem.W.isIn K (.ref q.2) D&&PySem.W.mroIn K q.2 (.ref D)==some true&&cl.all fun r=>r.1==q.1||PySem.W.kin_not K q.2 r.2
noncomputable def sS (l cl:List (Nat×Addr))(D:Addr):Fa:=fun i=>if i<999 then l.lookup i else if i=999 then some D else cl.lookup (i-1000)
theorem lookup_mem:∀{l:List (Nat×Addr)}{c:Nat}{C:Addr},l.lookup c=some C->(c,C)∈l
 |[],_,_,h=>by cases h
 | (a, b) :: r, c, C, h => by
   rw [Nq] at h
   split at h
   ·next e=>cases h;rw [eq_of_beq e];exact Ni
   ·exact MV _ (lookup_mem h)
theorem j6 {l cl:List (Nat×Addr)}{D:Addr}{c:Nat}{C:Addr}(h:sS l cl D (eI c)=some C):(c,C)∈cl:=by
 unfold sS eI at h
 rw [if_neg (by omega),if_neg (by omega),Ob] at h
 exact lookup_mem h
theorem Fs {K:MF}{l cl:List (Nat×Addr)}{D:Addr}(h:Ft K cl D=true):IC (sS l cl D) K:=by
 unfold Ft at h
 simp only [MM,beq_iff_eq,MX,Oo] at h
 obtain ⟨⟨h1,h2⟩,h3⟩:=h
 refine ⟨fun c C e=>?_,fun c C D' e e'=>?_,fun c C c' C' e e' n=>?_⟩
 ·obtain ⟨⟨⟨⟨⟨a1,a2⟩,a3⟩,a4⟩,a5⟩,a6⟩:=h3 _ (j6 e)
  exact ⟨a1,a2,a3⟩
 ·obtain ⟨⟨⟨⟨⟨a1,a2⟩,a3⟩,a4⟩,a5⟩,a6⟩:=h3 _ (j6 e)
  have e':some D=some D':=e'
  cases e'
  exact ⟨a4,a5,h1,h2⟩
 ·obtain ⟨⟨⟨⟨⟨a1,a2⟩,a3⟩,a4⟩,a5⟩,a6⟩:=h3 _ (j6 e)
  exact (a6 _ (j6 e')).elim (fun z=>absurd z n) id
end LD
namespace LD
open PySem PySem.Spec PySem.Calls PyProof.Rows
section
variable {prog:Na}{w:Nd}{A:NL}{E:MG->MI->Prop}{h:Heap}{g:Array GenState}{d:Drawn}{t:Nat}{os:NF}
variable {nm q:Str}{C N:Addr}{bs bm:List MG}{hdct:Bool}{sn:List Str}{sub:List MG}{ab:Bool}{col:Option Bool}{dd:Option Addr}{k0 k1 k2 k3 k5:Option MG}
theorem Bc {e:Addr}{oe:Obj}{vs:Array MG}{u:MG}{Q:MG->MI->Prop}(hC:h.get? C=some (excClassObj nm q C N bs bm hdct sn sub ab col dd k0 k1 k2 k3 k5 "ValueError.__new__"))(T:OwnTail h lR bm)
 (he:h.get? e=some oe) (hcls:oe.cls=.ref C) (hd:oe.data=.fields vs) {t0:Addr} (h0:vs[0]?=some (.ref t0))
 (hq:∀h' tp,(∀b o,b≠e->h.get? b=some o->h'.get? b=some o)->h'.get? e=some (oe.mapFields (·.setIfInBounds 0 (.ref tp)))->Q .none ⟨h',g,d,t,os⟩) :
 wpAny (model prog w) A (call (.builtin "ValueError.__init__") [.ref e,u]) Q E ⟨h,g,d,t,os⟩:=by
 refine wpAny_call (codeAny_call_builtin PySem.F.excBase_ValueError.init.plain PySem.F.excBase_ValueError.initEntry (wpAny_check_init_subT PySem.F.excBase_ValueError T hC he hcls ?_))
 wp_walk
 have he2:(h.push {cls:=.type "tuple",data:=.seq #[u]}).get? e=some oe:=MJ _ he
 rw [hd]
 refine tqb ?_
 rw [h0]
 refine tqb ?_
 refine tqa (wpAny_setField he2 hd (NH.mp h0).1 ?_)
 wp_walk
 refine hq _ h.objs.size (fun b o hb e'=>?_) ?_
 ·rw [NO _ _ (NV hb)];exact MJ _ e'
 ·exact N9 _ he2 (OJ (N3 hd _))
end
noncomputable def kA:List MG->Bool
 |.ref _::r=>kA r
 |l=>l==lR
theorem rX (self:MG):∀{l:List MG},kA l=true->refuseLoop self "__setattr__" l=pure ()
 |[],e=>absurd e (by decide)
 | a :: r, e => by
   cases a with
   |ref c=>rw [refuseLoop_ref];exact rX self e
   | _ =>
     have q:=eq_of_beq (show (_::r==lR)=true from e)
     rw [q];exact PySem.F.store_ValueError.passes self
noncomputable def qM (K:MF)(C:Addr):Bool:=(PySem.W.clsIn K C).any (fun cd=>kA cd.mro)&&PySem.W.mroIn K C (.type "object")==some true
theorem Js {prog:Na}{w:Nd}{A:NL}{R:Result->MI->Prop}{s:MI}{K:MF}{x C:Addr}{ox:Obj}{od:Option Obj}{name:Str}{tk:Tok}{v:MG}(X:K.In s.heap)(J:PySem.W.InstAt s.heap x ox C od)(hp:qM K C=true)(ht:PySem.W.takerIn K C name=some none)
 (h:∀b,wpAny (model prog w) A.in1 (Builtin.ObjectAttr.storeInOwnDict (.ref x) (.ref C) (.str name tk) name v b) (fun fin s'=>match fin with|.done f=>R (.ok f) s'|.again c'=>c'.quiet=true/\codeAny (model prog w) A c' R s') (fun e s'=>R (.error e) s') s) :
 codeAny (model prog w) A (.call (.builtin "object.__setattr__") ⟨[.ref x,.str name tk,v],[]⟩) R s:=by
 unfold qM at hp
 rw [MM,beq_iff_eq] at hp
 obtain ⟨cd,hc,ho⟩:=PySem.W.any_some hp.1
 have G:=PySem.F.store_ValueError
 have ho:kA cd.mro=true:=ho
 have e0:PySem.W.Looks (model prog w) s.heap (isInstance (.ref x) (.type "object")) true:=J.type.andThen (PySem.W.looks_mroIn X hp.2)
 obtain ⟨at',ha,hr⟩:=N0.mp ht
 have e1:PySem.W.Looks (model prog w) s.heap (mroOf (.ref C)) cd.mro:=(PySem.W.looks_clsIn X hc).andThen .now
 have e2:PySem.W.Looks (model prog w) s.heap (Builtin.ObjectAttr.storeTaker? at') none:=by
  cases at' with
  |none=>exact .now
  | some a =>
    obtain ⟨b,hb,hn⟩:=Nj.mp hr
    cases b with
    |true=>cases hn
    |false=>exact (PySem.W.looks_takesIn X hb).andThen .now
 refine codeAny_call_builtin PySem.F.store_object.slot.plain G.entry (@PySem.W.check_slot (model prog w) _ _ s "object.__setattr__" "object" "__setattr__" (.ref x) [.str name tk,v] [] _ G.kind G.split e0 (G.args (.ref x) (.str name tk) v) ?_)
 rw [PySem.W.osa_eq]
 refine tqa ?_
 rw [refuse_eq]
 refine tqa (J.type.here (tqa (e1.here ?_)))
 rw [rX _ ho]
 exact tqb (tqa (J.type.here (tqa ((PySem.W.looks_findIn X ha).here (tqa (e2.here (h _)))))))
theorem EL {prog:Na}{w:Nd}{A:NL}{E:MG->MI->Prop}{s:MI}{K:MF}{x C:Addr}{ox:Obj}{name:Str}{v:MG}{vs:Array MG}{Q:Unit->MI->Prop}(X:K.In s.heap)(J:PySem.W.InstAt s.heap x ox C none)
 (hs:PySem.W.findIn K (.ref C) "__setattr__"=some (some (.builtin "object.__setattr__"))) (hp:qM K C=true) (ht:PySem.W.takerIn K C name=some none) (hh:PySem.W.hasDictIn K C=true) (hd:ox.data=.fields vs)
 (h:∀h' d,s.heap.objs.size<=d->h'.Ns1 d (fun y=>if y=name then some v else none)->h'.get? x=some {ox with dict:=some d}->(∀b o,b≠x->s.heap.get? b=some o->h'.get? b=some o)->Q () {s with heap:=h',toks:=s.toks+2}) :
 wpAny (model prog w) A (setAttr (.ref x) name v) Q E s:=by
 refine PySem.W.set_plain X J hs (Js (s:={s with toks:=s.toks+1}) X J hp ht fun b=>?_)
 obtain ⟨cd,hc,hd'⟩:=PySem.W.any_some hh
 have hx:=J.at_
 obtain ⟨oc,odi,oda,osl⟩:=ox
 obtain rfl:oc=.ref C:=J.cls
 obtain rfl:oda=.fields vs:=hd
 have hdi:odi=none:=by
  have:=J.dict
  cases odi with
  |none=>rfl
  |some d=>exact this.elim
 subst hdi
 refine tqa (tqb (tqa (tqa (wpAny_loadPart hx (tqa (PySem.W.Looks.here (s:={s with toks:=s.toks+1}) (PySem.W.looks_clsIn X hc) ?_))))))
 rw [hd']
 show wpAny _ _ (alloc {cls:=.type "dict",data:=.dict #[]} >>= fun d=>update x (fun o=>{o with dict:=some d}) >>= fun _=>(pure (some d):Sem (Option Addr))) _ _ _
 refine tqa (wpAny_alloc ?_)
 have hx2:(s.heap.push {cls:=.type "dict",data:=.dict #[]}).get? x=some ⟨.ref C,none,.fields vs,osl⟩:=MJ _ hx
 refine tqa (wpAny_update hx2 (tqb ?_))
 have hdx:s.heap.objs.size≠x:=NR (MS hx)
 have e1:(s.heap.push {cls:=.type "dict",data:=.dict #[]}).get? s.heap.objs.size=some {cls:=.type "dict",data:=.dict #[]}:=M8 s.heap rfl
 have e2:((s.heap.push {cls:=.type "dict",data:=.dict #[]}).update x (fun o=>{o with dict:=some s.heap.objs.size})).get? s.heap.objs.size=some {cls:=.type "dict",data:=.dict #[]}:=(NO _ _ (NV hdx)).trans e1
 have e3:((s.heap.push {cls:=.type "dict",data:=.dict #[]}).update x (fun o=>{o with dict:=some s.heap.objs.size})).Ns s.heap.objs.size (fun _=>none):=⟨_,#[],_,e2,rfl,(fun e he=>absurd he (by simp)),fun _=>rfl⟩
 have e4:=N9 (fun o=>{o with dict:=some s.heap.objs.size}) hx2 rfl
 refine tqa (tqb (tqa ?_))
 refine wpAny_nsSet1 (Heap.Ns1.of_empty e3) fun h' hn2 hs2=>?_
 obtain ⟨oD,esD,epD,hoD,hdD,hcD⟩:=hn2.count (PySem.Within.cons name v PySem.Within.nil)
 refine tqa (wpAny_lookBehind hoD (by rw [hdD];exact pastItsLine_dict (MR hcD (by show 1<=sizeLine+1;omega))) ?_)
 refine tqb (h _ s.heap.objs.size (MN _) hn2 ((hs2.2 _ (NV hdx)).trans e4) fun b o hb e=>?_)
 rw [hs2.2 b (Nz (MS e)),NO _ _ (NV hb)]
 exact MJ _ e
end LD
namespace LD
open PySem PySem.Spec PyProof.Rows L2
noncomputable def fit (z:Str)(i:Int)(y:Str):Prop:=i.natAbs.log2<1920/\(z++(toString i:Str)).length<=sizeLine/\(z++(toString i:Str)++y).length<=sizeLine
section
variable {X:Cx}{a:Expr}{ta:TE}{pos p1 p2 p3:Pos}{j j2:Nat}{z y:Str}
noncomputable def Km (z y:Str)(ta:TE):TE:=fun σ H Q=>z.length<=sizeLine/\ta σ H fun v H1=>∃i,v=.int i/\fit z i y/\Q (.str (z++(toString i:Str)++y)) H1
theorem qA (z:Str):Str.empty++z=z:=by
 cases z with
 |mk c=>show Str.mk (#[]++c)=_;simp
theorem wt (z:Str):z++Str.empty=z:=by
 cases z with
 |mk c=>show Str.mk (c++#[])=_;simp
theorem Jo (ha:PE X a ta):PE X (.JoinedStr [.Constant (.str z) j p1,.FormattedValue a (-1) none p2,.Constant (.str y) j2 p3] pos) (Km z y ta):=by
 intro pins s σ H Q I ⟨hz,h⟩
 refine JoinedStr_many (joinParts_cons (Calls.Constant_str ?_))
 show (Str.empty++z).length<=sizeLine/\_
 rw [qA]
 refine ⟨hz,joinParts_cons (FormattedValue_plain (aN (ha pins _ σ H _ (I.tok _) h) fun u s1 ⟨v,H1,I1,r1,i,ev,⟨f1,f2,f3⟩,q⟩=>?_))⟩
 subst ev
 obtain ⟨t,rfl⟩:=r1
 refine formatField_int_small f1 ⟨f2,joinParts_cons (Calls.Constant_str ⟨f3,joinParts_nil ?_ f3⟩)⟩
 exact ⟨.str _,H1,I1.tok _,⟨_,rfl⟩,q⟩
theorem Jp (ha:PE X a ta):PE X (.JoinedStr [.Constant (.str z) j p1,.FormattedValue a (-1) none p2] pos) (Km z Str.empty ta):=by
 intro pins s σ H Q I ⟨hz,h⟩
 refine JoinedStr_many (joinParts_cons (Calls.Constant_str ?_))
 show (Str.empty++z).length<=sizeLine/\_
 rw [qA]
 refine ⟨hz,joinParts_cons (FormattedValue_plain (aN (ha pins _ σ H _ (I.tok _) h) fun u s1 ⟨v,H1,I1,r1,i,ev,⟨f1,f2,f3⟩,q⟩=>?_))⟩
 subst ev
 obtain ⟨t,rfl⟩:=r1
 refine formatField_int_small f1 ⟨f2,joinParts_nil ?_ f2⟩
 have e:z++(toString i:Str)++Str.empty=z++(toString i:Str):=by
  exact wt _
 rw [e] at q
 exact ⟨.str _,H1,I1.tok _,⟨_,rfl⟩,q⟩
end
noncomputable def d4 (C:Addr)(dx:Option Addr)(a:Addr)(h:Heap):Prop:=∃o vs t0,h.get? a=some o/\o.cls=.ref C/\o.dict=dx/\o.data=.fields vs/\vs[0]?=some (.ref t0)/\vs[1]?=some .none
noncomputable def j7 (K:MF)(C:Addr)(fI:Addr):Bool:=FX K C fun cd C' bm n=>C'==C&&n=="ValueError.__new__"&&!cd.hasDel&&PySem.W.tailIn K lR bm&&PySem.W.nsOkIn K cd.ns&&PySem.W.nsIn K cd.ns "__init__"==some (some (.ref fI))
theorem vC {K:MF}{h:Heap}{N:Addr}{x:Str}{v:MG}{mg:Str->Option MG}(X:K.In h)(G:h.Ns N mg)(e:PySem.W.nsIn K N x=some (some v)):mg x=some v:=by
 obtain ⟨o,es,ep,ho,hd,_,hf⟩:=G
 unfold PySem.W.nsIn at e
 split at e
 ·rename_i c d es' n' sl q
  have:=X _ _ q
  rw [ho] at this
  cases this
  cases hd
  split at e
  ·rename_i en he
   cases e
   rw [<- hf]
   unfold nsFind findBy
   rw [<- Array.find?_toList,he]
   rfl
  ·split at e<;>cases e
 ·cases e
theorem lK {K:MF}{h:Heap}{C fI:Addr}(X:K.In h)(q:j7 K C fI=true) :
 ∃bm N nm q bs hdct sn sub ab col dd k0 k1 k2 k3 k5 mN,h.get? C=some (excClassObj nm q C N bs bm hdct sn sub ab col dd k0 k1 k2 k3 k5 "ValueError.__new__")/\h.Ns N mN/\mN "__init__"=some (.ref fI)/\OwnTail h lR bm:=by
 obtain ⟨bm,ns,nm,qn,bs,hd,sn,sub,ab,col,dd,k0,k1,k2,k3,k5,dl,n,C',q,ho⟩:=xB X q
 simp only [MM,beq_iff_eq,OF] at q
 obtain ⟨⟨⟨⟨⟨rfl,rfl⟩,rfl⟩,ht⟩,hok⟩,hni⟩:=q
 exact ⟨bm,ns,nm,qn,bs,hd,sn,sub,ab,col,dd,k0,k1,k2,k3,k5,_,ho,.of_isNs (PySem.W.isNs_of_in X hok),vC X (.of_isNs (PySem.W.isNs_of_in X hok)) hni,PySem.W.tail_of_in X ht⟩
theorem zu {H:Hp}{a:Addr}{o:HO}(h:H a=some o):upd H a o=H:=by
 funext b
 unfold upd
 split
 ·next e=>rw [e,h]
 ·rfl
section
variable {X:Cx}{a b:Expr}{ta tb:TE}{apos cpos p1 pos:Pos}{x:Str}{D:Addr}
noncomputable def La (K:MF)(ta tb:TE):TE:=fun σ H Q=>ta σ H fun v H1=>tb σ H1 fun u H2=>∃e C fI,v=.ref e/\H2 e=some (.ext (d4 C none e))/\j7 K C fI=true/\Q .non H2
theorem oK {P:Na}{w:Nd}{H:Hp}{h:Heap}{C e:Addr}{dx:Option Addr}(x:d4 C dx e h):b9 P w H h e (.ext (d4 C dx e)):=by
 refine ⟨x,let ⟨o,_,_,e,_⟩:=x;⟨o,e⟩,fun g1 g2 ⟨o,vs,t0,k1,k2⟩ kk=>⟨o,vs,t0,kk o k1,k2⟩⟩
theorem GO {pl:Sem Bool}(hD:X.mg x=some (.ref D))(hg:Gl X x)(h1:PySem.W.readsIn X.K D (.type "type")=true)(h2:PySem.W.findCls X.K (.ref D) (.type "type") "__init__"=some (.val (.builtin "ValueError.__init__")))
 (h3:PySem.W.specialIn X.K (.ref D) "__getattribute__"=some (some (.builtin "type.__getattribute__"))) (ha:PE X a ta) (hb:PE X b tb) (he:notStar a=true) (he2:notStar b=true) (hdb:(x==("__debug__":Str))=false)
 (ht:eval (.Call (.Attribute (.Name x p1) "__init__" apos) [a,b] [] cpos) X.env=(do
  let ov <- eval (.Name x p1) X.env
  standAt apos.atName
  let (f,first) <- holding [ov] (getMethod ov "__init__" pl)
  callWith cpos f first (backTo cpos (starEach [a,b] X.env)) (backToKw cpos (keywordEach [] X.env)))) :
 PE X (.Call (.Attribute (.Name x p1) "__init__" apos) [a,b] [] cpos) (La X.K ta tb):=by
 intro pins s σ H Q I h
 refine Oh (pl:=pl) (fj I hg hD ?_ hdb) ht
 refine PySem.W.method_cls I.kIn h3 (PySem.W.cls_value I.kIn h1 h2 rfl ?_)
 refine Calls.callWith_builtin (bW (es:=[a,b]) (by simp [he,he2])) ?_
 have ar:=aN ((bO ha (bO hb eT (bg he2)) (bg he)) cpos pins {s with toks:=s.toks+1} σ H (fun vs H2=>match vs with|[v,u]=>∃e C fI,v=.ref e/\H2 e=some (.ext (d4 C none e))/\j7 X.K C fI=true/\Q .non H2|_=>False) (I.tok _) h) (Q':=fun us s2=>wpAny (model X.prog X.w) X.A (call (.builtin "ValueError.__init__") ([]++us) []) (EP X pins σ Q) X.xe s2) fun us s1 ⟨vs,H1,I1,r,hq⟩=>by
  match vs,r,hq with
  |[],_,hq=>exact hq.elim
  |[_],_,hq=>exact hq.elim
  |_::_::_::_,_,hq=>exact hq.elim
  | [v, u], r, ⟨e, C, fI, ev, hH, hx, q⟩ =>
    subst ev
    obtain ⟨w1,w2,rfl,r1,r2⟩:=vals2 r
    obtain rfl:w1=Value.ref e:=r1
    obtain ⟨⟨o,vs,t0,k1,k2,k3,k4,k5,k6⟩,_,_⟩:=I1.hok e _ hH
    obtain ⟨bm,N,nm,qq,bs,hdct,sn,sub,ab,col,dd,c0,c1,c2,c3,c5,mN,hC,hN,hni,T⟩:=lK I1.kIn hx
    obtain ⟨hp,gg,dr,tk,os⟩:=s1
    refine Bc hC T k1 k2 k4 k5 fun h' tp kk ke=>?_
    have nw:d4 C none e h':=⟨_,_,tp,ke,by rw [Obj.cls_mapFields];exact k2,by rw [lO];exact k3,N3 k4 _,by simp [(NH.mp k5).1],by rw [Array.getElem?_setIfInBounds_ne (by decide)];exact k6⟩
    have I2:=I1.write (x:=e) (e:=e) (o:=.ext (d4 C none e)) (h':=h') (t':=tk) (by rw [hH];exact True.intro) (.inl rfl) (fun b u hb z=>kk b u hb z) ⟨_,ke⟩ (oK nw)
    rw [zu hH] at I2
    exact ⟨.non,H1,I2,rfl,q⟩
 rw [bg he] at ar ⊢
 exact PySem.Calls.evalArgs_plain ar
end
noncomputable def setIn (K:MF)(C:Addr)(fld:Str):Bool:=PySem.W.findIn K (.ref C) "__setattr__"==some (some (.builtin "object.__setattr__"))&&qM K C&&PySem.W.takerIn K C fld==some none&&PySem.W.hasDictIn K C
section
variable {X:Cx}{o value:Expr}{to tv:TE}{p' pos:Pos}{fld:Str}
noncomputable def IY (K:MF)(tv to:TE)(fld:Str):TS:=fun D σ H=>tv σ H fun y H1=>to σ H1 fun x H2=>∃e C i,x=.ref e/\y=.int i/\H2 e=some (.ext (d4 C none e))/\setIn K C fld=true/\∀d,H2 d=none->d≠e->D.nx σ (upd (upd H2 d (.xd [(fld,.int i)])) e (.ext (d4 C (some d) e)))
theorem Ed (ho:PE X o to)(hv:PE X value tv)(hs:swapsWith value (some (.Attribute o fld p')) pos.line X.env=pure false):PS X (.Assign [.Attribute o fld p'] value pos) (IY X.K tv to fld):=by
 intro pins s σ H D I h
 refine plainObj_wpAny_Assign_Attribute (aN (hv pins s σ H _ I h) fun u s1 ⟨y,H1,I1,ry,q⟩=>aN (ho pins s1 σ H1 _ I1 q) fun ov s2 ⟨x,H2,I2,rx,e,C,i,ex,ey,hH,hset,q2⟩=>?_) hs
 subst ex ey
 obtain rfl:ov=Value.ref e:=rx
 obtain ⟨t,rfl⟩:=ry
 simp only [setIn,MM,beq_iff_eq] at hset
 obtain ⟨⟨⟨g1,g2⟩,g3⟩,g4⟩:=hset
 obtain ⟨⟨ob,vs,t0,k1,k2,k3,k4,k5,k6⟩,_,_⟩:=I2.hok e _ hH
 have IA:PySem.W.InstAt s2.heap e ob C none:=⟨k1,k2,by unfold PySem.W.notCls;rw [k4],by rw [k3];trivial⟩
 refine EL I2.kIn IA g1 g2 g3 g4 k4 fun h' d hd hns hx' kk=>?_
 have hd0:H2 d=none:=I2.hok.fresh hd
 have hde:d≠e:=fun z=>by rw [z,hH] at hd0;cases hd0
 have lt:∀b o,s2.heap.get? b=some o->b≠d:=fun b o q z=>absurd (MS q) (by rw [z];exact Nat.not_lt.mpr hd)
 have ne:∀b,H2 b=none->b≠e:=fun b q z=>by rw [z,hH] at q;cases q
 have up:∀b,b≠d->b≠e->upd (upd H2 d (.xd [(fld,.int i)])) e (.ext (d4 C (some d) e)) b=H2 b:=fun b z1 z2=>by rw [ax z2,ax z1]
 have nd:∀b u,H2 b=some u->b≠d:=fun b u q=>aP q hd0
 refine ⟨σ,_,I2.un (h':=h') (t':=s2.toks+2) (H':=upd (upd H2 d (.xd [(fld,.int i)])) e (.ext (d4 C (some d) e))) ⟨fun b o q n _ _=>kk b o (ne b n) q,fun b o q n _ _=>⟨o.slots,kk b o (ne b n) q⟩,fun b o q n _=>?_,fun b o q _=>?_,fun b xs q=>?_,fun b o u q=>?_,fun b ps q=>⟨#[],?_⟩⟩ fun b u q=>?_,q2 d hd0 hde⟩
 ·rw [up b (lt b o q) (ne b n)];exact n
 ·by_cases z:b=e
  ·exact ⟨_,by rw [z];exact hx'⟩
  ·exact ⟨o,kk b o z q⟩
 ·rw [up b (nd b _ q) (fun z=>by rw [z,hH] at q;cases q)];exact q
 ·rw [up b (nd b _ q) (fun z=>by rw [z,hH] at q;cases q)];exact q
 ·rw [up b (nd b _ q) (fun z=>by rw [z,hH] at q;cases q)];simpa using q
 ·by_cases z:b=e
  ·subst z
   rw [bt] at q;cases q
   exact oK ⟨_,vs,t0,hx',k2,rfl,k4,k5,k6⟩
  ·by_cases z2:b=d
   ·subst z2
    rw [ax hde,bt] at q;cases q
    refine ⟨_,hns,fun f=>?_⟩
    by_cases hf:f=fld
    ·subst hf
     simp only [Nq,beq_self_eq_true,if_true]
     exact ⟨t,rfl⟩
    ·rw [if_neg hf]
     have:([(fld,V.int i)]:List (Str×V)).lookup f=none:=by simp [Nq,NA.mpr hf]
     rw [this];trivial
   ·rw [up b z2 z] at q
    refine (I2.hok b u q).stay (fun c v hc w=>kk c v ?_ w) (fun c w=>?_) fun c xs w=>?_
    ·rcases hc with hc|hc
     ·rw [hc];exact z
     ·intro y;rw [y,hH] at hc;cases hc
    ·rw [up c (nd c _ w) (fun y=>by rw [y,hH] at w;cases w)];exact w
    ·rw [up c (nd c _ w) (fun y=>by rw [y,hH] at w;cases w)];exact w
end
end LD
namespace LD
open PySem PySem.Spec PyProof.Rows
section
variable {prog:Na}{w:Nd}{A:NL}{E:MG->MI->Prop}{h:Heap}{g:Array GenState}{d:Drawn}{t:Nat}{os:NF}
variable {nm q:Str}{C N:Addr}{bs bm:List MG}{hdct:Bool}{sn:List Str}{sub:List MG}{ab:Bool}{col:Option Bool}{dd:Option Addr}{k0 k1 k2 k3 k5:Option MG}
theorem qD {mN:Str->Option MG}{rest:List MG}{fI:Addr}{oI:Obj}{Q:Fin->MI->Prop}
 (hC:h.get? C=some (excClassObj nm q C N bs bm hdct sn sub ab col dd k0 k1 k2 k3 k5 "ValueError.__new__")) (T:OwnTail h lR bm) (hn:h.Ns N mN) (hi:mN "__init__"=some (.ref fI)) (hfI:h.get? fI=some oI) (hfc:oI.cls=.type "function")
 (hq:∀h' e,Heap.MadeExcOf h h' e (.ref C) rest->wpAny (model prog w) A (call (.ref fI) (.ref e::rest)) (fun r s'=>r=.none/\Q (.done (.ret (.ref e))) s') E ⟨h',g,d,t,os⟩) (hrest:rest.length<=sizeLine) :
 wpAny (model prog w) A (Builtin.«type.__call__» ⟨.ref C::rest,[]⟩) Q E ⟨h,g,d,t,os⟩:=by
 have F:=PySem.F.excBase_ValueError
 repeat (first|with_reducible refine wpAny_loadPart_at hC ?_|with_reducible refine wpAny_madeBy_exc hC ?_|wp_step)
 refine codeAny_call_builtin_code (Code.quiet_builtin _ F.quiet) (wpAny_check_new_subT F T hC ?_)
 refine codeAny_exc_new_subT F T hC ?_ hrest
 show wpAny _ _ _ _ _ _
 have kp:∀b o,h.get? b=some o->((h.push {cls:=.type "tuple",data:=.seq rest.toArray}).push {cls:=.ref C,data:=.fields #[.ref h.objs.size,.none,.none,.none,.bool false,.none]}).get? b=some o:=fun b o hb=>MJ _ (MJ _ hb)
 have hC₁:=kp _ _ hC
 have hfI₁:=kp _ _ hfI
 have hn₁:=hn.keeps kp
 have T₁:=T.keeps kp
 have hget:((h.push {cls:=.type "tuple",data:=.seq rest.toArray}).push {cls:=.ref C,data:=.fields #[.ref h.objs.size,.none,.none,.none,.bool false,.none]}).get? (h.objs.size+1)=some {cls:=.ref C,data:=.fields #[.ref h.objs.size,.none,.none,.none,.bool false,.none]}:=by heap_get
 have hcC:(Value.ref C::bm).contains (.ref C)=true:=by simp
 unfold isInstance
 repeat (first|with_reducible refine wpAny_loadPart_at hget ?_|(with_reducible refine wpAny_isSubtype_exc hC₁ ?_;rw [hcC])|wp_step)
 show wpAny _ _ (typeLookup (.ref C) _) _ _ _
 refine wpAny_typeLookup_tail hC₁ hn₁ T₁ F.mroIs F.init.lookup ?_
 rw [hi]
 refine tqo (tqa ?_)
 unfold bindSpecial
 refine tqa (wpAny_typeOf (T:="function") ⟨_,hfI₁,hfc⟩ ?_)
 rw [if_pos (by decide)]
 refine tqb (tqa (wpAny_mono (hq _ (h.objs.size+1) ⟨kp,OP (Oz _),h.objs.size,hget,OP (MN _),?_⟩) (fun r s' hr=>?_) fun _ _ x=>x))
 ·exact MJ _ (Heap.get?_push_at rfl rfl)
 ·obtain ⟨rfl,hQ⟩:=hr
  wp_walk
  exact hQ
theorem yY {mN:Str->Option MG}{rest:List MG}{fI:Addr}{oI:Obj}{Q:MG->MI->Prop}
 (hC:h.get? C=some (excClassObj nm q C N bs bm hdct sn sub ab col dd k0 k1 k2 k3 k5 "ValueError.__new__")) (T:OwnTail h lR bm) (hn:h.Ns N mN) (hi:mN "__init__"=some (.ref fI)) (hfI:h.get? fI=some oI) (hfc:oI.cls=.type "function")
 (hq:∀h' e,Heap.MadeExcOf h h' e (.ref C) rest->wpAny (model prog w) (A.under (.builtin "type.__call__" ⟨.ref C::rest,[]⟩)) (call (.ref fI) (.ref e::rest)) (fun r s'=>r=.none/\Q (.ref e) s') E ⟨h',g,d,t,os⟩) (hrest:rest.length<=sizeLine) :
 wpAny (model prog w) A (call (.ref C) rest) Q E ⟨h,g,d,t,os⟩:=by
 have f1:=tc_lookup
 have f2:=tc_bind (.ref C)
 have hT:(⟨h,g,d,t,os⟩:MI).TypeIs (.ref C) "type":=⟨_,hC,rfl⟩
 refine wpAny_call (codeAny_of_tree ?_)
 show wpAny _ _ (callAny (.ref C) _) _ _ _
 repeat (any_goals (first|assumption|with_reducible refine wpAny_loadPart_at hC ?_|wp_step))
 refine ⟨rfl,?_⟩
 refine codeAny_call_builtin_at (Code.quiet_builtin _ (by decide +kernel)) entry_typeCall (wpAny_check_type_call_sub hC (qD hC T hn hi hfI hfc (fun h' e hm=>?_) hrest))
 exact hq h' e hm
end
end LD
namespace LD
open PySem PySem.Spec PyProof.Rows L2
noncomputable def C5 (x m:Str)(a b:Expr)(p1 apos cpos:Pos)(env:Nx):Prop:=∃pl,eval (.Call (.Attribute (.Name x p1) m apos) [a,b] [] cpos) env=(do
 let ov <- eval (.Name x p1) env
 standAt apos.atName
 let (f,first) <- holding [ov] (getMethod ov m pl)
 callWith cpos f first (backTo cpos (starEach [a,b] env)) (backToKw cpos (keywordEach [] env)))
noncomputable def Kp (C:Addr)(fld:Str):Sp:=fun vs H Q _=>∃e i,vs=[.ref e,.int i]/\H e=some (.ext (d4 C none e))/\i.natAbs<2^64/\∀d,H d=none->d≠e->Q .non (upd (upd H d (.xd [(fld,.int i)])) e (.ext (d4 C (some d) e)))
theorem len_app (a b:Str):(a++b).length=a.length+b.length:=by
 show (Str.append a b).length=_
 unfold Str.append Str.length
 simp
theorem yI {z y:Str}{i:Int}(hz:z.length<=1000)(hy:y.length<=1000)(hi:i.natAbs<2^64):fit z i y:=by
 have h1:i.natAbs.log2<1920:=by
  by_cases h0:i.natAbs=0
  ·rw [h0];decide
  ·exact M9 ((Nat.log2_lt h0).mpr hi) (by omega)
 have h2:((toString i:Str)).length<=1921:=PyProof.Rows.int_text_len_1921 h1
 have hs:sizeLine=16777216:=cV.symm
 refine ⟨h1,?_,?_⟩
 ·rw [len_app];omega
 ·rw [len_app,len_app];omega
section
variable {P:Na}{w:Nd}{K:MF}{mg:Str->Option MG}{base:Heap}{qual y fld z:Str}{st:Stmt}{f C D fI:Addr}{fd:OG}{p1 p2 p3 p4 p5 p6 p7 p8 p9 p10 p11 p12 p13:Pos}{j:Nat}
theorem HH (F:oJ K "__init__" qual st f fd)(S:f6 ["self",y] ["self",y] (aL st))
 (hb:cx st=[.Expr (.Call (.Attribute (.Name "DeedError" p1) "__init__" p2) [.Name "self" p3,.JoinedStr [.Constant (.str z) j p4,.FormattedValue (.Name y p5) (-1) none p6] p7] [] p8) p9,.Assign [.Attribute (.Name "self" p10) fld p11] (.Name y p12) p13])
 (hev:∀L cd,C5 "DeedError" "__init__" (.Name "self" p3) (.JoinedStr [.Constant (.str z) j p4,.FormattedValue (.Name y p5) (-1) none p6] p7) p1 p2 p8 (envOfC qual (aL st) L f cd))
 (hz:z.length<=1000) (hyd:(y==("__debug__":Str))=false) (hyc:(y==("__classdict__":Str))=false) (v0:(aL st).names.lookup ("self":Str)=some .local) (v1:(aL st).names.lookup y=some .local)
 (hg:∀L cd,(envOfC qual (aL st) L f cd).kindOf "DeedError"=some .globalImplicit) (hD:mg "DeedError"=some (.ref D)) (h1:PySem.W.readsIn K D (.type "type")=true) (h2:PySem.W.findCls K (.ref D) (.type "type") "__init__"=some (.val (.builtin "ValueError.__init__")))
 (h3:PySem.W.specialIn K (.ref D) "__getattribute__"=some (some (.builtin "type.__getattribute__"))) (hC:j7 K C fI=true) (hset:setIn K C fld=true):fB P w K mg base (fv P w) 1 f fd ["self",y] (Kp C fld):=by
 refine ph F S (fun vs H Q E ⟨e,i,ev,_⟩=>by rw [ev];rfl) fun cdv A outer s H vs Q E hr ⟨e,i,ev,hH,hi,q⟩=>?_
 subst ev
 rw [hb]
 have V0:qB (eA (fv P w) P w K mg base ["self",y] qual (aL st) f cdv A outer s H E).env.scope "self":=.inl v0
 have V1:qB (eA (fv P w) P w K mg base ["self",y] qual (aL st) f cdv A outer s H E).env.scope y:=.inl v1
 have a0:∀p,PE (eA (fv P w) P w K mg base ["self",y] qual (aL st) f cdv A outer s H E) (.Name "self" p) (zM 0):=fun p=>nV (i:=0) rfl V0
 have a1:∀p,PE (eA (fv P w) P w K mg base ["self",y] qual (aL st) f cdv A outer s H E) (.Name y p) (zM 1):=fun p=>nV (i:=1) rfl V1 hyd hyc
 obtain ⟨pl,hev⟩:=hev s.heap.objs.size cdv
 refine ⟨_,m8 (l7 (GO (pl:=pl) hD (hg _ _) h1 h2 h3 (a0 p3) (Jp (a1 p5)) rfl rfl rfl hev) rfl) (m8 (Ed (a0 p10) (a1 p12) rfl) uz),?_⟩
 refine ⟨.ref e,rfl,MR hz (by rw [<- cV];decide),.int i,rfl,i,rfl,yI hz (by decide) hi,e,C,fI,rfl,hH,hC,?_⟩
 exact ⟨.int i,rfl,.ref e,rfl,e,C,i,rfl,rfl,hH,hset,fun d hd hde=>q d hd hde⟩
end
end LD
namespace LD
open PySem PySem.Spec PyProof.Rows L2
noncomputable def kj (fa:Fa)(P:Na)(w:Nd)(K:MF)(mg:Str->Option MG)(base:Heap)(c:Nat)(x:Str):Prop:=
 ∃C fI fd y oI,mg x=some (.ref C)/\fa (eI c)=some C/\j7 K C fI=true/\PySem.W.keepIn K (.ref C)=true/\K.lookup fI=some oI/\oI.cls=.type "function"/\Binds K fd ["self",y] []/\fB P w K mg base (fv P w) 1 fI fd ["self",y] (Kp C (f7 c))
section
variable {X:Cx}{pins:List (Addr×Obj)}{σ:L2.St}{H H0:Hp}{s:MI}{fa:Fa}
theorem tW {a:Addr}{φ:Heap->Prop}(I:Inv X pins σ H s)(ha:H a=some (.ext φ))(hH:∀b,b≠a->H0 b=H b)(hz:H0 a=none):Inv X pins σ H0 s:=by
 have nn:∀b,H b=none->b≠a:=fun b q z=>by rw [z,ha] at q;cases q
 have no:∀b u,H b=some u->(∀φ,u≠.ext φ)->H0 b=some u:=fun b u q n=>by
  rw [hH b (fun z=>by rw [z,ha] at q;cases q;exact n _ rfl)];exact q
 refine ⟨I.ok,I.os,I.bare,⟨I.base.keep,I.base.slot,fun b o e n hx=>?_,I.base.there,fun b xs e=>?_,fun b o u e=>?_,fun b ps e=>?_⟩,I.loc,I.cell,?_,fun x c e=>?_,fun p hp'=>?_,fun b u e=>?_,I.len⟩
 ·have q:=I.base.free b o e n hx
  rw [hH b (nn b q)];exact q
 ·exact no _ _ (I.base.tups b xs e) (fun _ z=>nomatch z)
 ·exact no _ _ (I.base.frzs b o u e) (fun _ z=>nomatch z)
 ·obtain ⟨m,q⟩:=I.base.tbls b ps e
  exact ⟨m,no _ _ q (fun _ z=>nomatch z)⟩
 ·rw [hH _ (nn _ I.free)];exact I.free
 ·rw [hH _ (nn _ (I.freeC x c e))];exact I.freeC x c e
 ·obtain ⟨e,n,r⟩:=I.pin p hp'
  exact ⟨e,by rw [hH _ (nn _ n)];exact n,r⟩
 ·by_cases hb:b=a
  ·rw [hb,hz] at e;cases e
  ·rw [hH b hb] at e
   exact (I.hok b u e).stay (fun c v _ q=>q) (fun c q=>no _ _ q (fun _ z=>nomatch z)) fun c xs q=>no _ _ q (fun _ z=>nomatch z)
theorem Hq {c:Nat}{x:Str}{C:Addr}{i:Int}{t:Tok}{Q:MG->MI->Prop}(J:kj fa X.prog X.w X.K X.mg X.base c x)(hr:bu 2 X.A)(hex:X.ex=[])(I:Inv X pins σ H s)(hC:X.mg x=some (.ref C))(hi:i.natAbs<2^64)
 (h:∀e d s',fa (eI c)=some C->lV X e->H e=none->H d=none->d≠e->Inv X pins σ (upd (upd H d (.xd [(f7 c,.int i)])) e (.ext (d4 C (some d) e))) s'->Q (.ref e) s'):wpAny (model X.prog X.w) X.A (call (.ref C) [.int i t]) Q X.xe s:=by
 obtain ⟨C',fI,fd,y,oI,m1,hf,hin,hk,hfI,hfc,hb,F⟩:=J
 rw [hC] at m1
 cases m1
 obtain ⟨bm,N,nm,q,bs,hdct,sn,sub,ab,col,dd,k0,k1,k2,k3,k5,mN,hCo,hN,hni,T⟩:=lK I.kIn hin
 obtain ⟨hp,g,dr,tk,os⟩:=s
 refine yY hCo T hN hni (I.kIn _ _ hfI) hfc (fun h' e hm=>?_) (by rw [<- cV];exact Oi rfl)
 obtain ⟨tp,ht,_,_⟩:=hm.there
 obtain ⟨n1,n2⟩:=nq I hex hm.new
 have I1:=I.kept (t':=tk) hm.keeps
 have I2:Inv X pins σ (upd H e (.ext (d4 C none e))) ⟨h',g,dr,tk,os⟩:=yy I1 hex n2 n1.1 ⟨_,_,ht,rfl⟩ (fun p hp z=>by
  have:=(I.pin p hp).1
  rw [z,hm.new] at this;cases this) (oK ⟨_,_,tp,ht,rfl,rfl,rfl,rfl,rfl⟩)
 have hb':=hb ⟨h',g,dr,tk,os⟩ [.ref e,.int i t] I2.kIn rfl
 rw [OA] at hb'
 refine wpAny_call (codeAny_mono (F.run _ X.stack ⟨h',g,dr,tk,os⟩ (upd H e (.ext (d4 C none e))) ⟨[.ref e,.int i t],[]⟩ [.ref e,.int i t] [.ref e,.int i] (fun v H'=>v=.non/\∃d,H d=none/\d≠e/\H'=upd (upd H d (.xd [(f7 c,.int i)])) e (.ext (d4 C (some d) e))) (fun _ _ _=>False) (hr.make C [.int i t] []) (I2.env0.make C [.int i t] []) hb' (.cons rfl (.cons ⟨t,rfl⟩ .nil)) ?_) fun r s' hq'=>?_)
 ·refine ⟨e,i,rfl,bt,hi,fun d hd hde=>⟨rfl,d,by rw [ax hde] at hd;exact hd,hde,?_⟩⟩
  funext b
  unfold upd
  split
  ·rfl
  ·split
   ·rfl
   ·rfl
 ·cases r with
  | error e' =>
    obtain ⟨_,_,_,_,_,_,_,_,_,_,z⟩:=hq'
    exact z.elim
  | ok fl =>
    cases fl with
    | ret u =>
      obtain ⟨v,H',I3,rv,ev,d,hd,hde,eH⟩:=I2.after hq'
      subst ev eH
      exact ⟨rv,h e d s' hf n1 n2 hd hde I3⟩
    |next=>exact False.elim hq'
    |brk=>exact False.elim hq'
    |cont=>exact False.elim hq'
end
noncomputable def gMkI (c:Nat)(a:GE):GE:=fun Z M=>(a Z M).bind fun d M=>match d with
 |.int i=>if i.natAbs<2^64 then .ok (.exc c (some i)) M else .bad
 |_=>.bad
noncomputable def jU (c:Nat)(a:GE):GS:=fun Z M=>match a Z M with
 |.ok (.int i) M=>if i.natAbs<2^64 then .ok (.exc (.exc c (some i)) Z) M else .bad
 |_=>.bad
theorem vp {M:Model}{A:NL}{E:MG->MI->Prop}{env:Nx}{nm q:Str}{C N:Addr}{bs bm:List MG}{hdct:Bool}{sn:List Str}{sub:List MG}{ab:Bool}{col:Option Bool}{dd:Option Addr}{k0 k1 k2 k3 k5:Option MG}{newId:String}
 {s:MI}{x:Sem MG}{Q:Flow->MI->Prop} (hbase:bm.contains (.type "BaseException")=true) (hh:A.handled=none)
 (h:wpAny M A x (fun v s₁=>∃e o vs,v=.ref e/\s₁.heap.get? C=some (excClassObj nm q C N bs bm hdct sn sub ab col dd k0 k1 k2 k3 k5 newId)/\s₁.heap.get? e=some o/\o.cls=.ref C/\o.data=.fields vs/\vs[1]?=some .none/\E (.ref e) s₁) E s) :
 wpAny M A (raiseStmt env (some x) none) Q E s:=by
 have hcB:(Value.ref C::bm).contains (.type "BaseException")=true:=by rw [List.contains_cons,hbase,Bool.or_true]
 unfold raiseStmt
 refine tqa (wpAny_mono h (fun v s₁ h₁=>?_) fun _ _ x=>x)
 obtain ⟨e,⟨cl,od,da,sl⟩,vs,rfl,hC,he,hc,hd,h1,hE⟩:=h₁
 obtain rfl:cl=.ref C:=hc
 obtain rfl:da=.fields vs:=hd
 obtain ⟨hp,g,d,tk,os⟩:=s₁
 repeat (first|with_reducible refine wpAny_loadPart_at he ?_|with_reducible refine wpAny_loadPart_at hC ?_|(with_reducible refine wpAny_isSubtype_exc hC ?_;rw [hcB])|(with_reducible refine tqf he rfl h1 ?_)|wp_step)
 exact wpAny_raiseNew_none hh hE
section
variable {fa:Fa}{X:Cx}{a b:Expr}{ga gb:GE}{ta:GT}{pos p np cpos:Pos}{es:List Expr}{gs:GA}{n:Nat}{x:Str}
theorem Be (c:Nat){pins:List (Addr×Obj)}{σ:L2.St}{H:Hp}{s:MI}{Q:MG->MI->Prop}(J:kj fa X.prog X.w X.K X.mg X.base c x)(hr:bu 2 X.A)(hex:X.ex=[])(hg:Gl X x)(ha:DE fa X a ga)(hdb:(x==("__debug__":Str))=false)(he:notStar a=true)(I:Inv X pins σ H s)
 (h:∃μ Z M,a8 fa X.K μ H σ Z/\RelM fa X.K μ H M/\ag (ga Z M) fun d M'=>∃i,d=.int i/\i.natAbs<2^64/\∀H1 μ1 e d C s',Ext μ H μ1 H1->a8 fa X.K μ1 H1 σ Z->RelM fa X.K μ1 H1 M'->X.mg x=some (.ref C)->fa (eI c)=some C->lV X e->H1 e=none->H1 d=none->d≠e->Inv X pins σ (upd (upd H1 d (.xd [(f7 c,.int i)])) e (.ext (d4 C (some d) e))) s'->Q (.ref e) s') :
 wpAny (model X.prog X.w) X.A (eval (.Call (.Name x np) [a] [] cpos) X.env) Q X.xe s:=by
 obtain ⟨μ,Z,M,hE,hM,h⟩:=h
 obtain ⟨C,fI,fd,y,oI,m1,hf,hin,hk,r⟩:=id J
 refine wpAny_Call_Name_kw (fj I hg m1 ?_ hdb)
 refine Og (h₀:=X.base) I.ok.mod.kin hk (aN (bO ha eT (bg he) cpos pins s σ H (fun vs H1=>∃μ1 M1 i,Ext μ H μ1 H1/\RelM fa X.K μ1 H1 M1/\vs=[.int i]/\i.natAbs<2^64/\∀H1 μ1 e d C s',Ext μ H μ1 H1->a8 fa X.K μ1 H1 σ Z->RelM fa X.K μ1 H1 M1->X.mg x=some (.ref C)->fa (eI c)=some C->lV X e->H1 e=none->H1 d=none->d≠e->Inv X pins σ (upd (upd H1 d (.xd [(f7 c,.int i)])) e (.ext (d4 C (some d) e))) s'->Q (.ref e) s') I ⟨μ,Z,M,hE,hM,aO h fun d M' ⟨i,ed,hi,k⟩ v H1 μ1 x1 m1 r1=>by
  subst ed
  obtain rfl:v=.int i:=r1
  exact ⟨μ1,M',i,x1,m1,rfl,hi,k⟩⟩) fun us s1 ⟨vs,H1,I1,r,μ1,M1,i,x1,mm,ev,hi,k⟩=>⟨I1.kIn,?_⟩) (bg he) (bW (es:=[]) rfl)
 subst ev
 cases r with
 | cons r1 r2 =>
   cases r2
   obtain ⟨t,rfl⟩:=r1
   exact Hq J hr hex I1 m1 hi fun e d s' hfa n1 n2 hd hde I3=>k H1 μ1 e d C s' x1 (hE.ext x1) mm m1 hfa n1 n2 hd hde I3
theorem Ag (c:Nat)(J:kj fa X.prog X.w X.K X.mg X.base c x)(hr:bu 2 X.A)(hex:X.ex=[])(hg:Gl X x)(hc:X.calm=true)(ha:DE fa X a ga)(hdb:(x==("__debug__":Str))=false)(he:notStar a=true):DS fa X (.Raise (some (.Call (.Name x np) [a] [] cpos)) none pos) (jU c ga):=by
 intro pins s σ H D' I ⟨μ,Z,M,hE,hM,h⟩
 obtain ⟨C,fI,fd,y,oI,m1,hf,hin,hk,r⟩:=id J
 obtain ⟨bm,N,nm,q,bs,hdct,sn,sub,ab,col,dd,k0,k1,k2,k3,k5,mN,hCo,hN,hni,T⟩:=lK I.ok.mod.kin hin
 rw [arm_exec_Raise]
 simp only [evalOpt,Option.map]
 refine tqa (wpAny_standAt (vp (C:=C) (nm:=nm) (q:=q) (N:=N) (bs:=bs) (bm:=bm) (hdct:=hdct) (sn:=sn) (sub:=sub) (ab:=ab) (col:=col) (dd:=dd) (k0:=k0) (k1:=k1) (k2:=k2) (k3:=k3) (k5:=k5) (newId:="ValueError.__new__") (T.hasType (by decide +kernel)) (I.ok.hd hc) (tqa (wpAny_mono (Be (Q:=fun v s₁=>∃e o vs,v=.ref e/\s₁.heap.get? C=some (excClassObj nm q C N bs bm hdct sn sub ab col dd k0 k1 k2 k3 k5 "ValueError.__new__")/\s₁.heap.get? e=some o/\o.cls=.ref C/\o.data=.fields vs/\vs[1]?=some .none/\X.xe (.ref e) s₁) c J hr hex hg ha hdb he I ?_) (fun v s₃ h₃=>tqa (wpAny_standAt (tqb h₃))) fun _ _ x=>x))))
 refine ⟨μ,Z,M,hE,hM,?_⟩
 unfold jU at h
 cases eg:ga Z M with
 |err=>rw [eg] at h;exact h.elim
 |bad=>rw [eg] at h;exact h.elim
 | ok x0 M1 =>
   rw [eg] at h
   cases x0 with
   | int i =>
     dsimp only at h
     split at h
     ·next hi=>
      have h:XW fa X μ H (.exc c (some i)) Z M1:=h
      refine ⟨i,rfl,hi,fun H1 μ1 e d C' s' x1 hE1 hM1 hm hf nw he hd hde I3=>?_⟩
      rw [m1] at hm
      cases hm
      have ne:upd (upd H1 d (.xd [(f7 c,.int i)])) e (.ext (d4 C (some d) e)) e=some (.ext (d4 C (some d) e)):=bt
      obtain ⟨⟨o,vs,t0,g1,g2,g3,g4,g5,g6⟩,_,_⟩:=I3.hok e _ ne
      have he':upd H1 d (.xd [(f7 c,.int i)]) e=none:=by rw [ax (NV hde)];exact he
      have I4:Inv X pins σ (upd H1 d (.xd [(f7 c,.int i)])) s':=tW I3 ne (fun b hb=>(ax hb).symm) he'
      have hMd:RelM fa X.K μ1 (upd H1 d (.xd [(f7 c,.int i)])) M1:=hM1.alloc hd
      have xd:=Ext.alloc (o:=.xd [(f7 c,.int i)]) hM1 hd
      exact ⟨e,o,vs,rfl,I3.bk _ _ hCo,g1,g2,g4,g6,h pins σ _ μ1 s' e C (some d) c (some i) I4 (x1.trans xd) (hE1.ext xd) hMd rfl hf ⟨d,rfl,bt⟩ ⟨nw,he',o,vs,g1,g2,g3,g4,.inl g6⟩⟩
     ·exact h.elim
   |_=>exact h.elim
noncomputable def CU (fa:Fa)(K:MF)(f:Str):Prop:=∀c C,fa (eI c)=some C->f7 c=f->PySem.W.hasDictIn K C=true/\PySem.W.findIn K (.ref C) f=some none
end
end LD
namespace LD
open PySem PySem.Spec PyProof.Rows L2
noncomputable def inC (s:Stmt):Stmt:=match s with
 |.ClassDef _ _ _ (b::_) _ _ _ _ _ _ _=>b
 |_=>s
noncomputable def CG (z y:Str)(a:GE):GE:=fun Z M=>(a Z M).bind fun d M=>match d with
 |.int i=>if z.length<=1000/\y.length<=1000/\i.natAbs<2^64 then .ok (.str (z++(toString i:Str)++y)) M else .bad
 |_=>.bad
theorem Li {fa:Fa}{X:Cx}{a:Expr}{ga:GE}{pos p1 p2 p3:Pos}{j j2:Nat}{z y:Str}(ha:DE fa X a ga):DE fa X (.JoinedStr [.Constant (.str z) j p1,.FormattedValue a (-1) none p2,.Constant (.str y) j2 p3] pos) (CG z y ga):=
 br (Jo ha) fun σ H Q ⟨μ,Z,M,hE,hM,h⟩=>by
  obtain ⟨x0,M1,eg,h1⟩:=aI h
  cases x0 with
  | int i =>
    have h1:ag (if z.length<=1000/\y.length<=1000/\i.natAbs<2^64 then .ok (.str (z++(toString i:Str)++y)) M1 else .bad) (aY fa X.K μ H Q):=h1
    split at h1
    ·next hm=>
     refine ⟨MR hm.1 (by rw [<- cV];decide),μ,Z,M,hE,hM,?_⟩
     rw [eg]
     intro v H1 μ1 x1 m1 r1
     obtain rfl:v=.int i:=r1
     exact ⟨i,rfl,yI hm.1 hm.2.1 hm.2.2,h1 (.str _) H1 μ1 x1 m1 rfl⟩
    ·exact h1.elim
  |_=>exact h1.elim
noncomputable def HI (K:MF)(C D fI:Addr)(fld:Str):Bool:=j7 K C fI&&PySem.W.keepIn K (.ref C)&&PySem.W.readsIn K D (.type "type")&&(PySem.W.specialIn K (.ref D) "__getattribute__"==some (some (.builtin "type.__getattribute__")))&&setIn K C fld&&PySem.W.keepIn K (.ref fI)
theorem A4 {fa:Fa}{w:Nd}{K:MF}{mg:Str->Option MG}{h:Heap}{c:Nat}{x qual y z pm:Str}{st:Stmt}{C D fI cd:Addr}{t:Tok}{p1 p2 p3 p4 p5 p6 p7 p8 p9 p10 p11 p12 p13:Pos}{j:Nat}(X:K.In h)(G:h.Ns mainGlobals mg)
 (a:PySem.W.nsIn K mainGlobals x=some (some (.ref C))) (aD:PySem.W.nsIn K mainGlobals "DeedError"=some (some (.ref D))) (hf:fa (eI c)=some C) (b:HI K C D fI (f7 c)=true) (h2:PySem.W.findCls K (.ref D) (.type "type") "__init__"=some (.val (.builtin "ValueError.__init__")))
 (l:K.lookup fI=some ⟨.type "function",none,.func (PySem.W.fnOf "__init__" qual (fk st) (cx st) (aL st) .none .none .none (.str pm t) none (.ref cd) .none),#[]⟩) (e:PySem.W.codeIn K (.ref cd) qual=true) (S:f6 ["self",y] ["self",y] (aL st))
 (hb:cx st=[.Expr (.Call (.Attribute (.Name "DeedError" p1) "__init__" p2) [.Name "self" p3,.JoinedStr [.Constant (.str z) j p4,.FormattedValue (.Name y p5) (-1) none p6] p7] [] p8) p9,.Assign [.Attribute (.Name "self" p10) (f7 c) p11] (.Name y p12) p13])
 (hev:∀L cd,C5 "DeedError" "__init__" (.Name "self" p3) (.JoinedStr [.Constant (.str z) j p4,.FormattedValue (.Name y p5) (-1) none p6] p7) p1 p2 p8 (envOfC qual (aL st) L fI cd))
 (hz:z.length<=1000) (hyd:(y==("__debug__":Str))=false) (hyc:(y==("__classdict__":Str))=false) (v0:(aL st).names.lookup ("self":Str)=some .local) (v1:(aL st).names.lookup y=some .local)
 (hg:∀L cd,(envOfC qual (aL st) L fI cd).kindOf "DeedError"=some .globalImplicit)
 (hbd:∀(kV doc pm:MG) (an:Option Addr) (cdv ct u1 u2:MG),bindArgs (PySem.W.fnOf "__init__" qual (fk st) (cx st) (aL st) .none kV doc pm an cdv ct) ⟨[u1,u2],[]⟩=pure ((["self",y]:List Str).zip [u1,u2])) (P:Na) (base:Heap):kj fa P w K mg base c x:=by
 simp only [HI,MM,beq_iff_eq] at b
 obtain ⟨⟨⟨⟨⟨b1,b2⟩,b3⟩,b4⟩,b5⟩,b6⟩:=b
 have F:=yG l e b6
 exact ⟨C,fI,_,y,_,NW X G a,hf,b1,b2,l,rfl,F.binds fun kV doc pm an cdv ct us hl=>Ki (p:=fun us=>bindArgs (PySem.W.fnOf "__init__" qual (fk st) (cx st) (aL st) .none kV doc pm an cdv ct) ⟨us,[]⟩=pure ((["self",y]:List Str).zip us)) (hbd kV doc pm an cdv ct) us hl,
  HH F S hb hev hz hyd hyc v0 v1 hg (NW X G aD) b3 h2 b4 b1 b5⟩
end LD
namespace LD
open PySem PySem.Spec PyProof.Rows L2
noncomputable def jR (k1 k2:Nat)(h:GS):Fl->Mem->Res Fl
 | .exc x Z, M => match x with
   |.exc c _=>if c=k1\/c=k2 then (h Z M).bind fun fl M=>match fl with|.exc _ _=>.bad|fl=>.ok fl M else .bad
   |_=>.bad
 |fl,M=>.ok fl M
noncomputable def lg (b:GS)(k1 k2:Nat)(h:GS):GS:=fun Z M=>(b Z M).bind (jR k1 k2 h)
noncomputable def u5 (fa:Fa)(K:MF)(mg:Str->Option MG)(x1 x2:Str)(k1 k2:Nat):Prop:=∃D1 D2,mg x1=some (.ref D1)/\mg x2=some (.ref D2)/\∀c C,c=k1\/c=k2->fa (eI c)=some C->PySem.W.exmAny K (.ref C) [.ref D1,.ref D2]=some true
noncomputable def KU (K:MF)(cl:List (Nat×Addr))(D1 D2:Addr)(k1 k2:Nat):Bool:=cl.all fun q=>!(q.1==k1||q.1==k2)||PySem.W.exmAny K (.ref q.2) [.ref D1,.ref D2]==some true
theorem FL {K:MF}{l cl:List (Nat×Addr)}{D D1 D2:Addr}{mg:Str->Option MG}{x1 x2:Str}{k1 k2:Nat}(m1:mg x1=some (.ref D1))(m2:mg x2=some (.ref D2))(h:KU K cl D1 D2 k1 k2=true):u5 (sS l cl D) K mg x1 x2 k1 k2:=by
 refine ⟨D1,D2,m1,m2,fun c C hc e=>?_⟩
 have:=MX.mp h _ (j6 e)
 rw [Oo] at this
 rcases this with z|z
 ·have e1:(c==k1||c==k2)=true:=by simpa using hc
  have z:(!(c==k1||c==k2))=true:=z
  rw [e1] at z
  cases z
 ·exact eq_of_beq z
end LD
namespace LD
open PySem PySem.Spec PyProof.Rows L2
noncomputable def sR (M:Mem)(o:Nat)(nm:Str):Option D:=if 5000<=o then (match M[o-5000]? with
 |some (.int c::es)=>((bT c.toNat).findIdx? (·==nm)).bind fun i=>es[i]?
 |_=>none) else none
noncomputable def bR (nm:Str)(a:GE):GE:=fun Z M=>(a Z M).bind fun x M=>match x with
 |.fn o=>bK M (sR M o nm)
 |_=>.bad
noncomputable def zf (fa:Fa)(K:MF):Prop:=∀c C,fa (gL c)=some C->bT c≠[]->gO K C/\∀f∈bT c,jv K C f
section
variable {fa:Fa}{K:MF}{μ:Mu}{H:Hp}{M:Mem}
theorem RelM.obj (h:RelM fa K μ H M){o:Nat}{a:Addr}{c:Int}{es:List D}(ho:5000<=o)(ha:μ.ob o=some a)(e:M[o-5000]?=some (.int c::es)) :
 ∃n C dx fs,c=(n:Nat)/\fa (gL n)=some C/\H a=some (.ins C dx fs)/\fs.map (·.1)=(bT n).take fs.length/\aF fa K μ H es (fs.map (·.2)):=by
 have eo:aG (o-5000)=o:=Nat.add_sub_cancel' ho
 rcases h.at' _ _ e with ⟨b,vs,h1,_⟩|⟨b,n,C,dx,fs,es',h1,h2,h3,h4,h5,h6,h7⟩
 ·have:=h.sep _ _ h1
  rw [eo,ha] at this;cases this
 ·rw [eo,ha] at h1;cases h1
  cases h6
  exact ⟨n,C,dx,fs,rfl,h3,h4,h5,h7⟩
theorem sF {nm:Str}:∀{fs:List (Str×V)}{ns:List Str}{i:Nat}{v:V},fs.map (·.1)=ns.take fs.length->ns.findIdx? (·==nm)=some i->(fs.map (·.2))[i]?=some v->fs.lookup nm=some v
 |[],_,_,_,_,_,e=>by simp at e
 |(x,u)::fs,[],_,_,h,_,_=>by simp at h
 | (x, u) :: fs, y :: ns, i, v, h, f, e => by
   simp only [NQ,ND,List.take_succ_cons,List.cons.injEq] at h
   obtain ⟨rfl,h⟩:=h
   rw [List.findIdx?_cons] at f
   split at f
   ·next q=>
    cases f
    cases e
    rw [Nq,show (nm==x)=true by rw [<- eq_of_beq q,beq_self_eq_true]]
   ·next q=>
    obtain ⟨j,hj,rfl⟩:=Nj.mp f
    rw [Nq,show (nm==x)=false by rw [Bool.eq_false_iff];exact fun z=>q (by rw [<- eq_of_beq z,beq_self_eq_true])]
    exact sF h hj e
end
section
variable {fa:Fa}{X:Cx}{a:Expr}{ga:GE}{pos:Pos}
theorem J4 (nm:Str)(hc:zf fa X.K)(hf:∀o,5000<=o->fa o=none)(ha:DE fa X a ga)(hb:attributeBase a nm X.env (eval a X.env)=eval a X.env):DE fa X (.Attribute a nm pos) (bR nm ga):=
 br (GP ha hb) fun σ H Q ⟨μ,Z,M,hE,hM,h⟩=>by
  obtain ⟨x0,M1,eg,h⟩:=aI h
  refine ⟨μ,Z,M,hE,hM,?_⟩
  rw [eg]
  intro v H1 μ1 x1 m1 r1
  cases x0 with
  | fn o =>
    dsimp only at h
    obtain ⟨d,ed,q⟩:=jZ h
    unfold sR at ed
    split at ed
    ·next ho=>
     split at ed
     ·next c es em=>
      obtain ⟨i,hi,ei⟩:=N0.mp ed
      obtain ⟨b,rfl,hb⟩:=r1
      rcases hb with hb|⟨_,hb⟩
      ·rw [hf o ho] at hb;cases hb
      obtain ⟨n,C,dx,fs,rfl,hC,hH,hn,hr⟩:=m1.obj ho hb em
      rw [N6] at hi
      obtain ⟨v,hv,rv⟩:=hr.get ei
      have ne:bT n≠[]:=fun z=>by rw [z] at hi;cases hi
      obtain ⟨cl,na⟩:=hc n C hC ne
      have mem:nm∈bT n:=by
       obtain ⟨hl,h1,_⟩:=OV.mp hi
       rw [<- eq_of_beq h1];exact Ox _
      exact ⟨b,C,dx,fs,v,rfl,hH,cl,na nm mem,sF hn hi hv,q v H1 μ1 x1 m1 rv⟩
     ·cases ed
    ·cases ed
  |_=>exact h.elim
end
noncomputable def kL (M:Mem)(o:Nat)(nm:Str)(z:D):Option Mem:=if 5000<=o then (match M[o-5000]? with
 |some (.int c::es)=>((bT c.toNat).findIdx? (·==nm)).bind fun i=>if i<es.length then some (M.set (o-5000) (.int c::es.set i z)) else if i=es.length then some (M.set (o-5000) (.int c::(es++[z]))) else none
 |_=>none) else none
noncomputable def hU (nm:Str)(a v:GE):GS:=fun Z M=>(v Z M).bind fun z M=>(a Z M).bind fun x M=>match x with
 | .fn o => (match kL M o nm z with
   |some M'=>.ok (.next Z) M'
   |none=>.bad)
 |_=>.bad
theorem Ba (n:Nat):(bT n).length<1000:=by
 unfold bT
 split<;>decide
theorem ux {nm:Str}{v:V}:∀{fs:List (Str×V)}{ns:List Str}{i:Nat},fs.map (·.1)=ns.take fs.length->ns.findIdx? (·==nm)=some i->i<fs.length->(cE nm v fs).map (·.1)=fs.map (·.1)/\(cE nm v fs).map (·.2)=(fs.map (·.2)).set i v
 |(x,u)::fs,[],_,h,_,_=>by simp at h
 | (x, u) :: fs, y :: ns, i, h, f, l => by
   simp only [NQ,ND,List.take_succ_cons,List.cons.injEq] at h
   obtain ⟨rfl,h⟩:=h
   rw [List.findIdx?_cons] at f
   show (if x=nm then (x,v)::fs else (x,u)::cE nm v fs).map _=_/\(if x=nm then (x,v)::fs else (x,u)::cE nm v fs).map _=_
   split at f
   ·next q=>
    cases f
    rw [if_pos (eq_of_beq q)]
    exact ⟨rfl,rfl⟩
   ·next q=>
    obtain ⟨j,hj,rfl⟩:=Nj.mp f
    rw [if_neg (fun z=>q (by rw [z,beq_self_eq_true]))]
    obtain ⟨h1,h2⟩:=ux (v:=v) h hj (Nat.lt_of_succ_lt_succ l)
    exact ⟨by rw [NQ,h1];rfl,by rw [NQ,h2];rfl⟩
theorem uy {nm:Str}{v:V}:∀{fs:List (Str×V)}{ns:List Str},fs.map (·.1)=ns.take fs.length->ns.findIdx? (·==nm)=some fs.length->cE nm v fs=fs++[(nm,v)]
 |[],_,_,_=>rfl
 |(x,u)::fs,[],h,_=>by simp at h
 | (x, u) :: fs, y :: ns, h, f => by
   simp only [NQ,ND,List.take_succ_cons,List.cons.injEq] at h
   obtain ⟨rfl,h⟩:=h
   rw [List.findIdx?_cons] at f
   show (if x=nm then (x,v)::fs else (x,u)::cE nm v fs)=_
   split at f
   ·cases f
   ·next q=>
    obtain ⟨j,hj,e⟩:=Nj.mp f
    cases e
    rw [if_neg (fun z=>q (by rw [z,beq_self_eq_true])),uy h hj];rfl
section
variable {fa:Fa}{K:MF}{μ:Mu}{H:Hp}{M:Mem}
theorem Ext.ins {a C dx:Addr}{fs fs':List (Str×V)}(h:RelM fa K μ H M)(hH:H a=some (.ins C dx fs)):Ext μ H μ (upd H a (.ins C dx fs')):=by
 have ne:∀{b o},H b=some o->(∀C dx fs,o≠.ins C dx fs)->b≠a:=fun g n z=>by rw [z,hH] at g;cases g;exact n _ _ _ rfl
 refine ⟨⟨fun _ _ q=>q,fun b vs g=>?_,fun b vs g n=>⟨by rw [ax (ne g (fun _ _ _ z=>by cases z))];exact g,n⟩,fun b ob u g=>by rw [ax (ne g (fun _ _ _ z=>by cases z))];exact g,fun b o i g=>?_,fun _ _ q=>q⟩,rfl,fun b hb=>?_⟩
 ·rcases g with g|⟨ob,g⟩
  ·exact .inl (by rw [ax (ne g (fun _ _ _ z=>by cases z))];exact g)
  ·exact .inr ⟨ob,by rw [ax (ne g (fun _ _ _ z=>by cases z))];exact g⟩
 ·rw [ax (ne g (fun _ _ _ z=>by rcases i with ⟨_,i⟩|⟨_,i⟩<;>(rw [i] at z;cases z)))];exact g
 ·obtain ⟨⟨vs,g⟩,_⟩:=h.pv b hb
  rw [ax (ne g (fun _ _ _ z=>by cases z))]
theorem RelM.objW (h:RelM fa K μ H M){k n:Nat}{a C dx:Addr}{fs fs':List (Str×V)}{ds es:List D}(e:M[k]?=some ds)(ha:μ.ob (aG k)=some a)(hC:fa (gL n)=some C)(hH:H a=some (.ins C dx fs))(hn:fs'.map (·.1)=(bT n).take fs'.length)(hr:aF fa K μ H es (fs'.map (·.2))) :
 RelM fa K μ (upd H a (.ins C dx fs')) (M.set k (.int n::es)):=by
 have x:Ext μ H μ (upd H a (.ins C dx fs')):=Ext.ins h hH
 refine ⟨fun j es' q=>?_,fun j hj=>h.out j (by simpa using hj),fun j hj=>h.oout j (by simpa using hj),h.inj,h.oinj,h.sep,fun b hb=>⟨let ⟨⟨vs,g⟩,_⟩:=h.pv b hb;⟨vs,by rw [x.pk b hb];exact g⟩,(h.pv b hb).2⟩⟩
 by_cases hj:j=k
 ·subst hj
  have hl:j<M.length:=(MH.mp e).1
  rw [Nf hl] at q
  cases q
  have np:μ.pub j=none:=by
   cases z:μ.pub j with
   |none=>rfl
   |some b=>rw [h.sep j b z] at ha;cases ha
  exact .inr ⟨a,n,C,dx,fs',es,ha,np,hC,bt,hn,rfl,hr.ext x⟩
 ·rw [MW (NV hj)] at q
  rcases h.at' j es' q with ⟨b,vs,h1,h2,h3⟩|⟨b,c,C',dx',gs,es2,h1,h2,h3,h4,h5,h6,h7⟩
  ·exact .inl ⟨b,vs,h1,by rw [ax (fun z=>by rw [z,hH] at h2;cases h2)];exact h2,h3.ext x⟩
  ·have nb:b≠a:=fun z=>hj (h.oinj _ _ a (z ▸ h1) ha)
   exact .inr ⟨b,c,C',dx',gs,es2,h1,h2,h3,by rw [ax nb];exact h4,h5,h6,h7.ext x⟩
end
section
variable {fa:Fa}{X:Cx}{a e:Expr}{ga gv:GE}{pos pos':Pos}
theorem Jd (nm:Str)(hc:zf fa X.K)(hf:∀o,5000<=o->fa o=none)(ha:DE fa X a ga)(hv:DE fa X e gv)(hs:swapsWith e (some (.Attribute a nm pos')) pos.line X.env=pure false):DS fa X (.Assign [.Attribute a nm pos'] e pos) (hU nm ga gv):=
 dY (Gy ha hv hs) fun D' σ H ⟨μ,Z,M,hE,hM,h⟩=>t2 hE hM h fun z x M2 v u H2 μ2 x2 hE2 hM2 rz rx h2=>by
  cases x with
  | fn o =>
    dsimp only at h2
    cases eS:kL M2 o nm z with
    |none=>rw [eS] at h2;exact h2.elim
    | some M' =>
      rw [eS] at h2
      have q:∀σ' H' μ',Ext μ H μ' H'->a8 fa X.K μ' H' σ' Z->RelM fa X.K μ' H' M'->D'.nx σ' H':=h2
      unfold kL at eS
      split at eS
      ·next ho=>
       split at eS
       ·next c es em=>
        obtain ⟨i,hi,eS⟩:=N0.mp eS
        obtain ⟨b,rfl,hb⟩:=rx
        rcases hb with hb|⟨_,hb⟩
        ·rw [hf o ho] at hb;cases hb
        obtain ⟨n,C,dx,fs,rfl,hC,hH,hn,hr⟩:=hM2.obj ho hb em
        rw [N6] at hi
        have ne:bT n≠[]:=fun z=>by rw [z] at hi;cases hi
        obtain ⟨cl,na⟩:=hc n C hC ne
        obtain ⟨hil,hi1,_⟩:=OV.mp hi
        have mem:nm∈bT n:=by rw [<- eq_of_beq hi1];exact Ox _
        have lf:fs.length<=(bT n).length:=by
         have:=congrArg List.length hn
         rw [MQ,N8] at this
         omega
        have le:es.length=fs.length:=by rw [<- hr.length,MQ]
        have hb':μ2.ob (aG (o-5000))=some b:=by rw [show aG (o-5000)=o from Nat.add_sub_cancel' ho];exact hb
        refine ⟨b,C,dx,fs,rfl,hH,cl,na nm mem,Nat.lt_of_le_of_lt lf (Ba n),?_⟩
        have fin:∀es',M'=M2.set (o-5000) (.int n::es')->(cE nm v fs).map (·.1)=(bT n).take (cE nm v fs).length->aF fa X.K μ2 H2 es' ((cE nm v fs).map (·.2))->D'.nx σ (upd H2 b (.ins C dx (cE nm v fs))):=fun es' e1 e2 e3=>by
         subst e1
         exact q σ _ μ2 (x2.trans (Ext.ins hM2 hH)) (hE2.ext (Ext.ins hM2 hH)) (hM2.objW em hb' hC hH e2 e3)
        split at eS
        ·next hlt=>
         obtain ⟨p1,p2⟩:=ux (v:=v) hn hi (le ▸ hlt)
         have pl:(cE nm v fs).length=fs.length:=by have:=congrArg List.length p1;simpa using this
         exact fin _ (MO eS).symm (by rw [p1,pl];exact hn) (by rw [p2];exact hr.set i rz)
        ·split at eS
         ·next _ heq=>
          rw [heq,le] at hi
          have pa:=uy (v:=v) hn hi
          refine fin _ (MO eS).symm ?_ (by rw [pa,Od];exact hr.append (.one rz))
          rw [pa,Od,hn,NG]
          subst heq
          rw [List.length_singleton,List.take_add_one]
          congr 1
          rw [Nc (by rw [<- le];exact hil)]
          have:=eq_of_beq hi1
          simp only [le] at this
          simp [this]
         ·cases eS
       ·cases eS
      ·cases eS
  |_=>exact h2.elim
end
noncomputable def oH (fa:Fa)(K:MF)(m:Str)(c f:Nat):Prop:=∃C,fa (gL c)=some C/\gO K C/\(∀ad,fa f=some ad->Meth K C m ad)/\m∉bT c
noncomputable def eG (M:Mem)(o:Nat):Option Nat:=if 5000<=o then (match M[o-5000]? with
 |some (.int c::_)=>some c.toNat
 |_=>none) else none
noncomputable def bM (c f:Nat)(call:Call)(a:GE)(s:GA):GE:=fun Z M=>(a Z M).bind fun x M=>match x with
 |.fn o=>if eG M o=some c then (s Z M).bind fun ds M=>call f (.fn o::ds) M else .bad
 |_=>.bad
theorem lE {m:Str}:∀{fs:List (Str×V)}{ns:List Str},fs.map (·.1)=ns.take fs.length->m∉ns->fs.lookup m=none
 |[],_,_,_=>rfl
 |(x,u)::fs,[],h,_=>by simp at h
 | (x, u) :: fs, y :: ns, h, n => by
   simp only [NQ,ND,List.take_succ_cons,List.cons.injEq] at h
   obtain ⟨rfl,h⟩:=h
   rw [Nq,show (m==x)=false from NA.mpr fun z=>n (by rw [z];exact Ni)]
   exact lE h fun z=>n (MV _ z)
theorem mh {env:Nx}{o:Expr}{m:Str}{apos pos:Pos}{args:List Expr}(hbase:attributeBase o m env (eval o env)=eval o env)(hfew:methodCallForm args.length (backTo pos (starEach args env)) (backToKw pos (keywordEach [] env))=true)(hline:(apos.endLine==pos.line)=true) :
 ∃pl,eval (.Call (.Attribute o m apos) args [] pos) env=(do
  let ov <- eval o env
  standAt apos.atName
  let (f,first) <- holding [ov] (getMethod ov m pl)
  callWith pos f first (backTo pos (starEach args env)) (backToKw pos (keywordEach [] env))):=by
 refine ⟨(do let b <- importBound o env;pure (b.getD true)),?_⟩
 rw [eval,hbase]
 unfold methodCall
 simp only [List.length_nil,Nat.add_zero,hfew]
 have e:methodCallPos true o env apos pos=pure pos:=by unfold methodCallPos;rw [hline];rfl
 simp only [e,pure_bind]
 rfl
section
variable {fa:Fa}{X:Cx}{o e:Expr}{es:List Expr}{go:GE}{gs:GA}{pos apos:Pos}{n c f:Nat}{m:Str}{call:Call}
theorem qh {k:Nat}{C:Addr}{t:TA}(ht:∀σ H R,tA fa X.K gs σ H R->t σ H R){σ:L2.St}{H:Hp}{Q:VK}{μ:Mu}{Z:Env}{M:Mem}(hf:∀o,5000<=o->fa o=none)(hC:fa (gL c)=some C)(hnm:m∉bT c)(hE:a8 fa X.K μ H σ Z)(hM:RelM fa X.K μ H M)(h:ag (bM c f call go gs Z M) (aY fa X.K μ H Q))
 (hk:∀ds M1,ds.length≠k->call f ds M1=.bad):vd C m (ur fa X.K k (call f)) [] E0 (tE fa X.K go) t σ H Q:=
 t1 hE hM h fun x M1 v H1 μ1 x1 hE1 hM1 r1 h1=>by
  cases x with
  | fn o =>
    dsimp only at h1
    split at h1
    ·next ec=>
     unfold eG at ec
     split at ec
     ·next ho=>
      split at ec
      ·next c' es' em=>
       obtain ⟨b,rfl,hb⟩:=id r1
       rcases hb with hb|⟨_,hb⟩
       ·rw [hf o ho] at hb;cases hb
       obtain ⟨n',C',dx,fs,rfl,hC',hH,hn,_⟩:=hM1.obj ho hb em
       rw [N6] at ec
       obtain rfl:n'=c:=MO ec
       rw [hC] at hC';cases hC'
       refine ⟨b,dx,fs,rfl,hH,lE hn hnm,?_⟩
       refine ht _ _ _ (pQ hE1 hM1 h1 fun ds M2 vs H2 μ2 x2 hE2 hM2 r2 h2=>?_)
       rw [OA]
       refine ⟨?_,μ2,M2,.fn o::ds,hM2,⟨_,vs,rfl,Rep.ext x2 r1,r2⟩,xZ (jz h2 (x1.trans x2))⟩
       rw [ND,r2.length]
       by_cases hl:(D.fn o::ds).length=k
       ·exact hl
       ·rw [hk _ M2 hl] at h2;exact h2.elim
      ·cases ec
     ·cases ec
    ·exact h1.elim
  |_=>exact h1.elim
theorem sE {Z:Env}{M:Mem}{P:D->Mem->Prop}(hb:∀ds M,call f ds M=.bad)(h:ag (bM c f call go gs Z M) P):False:=by
 obtain ⟨x,M1,_,h⟩:=aI h
 cases x with
 | fn o =>
   dsimp only at h
   split at h
   ·obtain ⟨ds,M2,_,h⟩:=aI h
    rw [hb] at h;exact h
   ·exact h
 |_=>exact h
theorem Il (CO:dI fa X.prog X.w X.K X.mg X.base n f (call f))(hr:bu (2*n+4) X.A)(hf:∀o,5000<=o->fa o=none){C:Addr}(hC:fa (gL c)=some C)(cl:gO X.K C)(hm:∀ad,fa f=some ad->Meth X.K C m ad)(hnm:m∉bT c)(ho:DE fa X o go)(hs:DA fa X (e::es) gs)
 (hbase:attributeBase o m X.env (eval o X.env)=eval o X.env) (hfew:methodCallForm (e::es).length (backTo pos (starEach (e::es) X.env)) (backToKw pos (keywordEach [] X.env))=true) (hline:(apos.endLine==pos.line)=true)
 (he:starEach (e::es) X.env=(false,eval e X.env)::starEach es X.env) (hpl:(backTo pos (starEach es X.env)).any (·.1)=false) :
 DE fa X (.Call (.Attribute o m apos) (e::es) [] pos) (bM c f call go gs):=by
 rcases CO with hb|⟨ad,fd,ps,h1,h2,h3,h4,F⟩
 ·exact fun pins s σ H Q I ⟨μ,Z,M,hE,hM,h⟩=>(sE hb h).elim
 ·obtain ⟨pl,ht⟩:=mh hbase hfew hline
  exact br (Ek (pl:=pl) ho cl (hm ad h1) F hr h3 .nil l8 hs he hpl ht) fun σ H Q ⟨μ,Z,M,hE,hM,h⟩=>qh (fun _ _ _ z=>z) hf hC hnm hE hM h h4
theorem E7 (CO:dI fa X.prog X.w X.K X.mg X.base n f (call f))(hr:bu (2*n+4) X.A)(hf:∀o,5000<=o->fa o=none){C:Addr}(hC:fa (gL c)=some C)(cl:gO X.K C)(hm:∀ad,fa f=some ad->Meth X.K C m ad)(hnm:m∉bT c)(ho:DE fa X o go)
 (hbase:attributeBase o m X.env (eval o X.env)=eval o X.env) (hline:(apos.endLine==pos.line)=true) :
 DE fa X (.Call (.Attribute o m apos) [] [] pos) (bM c f call go ah):=by
 rcases CO with hb|⟨ad,fd,ps,h1,h2,h3,h4,F⟩
 ·exact fun pins s σ H Q I ⟨μ,Z,M,hE,hM,h⟩=>(sE hb h).elim
 ·obtain ⟨pl,ht⟩:=mh (args:=[]) (pos:=pos) hbase rfl hline
  exact br (Ay (pl:=pl) ho cl (hm ad h1) F hr h3 .nil l8 ht) fun σ H Q ⟨μ,Z,M,hE,hM,h⟩=>qh (fun σ H R ⟨μ,Z,M,_,hM,h⟩=>h [] H μ Ext.refl hM rfl) hf hC hnm hE hM h h4
end
noncomputable def jA (μ:Mu)(k:Nat)(p:Addr):Mu:=⟨μ.pub,μ.priv,fun j=>if j=aG k then some p else μ.ob j⟩
section
variable {fa:Fa}{K:MF}{μ:Mu}{H:Hp}{M:Mem}
theorem RelM.ob_ins (h:RelM fa K μ H M){k:Nat}{a:Addr}(e:μ.ob (aG k)=some a):∃C dx fs,H a=some (.ins C dx fs):=by
 by_cases hk:k<M.length
 ·rcases h.at' k M[k] (by simp [hk]) with ⟨b,vs,h1,_⟩|⟨b,n,C,dx,fs,es',h1,h2,h3,h4,_⟩
  ·rw [h.sep _ _ h1] at e;cases e
  ·rw [e] at h1;cases h1
   exact ⟨C,dx,fs,h4⟩
 ·rw [h.oout k (Nat.le_of_not_lt hk)] at e;cases e
theorem Ext.objNew (h:RelM fa K μ H M){x dx C:Addr}(hx:H x=none)(hd:H dx=none)(ne:dx≠x):Ext μ H (jA μ M.length x) (upd (upd H dx (.own x)) x (.ins C dx [])):=by
 have e1:Ext μ H μ (upd H dx (.own x)):=Ext.alloc h hd
 have e2:Ext μ (upd H dx (.own x)) μ (upd (upd H dx (.own x)) x (.ins C dx [])):=Ext.alloc (h.alloc hd) (by rw [ax (NV ne)];exact hx)
 have e:=e1.trans e2
 refine ⟨⟨e.mu,e.tups,fun b vs g n=>⟨(e.lsts b vs g n).1,n⟩,e.frzs,e.exts,fun j b z=>?_⟩,rfl,e.pk⟩
 show (if j=aG M.length then some x else μ.ob j)=some b
 split
 ·next q=>rw [q,h.oout _ (MN _)] at z;cases z
 ·exact z
theorem RelM.objNew (h:RelM fa K μ H M){x dx C:Addr}{c:Nat}(hx:H x=none)(hd:H dx=none)(ne:dx≠x)(hC:fa (gL c)=some C):RelM fa K (jA μ M.length x) (upd (upd H dx (.own x)) x (.ins C dx [])) (M++[[.int c]]):=by
 have X:Ext μ H (jA μ M.length x) (upd (upd H dx (.own x)) x (.ins C dx [])):=Ext.objNew h hx hd ne
 have old:∀{b o},H b=some o->(upd (upd H dx (.own x)) x (.ins C dx [])) b=some o:=fun g=>by rw [ax (aP g hx),ax (aP g hd)];exact g
 have pc:∀{k b},(jA μ M.length x).ob (aG k)=some b->(k=M.length/\b=x)\/μ.ob (aG k)=some b:=fun {k b} z=>by
  have z:(if aG k=aG M.length then some x else μ.ob (aG k))=some b:=z
  split at z
  ·next q=>cases z;exact .inl ⟨Nat.add_left_cancel q,rfl⟩
  ·exact .inr z
 refine ⟨fun k ds q=>?_,fun k hk=>h.out k (by simp at hk;omega),fun k hk=>?_,h.inj,fun j k b e1 e2=>?_,fun k b z=>?_,fun b hb=>⟨?_,(h.pv b hb).2⟩⟩
 ·by_cases hk:k<M.length
  ·rw [Nh hk] at q
   rcases h.at' k ds q with ⟨b,vs,h1,h2,h3⟩|⟨b,c',C',dx',gs,es2,h1,h2,h3,h4,h5,h6,h7⟩
   ·exact .inl ⟨b,vs,h1,old h2,h3.ext X⟩
   ·exact .inr ⟨b,c',C',dx',gs,es2,X.obs _ _ h1,h2,h3,old h4,h5,h6,h7.ext X⟩
  ·have hk':k=M.length:=by
    have:=(MH.mp q).1
    simp at this;omega
   subst hk'
   rw [NP (MN _)] at q
   simp at q
   subst q
   exact .inr ⟨x,c,C,dx,[],[],by show (if aG M.length=aG M.length then some x else _)=some x;rw [if_pos rfl],h.out _ (MN _),hC,bt,rfl,rfl,rfl⟩
 ·show (if aG k=aG M.length then some x else μ.ob (aG k))=none
  simp at hk
  rw [if_neg (fun z=>by have:=Nat.add_left_cancel z;omega)]
  exact h.oout k (by omega)
 ·rcases pc e1 with ⟨a1,a2⟩|a1<;>rcases pc e2 with ⟨b1,b2⟩|b1
  ·omega
  ·subst a2;obtain ⟨_,_,_,z⟩:=h.ob_ins b1;rw [hx] at z;cases z
  ·subst b2;obtain ⟨_,_,_,z⟩:=h.ob_ins a1;rw [hx] at z;cases z
  ·exact h.oinj j k b a1 b1
 ·show (if aG k=aG M.length then some x else μ.ob (aG k))=none
  have z:μ.pub k=some b:=z
  rw [if_neg (fun q=>by rw [Nat.add_left_cancel q,h.out _ (MN _)] at z;cases z)]
  exact h.sep k b z
 ·obtain ⟨⟨vs,g⟩,_⟩:=h.pv b hb
  exact ⟨vs,old g⟩
end
noncomputable def kJ (c f:Nat)(call:Call)(s:GA):GE:=fun Z M=>(s Z M).bind fun ds M=>(call f (.fn (aG M.length)::ds) (M++[[.int c]])).bind fun r M'=>match r with
 |.non=>.ok (.fn (aG M.length)) M'
 |_=>.bad
section
variable {fa:Fa}{X:Cx}{e:Expr}{es:List Expr}{gs:GA}{pos p:Pos}{n c f:Nat}{x:Str}{call:Call}
theorem Im (CO:dI fa X.prog X.w X.K X.mg X.base n f (call f))(hr:bu (2*n+4+1) X.A)(hf:∀o,5000<=o->fa o=none){C:Addr}(hC:fa (gL c)=some C)(mk:∀ad,fa f=some ad->Mk X.K C ad)(hg:Gl X x)(hm:X.mg x=some (.ref C))(hs:DA fa X (e::es) gs)
 (hdb:(x==("__debug__":Str))=false) (he:starEach (e::es) X.env=(false,eval e X.env)::starEach es X.env) (hpl:(backTo pos (starEach es X.env)).any (·.1)=false) :
 DE fa X (.Call (.Name x p) (e::es) [] pos) (kJ c f call gs):=by
 rcases CO with hb|⟨ad,fd,ps,h1,h2,h3,h4,F⟩
 ·intro pins s σ H Q I ⟨μ,Z,M,hE,hM,h⟩
  obtain ⟨ds,M1,_,h⟩:=aI h
  rw [hb] at h;exact h.elim
 ·exact br (El (mk ad h1) F hr hg hm h3 .nil l8 hs hdb he hpl) fun σ H Q ⟨μ,Z,M,hE,hM,h⟩=>pQ hE hM h fun ds M1 vs H1 μ1 x1 hE1 hM1 r1 q=>by
   intro a dx na nd ne
   rw [OA]
   have X2:Ext μ1 H1 (jA μ1 M1.length a) (upd (upd H1 dx (.own a)) a (.ins C dx [])):=Ext.objNew hM1 na nd ne
   have hob:(jA μ1 M1.length a).ob (aG M1.length)=some a:=by
    show (if aG M1.length=aG M1.length then some a else _)=some a
    rw [if_pos rfl]
   have rs:Rep fa X.K (jA μ1 M1.length a) (upd (upd H1 dx (.own a)) a (.ins C dx [])) (.fn (aG M1.length)) (.ref a):=⟨a,rfl,.inr ⟨hf _ (Of _ _),hob⟩⟩
   obtain ⟨r,M2,ec,q⟩:=aI q
   refine ⟨?_,jA μ1 M1.length a,M1++[[.int c]],.fn (aG M1.length)::ds,hM1.objNew na nd ne hC,⟨_,vs,rfl,rs,r1.ext X2⟩,?_⟩
   ·rw [ND,r1.length]
    by_cases hl:(D.fn (aG M1.length)::ds).length=ps.length
    ·exact hl
    ·rw [h4 _ _ hl] at ec;cases ec
   ·rw [ec]
    intro v H3 μ3 x3 hM3 r3
    cases r with
    | non =>
      obtain rfl:v=.non:=r3
      exact ⟨rfl,q (.ref a) H3 μ3 (x1.trans (X2.trans x3)) hM3 (rs.ext x3)⟩
    |_=>exact q.elim
end
end LD
namespace LD
open PySem PySem.Spec PyProof.Rows L2
noncomputable def pf (a:GE):GE:=fun Z M=>(a Z M).bind fun x M=>match x with
 | .cell k => match M[k]? with
   | some ds => match ds[ds.length - 1]? with
     |some y=>.ok y (M.set k ds.dropLast)
     |none=>.bad
   |none=>.bad
 |_=>.bad
noncomputable def CF (a:GE):GE:=fun Z M=>(a Z M).bind fun x M=>match x with
 | .cell k => match M[k]? with
   |some ds=>.ok .non (M.set k ds.reverse)
   |none=>.bad
 |_=>.bad
section
variable {fa:Fa}{X:Cx}{a:Expr}{ga:GE}{apos cpos:Pos}
theorem JW (ha:DE fa X a ga)(hbase:attributeBase a "pop" X.env (eval a X.env)=eval a X.env)(hline:(apos.endLine==cpos.line)=true) :
 DE fa X (.Call (.Attribute a "pop" apos) [] [] cpos) (pf ga):=
 br (xQ PySem.F.plainAttrs_list PySem.F.slot_list_pop PySem.F.type_list_pop Ho ha hbase hline) fun σ H Q ⟨μ,Z,M,hE,hM,h⟩=>
  t1 hE hM h fun x M1 v H1 μ1 x1 hE1 hM1 r1 h1=>by
   cases x with
   | cell k =>
     dsimp only at h1
     cases e:M1[k]? with
     |none=>rw [e] at h1;exact h1.elim
     | some ds =>
       rw [e] at h1
       dsimp only at h1
       cases ey:ds[ds.length-1]? with
       |none=>rw [ey] at h1;exact h1.elim
       | some y =>
         rw [ey] at h1
         obtain ⟨ad,rfl,hk⟩:=r1
         obtain ⟨ws,h4,h5⟩:=hM1.at_ e hk
         obtain ⟨w,hw,rw'⟩:=h5.get ey
         refine ⟨.inl ⟨rfl,ws,bV.of h4⟩,ad,ws,w,rfl,rfl,h4,by rw [h5.length];exact hw,?_⟩
         have h1:aY fa X.K μ H Q y (M1.set k ds.dropLast):=h1
         have x2:=Ext.write (vs:=ws) (ws:=ws.dropLast) hM1 hk
         have r:=h5.take (ds.length-1)
         rw [<- List.dropLast_eq_take,<- h5.length,<- List.dropLast_eq_take] at r
         exact h1 w _ μ1 (x1.trans x2) (hM1.write hk r) (rw'.ext x2)
   |_=>exact h1.elim
theorem Ik (ha:DE fa X a ga)(hbase:attributeBase a "reverse" X.env (eval a X.env)=eval a X.env)(hline:(apos.endLine==cpos.line)=true) :
 DE fa X (.Call (.Attribute a "reverse" apos) [] [] cpos) (CF ga):=
 br (xQ PySem.F.plainAttrs_list PySem.F.slot_list_reverse PySem.F.type_list_reverse vI ha hbase hline) fun σ H Q ⟨μ,Z,M,hE,hM,h⟩=>
  t1 hE hM h fun x M1 v H1 μ1 x1 hE1 hM1 r1 h1=>by
   cases x with
   | cell k =>
     dsimp only at h1
     cases e:M1[k]? with
     |none=>rw [e] at h1;exact h1.elim
     | some ds =>
       rw [e] at h1
       obtain ⟨ad,rfl,hk⟩:=r1
       obtain ⟨ws,h4,h5⟩:=hM1.at_ e hk
       refine ⟨.inl ⟨rfl,ws,bV.of h4⟩,ad,ws,rfl,rfl,h4,?_⟩
       have h1:aY fa X.K μ H Q .non (M1.set k ds.reverse):=h1
       have x2:=Ext.write (vs:=ws) (ws:=ws.reverse) hM1 hk
       exact h1 .non _ μ1 (x1.trans x2) (hM1.write hk h5.reverse) rfl
   |_=>exact h1.elim
theorem E9 {p pos:Pos}{n f:Nat}{x:Str}{call:Call}(C:dI fa X.prog X.w X.K X.mg X.base n f (call f))(hr:bu (2*n+4) X.A)(hg:Gl X x)(hm:∀ad,fa f=some ad->X.mg x=some (.ref ad))
 (hdb:(x==("__debug__":Str))=false):DE fa X (.Call (.Name x p) [] [] pos) (au f call ah):=by
 rcases C with hb|⟨ad,fd,ps,h1,h2,h3,h4,F⟩
 ·exact fun pins s σ H Q I ⟨μ,Z,M,hE,hM,h⟩=>(tH hb h).elim
 ·exact br (AA F hr hg (hm ad h1) h2 h3 .nil l8 hdb) fun σ H Q ⟨μ,Z,M,hE,hM,h⟩=>by
   obtain ⟨μ',ρ',M',_,hM',h'⟩:=lQ hE hM h h4
   exact h' [] H μ' Ext.refl hM' rfl
end
end LD
namespace LD
open PySem PySem.Spec PyProof.Rows L2
noncomputable def C3 (lo:Int)(n:Nat):It:=⟨fun i _=>i<n,fun i H x H'=>H'=H/\x=.int (lo-i),fun i _=>n<=i⟩
theorem xa {P:Na}{w:Nd}{K:MF}{tg:Expr}(it:Addr)(lo:Int)(n:Nat):Turn P w K tg (C3 lo n) [it] it (fun i h=>IsRangeIter h it (lo+(i:Nat)*(-1)) ((n:Int)-(i:Nat)) (-1)) where
 mem:=OS it
 obj:=fun i h st b hb=>by
  obtain rfl:=NY.mp hb
  exact ⟨_,st,fun v (z:Data.fields _=Data.cell v)=>by cases z⟩
 keep:=fun i h h' st k=>k it (OS it) _ st
 item:=by
  intro X hP hw hK hc i pins s σ H E I hf st hg
  subst hP hw hK
  obtain ⟨f0,f1,f2,f3,f4,f5⟩:=hf it (OS it)
  refine (Walks.range (prog:=X.prog) (w:=X.w) (I.ok.hd hc) it lo (-1) n).item i s _ _ hg st fun v h' tk hv st' kk=>?_
  obtain ⟨t,rfl⟩:=hv
  have I1:Inv X pins σ H {s with heap:=h',toks:=tk}:=I.turned (fun b o hb e=>kk b o (fun z=>hb (NY.mp z)) e) f0 f1 f3 f4 f5
  refine ⟨_,rfl,om (s:={s with heap:=h',toks:=tk}) (n:="range_iterator") st' rfl rfl (by decide) ⟨.int (lo-i),H,I1,⟨t,?_⟩,⟨rfl,rfl⟩,st',fun b hb=>(hf b hb).1⟩⟩
  rw [Int.mul_neg_one];rfl
 done:=by
  intro X hP hw hK hc i pins s σ H E I hf st hg
  subst hP hw hK
  obtain ⟨f0,f1,f2,f3,f4,f5⟩:=hf it (OS it)
  exact wpAny_pyNext_range_end (I.ok.hd hc) st (by have:n<=i:=hg;omega) fun h' eb=>⟨rfl,I.turned (t':=s.toks) (fun b o hb e=>eb b o hb e) f0 f1 f3 f4 f5⟩
 self:=fun _ _ _ _ _ st h=>wpAny_pyIter_rangeiter st h
theorem pV (a b:Int):Builtin.Range.rangeSize a b (-1)=((a-b).toNat:Nat):=by
 unfold Builtin.Range.rangeSize
 rw [if_neg (by decide)]
 have:-(-1:Int)=1:=rfl
 rw [this,Int.ediv_one]
 split<;>omega
theorem small_down {a b:Int}(h1:-(2^62)<=a)(h2:a<2^62)(h3:-(2^62)<=b)(h4:b<2^62):Builtin.Range.small a b (-1)=true:=by
 unfold Builtin.Range.small
 rw [pV]
 simp only [Builtin.Range.rangeFitsLong,MM,Oo,decide_eq_true_eq,beq_iff_eq,show ¬((-1:Int) > 0) by decide,if_false]
 omega
section
variable {fa:Fa}{X:Cx}{tg a b c:Expr}{ga gb gc:GE}{pos p:Pos}
theorem EU {pins:List (Addr×Obj)}{σ:L2.St}{H:Hp}{s:MI}{R:It->Hp->Prop}{E:MG->MI->Prop}{lo hi:Int}{t u v:Tok}{tk:Nat}(I:Inv X pins σ H s)(h1:-(2^62)<=lo)(h2:lo<2^62)(h3:-(2^62)<=hi)(h4:hi<2^62)
 (q:R (C3 lo (lo-hi).toNat) H):wpAny (model X.prog X.w) X.A (pyIter (.ref s.heap.objs.size)) (ze X pins σ tg R) E {s with heap:=s.heap.push {cls:=.type "range",data:=.fields #[.int lo t,.int hi u,.int (-1) v]},toks:=tk}:=by
 refine wpAny_pyIter_range (IsRange.new ..) (small_down h1 h2 h3 h4) ?_
 have I1:Inv X pins σ H {s with heap:=s.heap.push {cls:=.type "range",data:=.fields #[.int lo t,.int hi u,.int (-1) v]},toks:=tk}:=I.kept fun b o e=>MJ _ e
 generalize hg:s.heap.push {cls:=.type "range",data:=.fields #[.int lo t,.int hi u,.int (-1) v]}=g at I1
 refine ⟨g.objs.size,[g.objs.size],_,_,H,rfl,I1.kept (t':=tk) fun b o e=>MJ _ e,xa _ lo (lo-hi).toNat,?_,fun b hb=>?_,q⟩
 ·have e1:lo+((0:Nat):Int)*(-1)=lo:=by simp
  have e2:(((lo-hi).toNat:Nat):Int)-((0:Nat):Int)=Builtin.Range.rangeSize lo hi (-1):=by rw [pV];omega
  show IsRangeIter _ _ (lo+((0:Nat):Int)*(-1)) ((((lo-hi).toNat:Nat):Int)-((0:Nat):Int)) (-1)
  rw [e1,e2]
  exact M8 _ rfl
 ·obtain rfl:=NY.mp hb
  exact I1.fpOk (MN _) (I1.hok.fresh (MN _))
theorem wN {μ0:Mu}{H0:Hp}(lo:Int)(n:Nat):cT fa X.K μ0 H0 (fun _=>some ((List.range n).map fun (k:Nat)=>D.int (lo-(k:Int)))) (C3 lo n):=fun μ H M ds x hM e=>by
 cases e
 refine ⟨fun i d hd=>?_,fun i hi=>?_⟩
 ·have hl:=(MH.mp hd).1
  rw [MQ,NM] at hl
  rw [Nv,OL hl] at hd
  cases hd
  exact ⟨hl,fun y H' ⟨e,hy⟩=>by subst e;subst hy;exact ⟨.refl,hM,rfl⟩⟩
 ·rw [MQ,NM] at hi
  exact hi
noncomputable def oo (ga gb gc:GE):GW:=fun Z M=>(ga Z M).bind fun x M=>(gb Z M).bind fun y M=>(gc Z M).bind fun z M=>match x,y,z with
 |.int i,.int j,.int c=>if c=-1/\-(2^62)<=i/\i<2^62/\-(2^62)<=j/\j<2^62 then .ok (fun _=>some ((List.range (i-j).toNat).map fun (k:Nat)=>D.int (i-(k:Int)))) M else .bad
 |_,_,_=>.bad
theorem E1 (ha:DE fa X a ga)(hb:DE fa X b gb)(hc:DE fa X c gc)(hg:Gl X "range")(hm:X.mg "range"=none)(hs:starEach [a,b,c] X.env=[(false,eval a X.env),(false,eval b X.env),(false,eval c X.env)])(hs2:starEach [b,c] X.env=[(false,eval b X.env),(false,eval c X.env)])(hs3:starEach [c] X.env=[(false,eval c X.env)]) :
 DI fa X tg (.Call (.Name "range" p) [a,b,c] [] pos) (oo ga gb gc):=fun pins s σ H R I ⟨μ,Z,M,hE,hM,h⟩=>by
 refine Call_ (fD I hg hm boot_range (NN (aN (bO ha (bO hb (bO hc eT hs3) (by rw [hs2,hs3])) (by rw [hs,hs2]) pos pins s σ H (fun vs H1=>∃i j:Int,vs=[.int i,.int j,.int (-1)]/\(-(2^62)<=i/\i<2^62/\-(2^62)<=j/\j<2^62)/\R (C3 i (i-j).toNat) H1) I ?_) fun us s1 ⟨vs,H1,I1,r1,q1⟩=>?_) (by rw [hs,hs2]) (by rw [hs2];rfl)))
 ·refine t2 hE hM h fun x y M1 v u H1 μ1 x1 hE1 hM1 r1 r2 h1=>t1 hE1 hM1 h1 fun z M2 t H2 μ2 x2 hE2 hM2 r3 h2=>?_
  cases x with
  | int i =>
    cases y with
    | int j =>
      cases z with
      | int c =>
        dsimp only at h2
        split at h2
        ·next c=>
         obtain ⟨rfl,c⟩:=c
         obtain rfl:v=.int i:=r1
         obtain rfl:u=.int j:=r2
         obtain rfl:t=.int (-1):=r3
         exact ⟨i,j,rfl,c,h2 _ H2 μ2 (x1.trans x2) hM2 (wN i _)⟩
        ·exact h2.elim
      |_=>exact h2.elim
    |_=>exact h2.elim
  |_=>exact h2.elim
 ·obtain ⟨i,j,rfl,⟨q1,q2,q3,q4⟩,q⟩:=q1
  cases r1 with
  | cons r rr =>
    cases rr with
    | cons r' rr =>
      cases rr with
      | cons r2 rr =>
        cases rr
        obtain ⟨t,rfl⟩:=r
        obtain ⟨t',rfl⟩:=r'
        obtain ⟨t2,rfl⟩:=r2
        exact call_range_3 (by decide) (EU I1 q1 q2 q3 q4 q) (.inl (PyProof.noPylong_small (by decide)))
end
noncomputable def ip (c f:Nat)(call:Call)(a:GE)(s:GA):GE:=fun Z M=>match a Z M with
 | .ok (.fn o) M => if eG M o = some c then (match s Z M with
   |.ok ds M=>call f (.fn o::ds) M
   |_=>.bad) else .bad
 |_=>.bad
section
variable {fa:Fa}{X:Cx}{o e:Expr}{es:List Expr}{go:GE}{gs:GA}{pos apos:Pos}{n c f:Nat}{m:Str}{call:Call}
theorem BI {pins:List (Addr×Obj)}{σ:L2.St}{H H1:Hp}{s1:MI}{Q:VK}{μ μ1:Mu}{Z:Env}{M1:Mem}{ds:List D}{vs:List V}{us:List MG}{ad:Addr}{fd:OG}{ps:List Str}(h3:Binds X.K fd ps [])(h4:∀ds M1,ds.length≠ps.length->call f ds M1=.bad)(F:fB X.prog X.w X.K X.mg X.base (fv X.prog X.w) (2*n+4) ad fd ps (ur fa X.K ps.length (call f)))(hr:bu (2*n+4) X.A)(hex:X.ex=[])
 (I1:Inv X pins σ H1 s1) (r:Vals vs us) (hE:a8 fa X.K μ H σ Z) (x1:Ext μ H μ1 H1) (m1:RelM fa X.K μ1 H1 M1) (r1:aF fa X.K μ1 H1 ds vs) (h:gr (call f ds M1) (aY fa X.K μ H Q) (fun x M'=>XW fa X μ H x Z M')):wpAny (model X.prog X.w) X.A (PySem.call (.ref ad) us) (EP X pins σ Q) X.xe s1:=by
 have hl:ds.length=ps.length:=by
  by_cases hl:ds.length=ps.length
  ·exact hl
  ·rw [h4 ds M1 hl] at h;exact h.elim
 have hsp:ur fa X.K ps.length (call f) vs H1 Q fun Cv dx H'=>∃y M' μ' C' c p,Cv=.ref C'/\Ext μ1 H1 μ' H'/\RelM fa X.K μ' H' M'/\y=.exc c p/\fa (eI c)=some C'/\tP H' c dx p/\XW fa X μ H y Z M':=by
  refine ⟨by rw [r1.length];exact hl,μ1,M1,ds,m1,r1,?_⟩
  cases ec:call f ds M1 with
  |ok d M2=>rw [ec] at h;exact aY.ext h x1
  |err y M2=>rw [ec] at h;exact fun C dx c p H' μ' y' m ex hc hn=>⟨_,M2,μ',C,c,p,rfl,y',m,ex,hc,hn,h⟩
  |bad=>rw [ec] at h;exact h.elim
 have hl2:us.length=ps.length:=by rw [<- r.length,r1.length];exact hl
 have hb:=h3 s1 us I1.kIn (by simpa using hl2)
 rw [OA] at hb
 refine wpAny_call (codeAny_mono (F.run X.A X.stack s1 H1 ⟨us,[]⟩ us vs Q _ hr I1.env0 hb r hsp) fun r' s' hq=>?_)
 cases r' with
 | error e =>
   unfold CR at hq
   dsimp only at hq
   obtain ⟨a',C',dx,H',rfl,I',fl,y,M',μ',C2,c,p,ec,ye,m',ey,hc,hn,hw⟩:=ql I1 hex hq
   cases ec
   exact hw pins σ H' μ' s' a' C' dx c p I' (x1.trans ye) ((hE.ext x1).ext ye) m' ey hc hn fl
 | ok fl =>
   cases fl with
   |ret u=>exact I1.after hq
   |next=>exact False.elim hq
   |brk=>exact False.elim hq
   |cont=>exact False.elim hq
theorem yd {μ1:Mu}{H1:Hp}{M1:Mem}{C:Addr}{o:Nat}{v:V}(hf:∀o,5000<=o->fa o=none)(hC:fa (gL c)=some C)(hnm:m∉bT c)(m1:RelM fa X.K μ1 H1 M1)(r1:Rep fa X.K μ1 H1 (.fn o) v)(ec:eG M1 o=some c):∃b dx fs,v=.ref b/\H1 b=some (.ins C dx fs)/\fs.lookup m=none:=by
 unfold eG at ec
 split at ec
 ·next ho=>
  split at ec
  ·next c' es' em=>
   obtain ⟨b,rfl,hb⟩:=r1
   rcases hb with hb|⟨_,hb⟩
   ·rw [hf o ho] at hb;cases hb
   obtain ⟨n',C',dx,fs,rfl,hC',hH,hn,_⟩:=m1.obj ho hb em
   rw [N6] at ec
   obtain rfl:n'=c:=MO ec
   rw [hC] at hC';cases hC'
   exact ⟨b,dx,fs,rfl,hH,lE hn hnm⟩
  ·cases ec
 ·cases ec
theorem qi {Z:Env}{M:Mem}{k kx:D->Mem->Prop}(h:gr (ip c f call go gs Z M) k kx):∃o M1 ds M2,go Z M=.ok (.fn o) M1/\eG M1 o=some c/\gs Z M1=.ok ds M2/\gr (call f (.fn o::ds) M2) k kx:=by
 unfold ip at h
 cases eg:go Z M with
 | ok x M1 =>
   rw [eg] at h
   cases x with
   | fn o =>
     dsimp only at h
     split at h
     ·next ec=>
      cases es:gs Z M1 with
      |ok ds M2=>rw [es] at h;exact ⟨o,M1,ds,M2,rfl,ec,es,h⟩
      |err=>rw [es] at h;exact h.elim
      |bad=>rw [es] at h;exact h.elim
     ·exact h.elim
   |_=>exact h.elim
 |err=>rw [eg] at h;exact h.elim
 |bad=>rw [eg] at h;exact h.elim
theorem Dd (CO:dI fa X.prog X.w X.K X.mg X.base n f (call f))(hr:bu (2*n+4) X.A)(hex:X.ex=[])(hf:∀o,5000<=o->fa o=none){C:Addr}(hC:fa (gL c)=some C)(cl:gO X.K C)(hm:∀ad,fa f=some ad->Meth X.K C m ad)(hnm:m∉bT c)(ho:DE fa X o go)
 (hbase:attributeBase o m X.env (eval o X.env)=eval o X.env) (hline:(apos.endLine==pos.line)=true) :
 DX fa X (.Call (.Attribute o m apos) [] [] pos) (ip c f call go ah):=by
 intro pins s σ H Q I ⟨μ,Z,M,hE,hM,h⟩
 obtain ⟨o,M1,ds,M2,eg,ec,es,h⟩:=qi h
 cases es
 obtain ⟨pl,ht⟩:=mh (args:=[]) (pos:=pos) hbase rfl hline
 rcases CO with hb|⟨ad,fd,ps,h1,h2,h3,h4,F⟩
 ·rw [hb] at h;exact h.elim
 refine Oh (pl:=pl) (aN (ho pins s σ H (fun v H1=>∃b dx fs μ1,v=.ref b/\H1 b=some (.ins C dx fs)/\fs.lookup m=none/\Ext μ H μ1 H1/\RelM fa X.K μ1 H1 M1/\Rep fa X.K μ1 H1 (.fn o) v) I ⟨μ,Z,M,hE,hM,?_⟩) fun u s1 ⟨x,H1,I1,rx,b,dx,fs,μ1,ex,ea,l,x1,m1,r1⟩=>?_) ht
 ·rw [eg]
  intro v H1 μ1 x1 m1 r1
  obtain ⟨b,dx,fs,e1,e2,e3⟩:=yd hf hC hnm m1 r1 ec
  exact ⟨b,dx,fs,μ1,e1,e2,e3,x1,m1,r1⟩
 subst ex
 obtain rfl:u=Value.ref b:=rx
 refine gD I1 ea cl (hm ad h1) l ?_
 exact PySem.W.callWith_K0 (first:=[.ref b]) I1.kIn (hm ad h1).kp (BI (us:=[.ref b]) (vs:=[.ref b]) h3 h4 F hr hex I1 (.cons rfl .nil) hE x1 m1 (.one r1) h)
theorem Fu (CO:dI fa X.prog X.w X.K X.mg X.base n f (call f))(hr:bu (2*n+4) X.A)(hex:X.ex=[])(hf:∀o,5000<=o->fa o=none){C:Addr}(hC:fa (gL c)=some C)(cl:gO X.K C)(hm:∀ad,fa f=some ad->Meth X.K C m ad)(hnm:m∉bT c)(ho:DE fa X o go)(hs:DA fa X (e::es) gs)
 (hbase:attributeBase o m X.env (eval o X.env)=eval o X.env) (hfew:methodCallForm (e::es).length (backTo pos (starEach (e::es) X.env)) (backToKw pos (keywordEach [] X.env))=true) (hline:(apos.endLine==pos.line)=true)
 (he:starEach (e::es) X.env=(false,eval e X.env)::starEach es X.env) (hpl:(backTo pos (starEach es X.env)).any (·.1)=false) :
 DX fa X (.Call (.Attribute o m apos) (e::es) [] pos) (ip c f call go gs):=by
 intro pins s σ H Q I ⟨μ,Z,M,hE,hM,h⟩
 obtain ⟨o,M1,ds,M2,eg,ec,es,h⟩:=qi h
 obtain ⟨pl,ht⟩:=mh hbase hfew hline
 rcases CO with hb|⟨ad,fd,ps,h1,h2,h3,h4,F⟩
 ·rw [hb] at h;exact h.elim
 refine Oh (pl:=pl) (aN (ho pins s σ H (fun v H1=>∃b dx fs μ1,v=.ref b/\H1 b=some (.ins C dx fs)/\fs.lookup m=none/\Ext μ H μ1 H1/\RelM fa X.K μ1 H1 M1/\Rep fa X.K μ1 H1 (.fn o) v) I ⟨μ,Z,M,hE,hM,?_⟩) fun u s1 ⟨x,H1,I1,rx,b,dx,fs,μ1,ex,ea,l,x1,m1,r1⟩=>?_) ht
 ·rw [eg]
  intro v H1 μ1 x1 m1 r1
  obtain ⟨b,dx,fs,e1,e2,e3⟩:=yd hf hC hnm m1 r1 ec
  exact ⟨b,dx,fs,μ1,e1,e2,e3,x1,m1,r1⟩
 subst ex
 obtain rfl:u=Value.ref b:=rx
 refine gD I1 ea cl (hm ad h1) l ?_
 refine Og (first:=[.ref b]) (h₀:=X.base) I.ok.mod.kin (hm ad h1).kp (aN (hs pos pins s1 σ H1 (fun vs H2=>∃μ2,Ext μ1 H1 μ2 H2/\RelM fa X.K μ2 H2 M2/\aF fa X.K μ2 H2 ds vs) I1 ⟨μ1,Z,M1,hE.ext x1,m1,by rw [es];exact fun vs H2 μ2 x2 m2 r2=>⟨μ2,x2,m2,r2⟩⟩) fun us s2 ⟨vs,H2,I2,r,μ2,x2,m2,r2⟩=>⟨I2.kIn,?_⟩) he hpl
 exact BI (us:=.ref b::us) (vs:=.ref b::vs) h3 h4 F hr hex I2 (.cons rfl r) hE (x1.trans x2) m2 (show aF fa X.K μ2 H2 (.fn o::ds) (.ref b::vs) from ⟨_,vs,rfl,Rep.ext x2 r1,r2⟩) h
end
theorem EK {K:MF}{c d:MG}(h:PySem.W.exmAny K c [d,d]=some true):PySem.W.exmOne K c d=some true:=by
 obtain ⟨b1,d1,e1,e2,e3⟩:=PySem.W.exmAny_cons h
 obtain ⟨b2,d2,e4,e5,e6⟩:=PySem.W.exmAny_cons e2
 rw [e1] at e4;cases e4
 cases e5
 cases b1 with
 |true=>exact e1
 |false=>subst e6;cases e3
section
variable {fa:Fa}{X:Cx}{pos np hp:Pos}{x1:Str}{k1:Nat}{body suite:List Stmt}{b0:Stmt}{gB gH:GS}
theorem Ai (h2:u5 fa X.K X.mg x1 x1 k1 k1)(hex:X.ex=[])(hst:X.stack=X.env::X.outer)(hfr:X.env.frame=some X.env.locals)
 (hg:Gl X x1) (hdb:(x1==("__debug__":Str))=false) (hb:∀pn E,kU fa (oj X pn E) body gB) (hh:∀v E,kU fa (qV X v E) (b0::suite) gH) :
 DS fa X (.Try body [.ExceptHandler (some (.Name x1 np)) none (b0::suite) hp] [] [] pos) (lg gB k1 k1 gH):=by
 intro pins s σ H D' I ⟨μ,Z,M,hE,hM,h⟩
 obtain ⟨D1,D2,m1,m2,hm⟩:=h2
 obtain rfl:D1=D2:=by rw [m1] at m2;cases m2;rfl
 obtain ⟨fl,M1,e,q⟩:=aI h
 refine wpAny_Try_except (wpAny_mono (hb (X.pn++pins) (fun e s₁=>wpAny (model X.prog X.w) X.A (noteFrame e X.env) (fun _ s₂=>wpAny (model X.prog X.w) X.A (setFlight e none) (fun _ s₃=>wpAny (model X.prog X.w) X.A (handleBy e X.env [.ExceptHandler (some (.Name x1 np)) none (b0::suite) hp]) (SP X pins D') X.xe s₃) X.xe s₂) X.xe s₁) [] s σ H D' (yz I _) ⟨μ,Z,M,hE,hM,?_⟩) (fun f s1 z=>?_) fun _ _ z=>z)
 ·rw [e]
  cases fl with
  |next ρ'=>exact q
  |ret d=>exact q
  | exc y ρ1 =>
    intro pins' σ' H' μ' s' a C dx c p I1 ye hE1 hM1 ey hcC hn fl
    have I1:=I1.pins_of (pins':=[]) (fun p hp=>nomatch hp)
    refine uH (P:=X.prog) (w:=X.w) (base:=X.base) (New:=lV (oj X (X.pn++pins) _)) (outer:=X.outer) (by rw [<- hst];exact I1.ok.frames) (by rw [<- hst];exact I1.stack) hfr fl (fun b z=>(nq I1 hex (OP z)).1) I1.hok (by rw [<- hst];exact I1.stkFree) fun h' ch hch u hok fl2=>?_
    have I2:Inv X pins σ' H' {s' with heap:=h'}:=A2 (ik I1) (fun b hb=>⟨(hch b hb).1.1,(hch b hb).2.2,(hch b hb).1.2⟩) (by rw [hst];exact u) hok
    obtain ⟨nw,ha,o,vs,h1,h2,h3,h4,tr⟩:=id fl2
    have hnc:PySem.W.notCls o=true:=by unfold PySem.W.notCls;rw [h4]
    subst ey
    have q:ag (jR k1 k1 gH (.exc (.exc c p) ρ1) M1) (mQ fa X μ H D'):=q
    have hck:c=k1\/c=k1:=by
     by_cases z:c=k1\/c=k1
     ·exact z
     ·unfold jR at q
      dsimp only at q
      rw [if_neg z] at q
      exact q.elim
    unfold jR at q
    dsimp only at q
    rw [if_pos hck] at q
    obtain ⟨fl3,M2,e3,q3⟩:=aI q
    have IA:∃od,PySem.W.InstAt h' a o C od:=by
     cases p with
     | none =>
       have hn:dx=none:=hn
       exact ⟨none,h1,h2,hnc,by rw [h3,hn];trivial⟩
     | some k =>
       obtain ⟨d,rfl,hd⟩:=hn
       obtain ⟨mA,⟨od,es,ep,ed,_⟩,_⟩:=hok d _ hd
       exact ⟨some od,h1,h2,hnc,by rw [h3];exact ed⟩
    obtain ⟨od,IA⟩:=IA
    refine wpAny_handleBy_cons (codeAny_handlers_test (fj (qk I2 (.ref a) X.xe) hg m1 ?_ hdb)) (by intro z;cases z)
    refine (PySem.W.exm_one (M:=model X.prog X.w) I2.kIn IA.type (EK (hm c C hck hcC))).at ?_
    refine codeAny_handlers_suite (vZ fl2 ?_)
    refine wpAny_mono (hh (.ref a) _ pins _ σ' H' D' (qk I2 (.ref a) _) ⟨μ',_,M1,hE1,hM1,?_⟩) (fun f s5 z=>?_) fun _ _ z=>z
    ·rw [e3]
     cases fl3 with
     |next ρ2=>exact fun σ2 H2 μ2 x2 hE2 hM2=>q3 σ2 H2 μ2 (ye.trans x2) hE2 hM2
     |ret d=>exact aY.ext q3 ye
     |exc=>exact q3.elim
    ·dsimp only
     cases f with
     | next =>
       obtain ⟨σ5,H5,I5,z⟩:=z
       exact ⟨_,H5,jD I2.ok.hd I5,z⟩
     | ret u =>
       obtain ⟨v,σ5,H5,I5,r5,z⟩:=z
       exact ⟨v,_,H5,jD I2.ok.hd I5,r5,z⟩
     |brk=>obtain ⟨_,H5,I5,z⟩:=z;exact ⟨_,H5,jD I2.ok.hd I5,z⟩
     |cont=>obtain ⟨_,H5,I5,z⟩:=z;exact ⟨_,H5,jD I2.ok.hd I5,z⟩
 ·cases f with
  |next=>obtain ⟨σ5,H5,I5,z⟩:=z;exact wpAny_execs_nil ⟨σ5,H5,ik I5,z⟩
  |ret u=>obtain ⟨v,σ5,H5,I5,r5,z⟩:=z;exact ⟨v,σ5,H5,ik I5,r5,z⟩
  |brk=>obtain ⟨σ5,H5,I5,z⟩:=z;exact ⟨σ5,H5,ik I5,z⟩
  |cont=>obtain ⟨σ5,H5,I5,z⟩:=z;exact ⟨σ5,H5,ik I5,z⟩
end
end LD
namespace LD
open PySem
theorem ob {α β:Type}{a:Option α}{f:α->Option β}{r:β}(h:a.bind f=some r):∃x,a=some x/\f x=some r:=N0.mp h
theorem oi {α:Type}{c:Prop}[Decidable c]{a:Option α}{r:α}(h:(if c then a else none)=some r):c/\a=some r:=by
 split at h
 ·exact ⟨by assumption,h⟩
 ·cases h
section
variable {β:Type}{r:β}{e:Expr}{st:Stmt}
theorem od {c:Prop}[Decidable c]{f:c->Option β}(h:(if x:c then f x else none)=some r):∃x,f x=some r:=by
 by_cases z:c
 ·rw [dif_pos z] at h;exact ⟨z,h⟩
 ·rw [dif_neg z] at h;cases h
noncomputable def Cd (e:Expr)(k:UnaryOp->Expr->Pos->Option β):Option β:=if h:e.ctorIdx=3 then @Expr.UnaryOp.elim (fun _=>Option β) e h k else none
theorem sA {k:UnaryOp->Expr->Pos->Option β}(h:Cd e k=some r):∃a b c,e=.UnaryOp a b c/\k a b c=some r:=(od h).elim fun z h=>@Expr.UnaryOp.elim (fun e=>∀z,@Expr.UnaryOp.elim (fun _=>Option β) e z k=some r->∃a b c,e=.UnaryOp a b c/\k a b c=some r) e z (fun a b c _ h=>⟨a,b,c,rfl,h⟩) z h
noncomputable def vH (e:Expr)(k:BoolOp->List Expr->Pos->Option β):Option β:=if h:e.ctorIdx=0 then @Expr.BoolOp.elim (fun _=>Option β) e h k else none
theorem sD {k:BoolOp->List Expr->Pos->Option β}(h:vH e k=some r):∃a b c,e=.BoolOp a b c/\k a b c=some r:=(od h).elim fun z h=>@Expr.BoolOp.elim (fun e=>∀z,@Expr.BoolOp.elim (fun _=>Option β) e z k=some r->∃a b c,e=.BoolOp a b c/\k a b c=some r) e z (fun a b c _ h=>⟨a,b,c,rfl,h⟩) z h
noncomputable def Hc (e:Expr)(k:Expr->List Oc->Scope->Pos->Option β):Option β:=if h:e.ctorIdx=8 then @Expr.ListComp.elim (fun _=>Option β) e h k else none
theorem yh {k:Expr->List Oc->Scope->Pos->Option β}(h:Hc e k=some r):∃a b c d,e=.ListComp a b c d/\k a b c d=some r:=(od h).elim fun z h=>@Expr.ListComp.elim (fun e=>∀z,@Expr.ListComp.elim (fun _=>Option β) e z k=some r->∃a b c d,e=.ListComp a b c d/\k a b c d=some r) e z (fun a b c d _ h=>⟨a,b,c,d,rfl,h⟩) z h
noncomputable def AJ (e:Expr)(k:Expr->Expr->Expr->Pos->Option β):Option β:=if h:e.ctorIdx=5 then @Expr.IfExp.elim (fun _=>Option β) e h k else none
theorem uK {k:Expr->Expr->Expr->Pos->Option β}(h:AJ e k=some r):∃a b c d,e=.IfExp a b c d/\k a b c d=some r:=(od h).elim fun z h=>@Expr.IfExp.elim (fun e=>∀z,@Expr.IfExp.elim (fun _=>Option β) e z k=some r->∃a b c d,e=.IfExp a b c d/\k a b c d=some r) e z (fun a b c d _ h=>⟨a,b,c,d,rfl,h⟩) z h
noncomputable def AK (e:Expr)(k:Expr->List CmpOp->List Expr->Pos->Option β):Option β:=if h:e.ctorIdx=15 then @Expr.Compare.elim (fun _=>Option β) e h k else none
theorem oW {k:Expr->List CmpOp->List Expr->Pos->Option β}(h:AK e k=some r):∃a b c d,e=.Compare a b c d/\k a b c d=some r:=(od h).elim fun z h=>@Expr.Compare.elim (fun e=>∀z,@Expr.Compare.elim (fun _=>Option β) e z k=some r->∃a b c d,e=.Compare a b c d/\k a b c d=some r) e z (fun a b c d _ h=>⟨a,b,c,d,rfl,h⟩) z h
noncomputable def mf (e:Expr)(k:Expr->List Expr->List Keyword->Pos->Option β):Option β:=if h:e.ctorIdx=16 then @Expr.Call.elim (fun _=>Option β) e h k else none
theorem jm {k:Expr->List Expr->List Keyword->Pos->Option β}(h:mf e k=some r):∃a b c d,e=.Call a b c d/\k a b c d=some r:=(od h).elim fun z h=>@Expr.Call.elim (fun e=>∀z,@Expr.Call.elim (fun _=>Option β) e z k=some r->∃a b c d,e=.Call a b c d/\k a b c d=some r) e z (fun a b c d _ h=>⟨a,b,c,d,rfl,h⟩) z h
noncomputable def Hf (e:Expr)(k:Expr->Int->Option Expr->Pos->Option β):Option β:=if h:e.ctorIdx=17 then @Expr.FormattedValue.elim (fun _=>Option β) e h k else none
theorem EB {k:Expr->Int->Option Expr->Pos->Option β}(h:Hf e k=some r):∃a b c d,e=.FormattedValue a b c d/\k a b c d=some r:=(od h).elim fun z h=>@Expr.FormattedValue.elim (fun e=>∀z,@Expr.FormattedValue.elim (fun _=>Option β) e z k=some r->∃a b c d,e=.FormattedValue a b c d/\k a b c d=some r) e z (fun a b c d _ h=>⟨a,b,c,d,rfl,h⟩) z h
noncomputable def Hd (e:Expr)(k:List Expr->Pos->Option β):Option β:=if h:e.ctorIdx=18 then @Expr.JoinedStr.elim (fun _=>Option β) e h k else none
theorem Ez {k:List Expr->Pos->Option β}(h:Hd e k=some r):∃a b,e=.JoinedStr a b/\k a b=some r:=(od h).elim fun z h=>@Expr.JoinedStr.elim (fun e=>∀z,@Expr.JoinedStr.elim (fun _=>Option β) e z k=some r->∃a b,e=.JoinedStr a b/\k a b=some r) e z (fun a b _ h=>⟨a,b,rfl,h⟩) z h
noncomputable def sC (e:Expr)(k:Const->Nat->Pos->Option β):Option β:=if h:e.ctorIdx=19 then @Expr.Constant.elim (fun _=>Option β) e h k else none
theorem md {k:Const->Nat->Pos->Option β}(h:sC e k=some r):∃a b c,e=.Constant a b c/\k a b c=some r:=(od h).elim fun z h=>@Expr.Constant.elim (fun e=>∀z,@Expr.Constant.elim (fun _=>Option β) e z k=some r->∃a b c,e=.Constant a b c/\k a b c=some r) e z (fun a b c _ h=>⟨a,b,c,rfl,h⟩) z h
noncomputable def kC (e:Expr)(k:Expr->Str->Pos->Option β):Option β:=if h:e.ctorIdx=20 then @Expr.Attribute.elim (fun _=>Option β) e h k else none
theorem gW {k:Expr->Str->Pos->Option β}(h:kC e k=some r):∃a b c,e=.Attribute a b c/\k a b c=some r:=(od h).elim fun z h=>@Expr.Attribute.elim (fun e=>∀z,@Expr.Attribute.elim (fun _=>Option β) e z k=some r->∃a b c,e=.Attribute a b c/\k a b c=some r) e z (fun a b c _ h=>⟨a,b,c,rfl,h⟩) z h
noncomputable def vF (e:Expr)(k:Expr->Expr->Pos->Option β):Option β:=if h:e.ctorIdx=21 then @Expr.Subscript.elim (fun _=>Option β) e h k else none
theorem oV {k:Expr->Expr->Pos->Option β}(h:vF e k=some r):∃a b c,e=.Subscript a b c/\k a b c=some r:=(od h).elim fun z h=>@Expr.Subscript.elim (fun e=>∀z,@Expr.Subscript.elim (fun _=>Option β) e z k=some r->∃a b c,e=.Subscript a b c/\k a b c=some r) e z (fun a b c _ h=>⟨a,b,c,rfl,h⟩) z h
noncomputable def nName (e:Expr)(k:Str->Pos->Option β):Option β:=if h:e.ctorIdx=23 then @Expr.Name.elim (fun _=>Option β) e h k else none
theorem c7 {k:Str->Pos->Option β}(h:nName e k=some r):∃a b,e=.Name a b/\k a b=some r:=(od h).elim fun z h=>@Expr.Name.elim (fun e=>∀z,@Expr.Name.elim (fun _=>Option β) e z k=some r->∃a b,e=.Name a b/\k a b=some r) e z (fun a b _ h=>⟨a,b,rfl,h⟩) z h
noncomputable def oU (e:Expr)(k:List Expr->Nat->Pos->Option β):Option β:=if h:e.ctorIdx=25 then @Expr.Tuple.elim (fun _=>Option β) e h k else none
theorem gV {k:List Expr->Nat->Pos->Option β}(h:oU e k=some r):∃a b c,e=.Tuple a b c/\k a b c=some r:=(od h).elim fun z h=>@Expr.Tuple.elim (fun e=>∀z,@Expr.Tuple.elim (fun _=>Option β) e z k=some r->∃a b c,e=.Tuple a b c/\k a b c=some r) e z (fun a b c _ h=>⟨a,b,c,rfl,h⟩) z h
noncomputable def Ha (e:Expr)(k:Option Expr->Option Expr->Option Expr->Pos->Option β):Option β:=if h:e.ctorIdx=26 then @Expr.Slice.elim (fun _=>Option β) e h k else none
theorem Ex {k:Option Expr->Option Expr->Option Expr->Pos->Option β}(h:Ha e k=some r):∃a b c d,e=.Slice a b c d/\k a b c d=some r:=(od h).elim fun z h=>@Expr.Slice.elim (fun e=>∀z,@Expr.Slice.elim (fun _=>Option β) e z k=some r->∃a b c d,e=.Slice a b c d/\k a b c d=some r) e z (fun a b c d _ h=>⟨a,b,c,d,rfl,h⟩) z h
noncomputable def rV (e:Stmt)(k:List Expr->Expr->Pos->Option β):Option β:=if h:e.ctorIdx=5 then @Stmt.Assign.elim (fun _=>Option β) e h k else none
theorem l5 {k:List Expr->Expr->Pos->Option β}(h:rV st k=some r):∃a b c,st=.Assign a b c/\k a b c=some r:=(od h).elim fun z h=>@Stmt.Assign.elim (fun e=>∀z,@Stmt.Assign.elim (fun _=>Option β) e z k=some r->∃a b c,e=.Assign a b c/\k a b c=some r) st z (fun a b c _ h=>⟨a,b,c,rfl,h⟩) z h
noncomputable def F7 (e:Stmt)(k:Option Expr->Option Expr->Pos->Option β):Option β:=if h:e.ctorIdx=16 then @Stmt.Raise.elim (fun _=>Option β) e h k else none
theorem DZ {k:Option Expr->Option Expr->Pos->Option β}(h:F7 st k=some r):∃a b c,st=.Raise a b c/\k a b c=some r:=(od h).elim fun z h=>@Stmt.Raise.elim (fun e=>∀z,@Stmt.Raise.elim (fun _=>Option β) e z k=some r->∃a b c,e=.Raise a b c/\k a b c=some r) st z (fun a b c _ h=>⟨a,b,c,rfl,h⟩) z h
noncomputable def Kq (e:Stmt)(k:List Stmt->List PySem.ExceptHandler->List Stmt->List Stmt->Pos->Option β):Option β:=if h:e.ctorIdx=17 then @Stmt.Try.elim (fun _=>Option β) e h k else none
theorem F5 {k:List Stmt->List PySem.ExceptHandler->List Stmt->List Stmt->Pos->Option β}(h:Kq st k=some r):∃a b c d f,st=.Try a b c d f/\k a b c d f=some r:=(od h).elim fun z h=>@Stmt.Try.elim (fun e=>∀z,@Stmt.Try.elim (fun _=>Option β) e z k=some r->∃a b c d f,e=.Try a b c d f/\k a b c d f=some r) st z (fun a b c d f _ h=>⟨a,b,c,d,f,rfl,h⟩) z h
noncomputable def Aj (e:Stmt)(k:Expr->Pos->Option β):Option β:=if h:e.ctorIdx=24 then @Stmt.Expr.elim (fun _=>Option β) e h k else none
theorem uv {k:Expr->Pos->Option β}(h:Aj st k=some r):∃a b,st=.Expr a b/\k a b=some r:=(od h).elim fun z h=>@Stmt.Expr.elim (fun e=>∀z,@Stmt.Expr.elim (fun _=>Option β) e z k=some r->∃a b,e=.Expr a b/\k a b=some r) st z (fun a b _ h=>⟨a,b,rfl,h⟩) z h
noncomputable def Hi (e:Expr)(k:Expr->Operator->Expr->Pos->Option β):Option β:=if h:e.ctorIdx=2 then @Expr.BinOp.elim (fun _=>Option β) e h k else none
theorem EC {k:Expr->Operator->Expr->Pos->Option β}(h:Hi e k=some r):∃a b c d,e=.BinOp a b c d/\k a b c d=some r:=(od h).elim fun z h=>@Expr.BinOp.elim (fun e=>∀z,@Expr.BinOp.elim (fun _=>Option β) e z k=some r->∃a b c d,e=.BinOp a b c d/\k a b c d=some r) e z (fun a b c d _ h=>⟨a,b,c,d,rfl,h⟩) z h
noncomputable def Hb (e:Expr)(k:List Expr->Pos->Option β):Option β:=if h:e.ctorIdx=24 then @Expr.List.elim (fun _=>Option β) e h k else none
theorem Ey {k:List Expr->Pos->Option β}(h:Hb e k=some r):∃a b,e=.List a b/\k a b=some r:=(od h).elim fun z h=>@Expr.List.elim (fun e=>∀z,@Expr.List.elim (fun _=>Option β) e z k=some r->∃a b,e=.List a b/\k a b=some r) e z (fun a b _ h=>⟨a,b,rfl,h⟩) z h
noncomputable def Kr (e:Stmt)(k:Option Expr->Pos->Option β):Option β:=if h:e.ctorIdx=3 then @Stmt.Return.elim (fun _=>Option β) e h k else none
theorem F6 {k:Option Expr->Pos->Option β}(h:Kr st k=some r):∃a b,st=.Return a b/\k a b=some r:=(od h).elim fun z h=>@Stmt.Return.elim (fun e=>∀z,@Stmt.Return.elim (fun _=>Option β) e z k=some r->∃a b,e=.Return a b/\k a b=some r) st z (fun a b _ h=>⟨a,b,rfl,h⟩) z h
noncomputable def Ku (e:Stmt)(k:Expr->Expr->List Stmt->List Stmt->Pos->Option β):Option β:=if h:e.ctorIdx=9 then @Stmt.For.elim (fun _=>Option β) e h k else none
theorem Gb {k:Expr->Expr->List Stmt->List Stmt->Pos->Option β}(h:Ku st k=some r):∃a b c d f,st=.For a b c d f/\k a b c d f=some r:=(od h).elim fun z h=>@Stmt.For.elim (fun e=>∀z,@Stmt.For.elim (fun _=>Option β) e z k=some r->∃a b c d f,e=.For a b c d f/\k a b c d f=some r) st z (fun a b c d f _ h=>⟨a,b,c,d,f,rfl,h⟩) z h
noncomputable def Kt (e:Stmt)(k:Expr->List Stmt->List Stmt->Pos->Option β):Option β:=if h:e.ctorIdx=12 then @Stmt.If.elim (fun _=>Option β) e h k else none
theorem Ga {k:Expr->List Stmt->List Stmt->Pos->Option β}(h:Kt st k=some r):∃a b c d,st=.If a b c d/\k a b c d=some r:=(od h).elim fun z h=>@Stmt.If.elim (fun e=>∀z,@Stmt.If.elim (fun _=>Option β) e z k=some r->∃a b c d,e=.If a b c d/\k a b c d=some r) st z (fun a b c d _ h=>⟨a,b,c,d,rfl,h⟩) z h
noncomputable def Ks (e:Stmt)(k:Pos->Option β):Option β:=if h:e.ctorIdx=25 then @Stmt.Pass.elim (fun _=>Option β) e h k else none
theorem F8 {k:Pos->Option β}(h:Ks st k=some r):∃a,st=.Pass a/\k a=some r:=(od h).elim fun z h=>@Stmt.Pass.elim (fun e=>∀z,@Stmt.Pass.elim (fun _=>Option β) e z k=some r->∃a,e=.Pass a/\k a=some r) st z (fun a _ h=>⟨a,rfl,h⟩) z h
variable {α:Type}{l:List α}
noncomputable def n0 (l:List α)(v:Option β):Option β:=if l.isEmpty=true then v else none
theorem eO {v:Option β}(h:n0 l v=some r):l=[]/\v=some r:=(oi h).elim fun c h=>⟨List.isEmpty_iff.mp c,h⟩
noncomputable def nC (l:List α)(k:α->List α->Option β):Option β:=match l with
 |[]=>none
 |a::s=>k a s
theorem gu {k:α->List α->Option β}(h:nC l k=some r):∃a s,l=a::s/\k a s=some r:=by
 cases l with
 |nil=>cases h
 |cons a s=>exact ⟨a,s,rfl,h⟩
noncomputable def n1 (l:List α)(k:α->Option β):Option β:=nC l fun a s=>n0 s (k a)
theorem dE {k:α->Option β}(h:n1 l k=some r):∃a,l=[a]/\k a=some r:=by
 obtain ⟨a,s,rfl,h⟩:=gu h
 obtain ⟨rfl,h⟩:=eO h
 exact ⟨a,rfl,h⟩
noncomputable def n2 (l:List α)(k:α->α->Option β):Option β:=nC l fun a s=>n1 s (k a)
theorem hZ {k:α->α->Option β}(h:n2 l k=some r):∃a b,l=[a,b]/\k a b=some r:=by
 obtain ⟨a,s,rfl,h⟩:=gu h
 obtain ⟨b,rfl,h⟩:=dE h
 exact ⟨a,b,rfl,h⟩
noncomputable def AI (e:Expr)(k:Str->Option β):Option β:=sC e fun c _ _=>match c with
 |.str z=>k z
 |_=>none
theorem uJ {k:Str->Option β}(h:AI e k=some r):∃z i p,e=.Constant (.str z) i p/\k z=some r:=by
 obtain ⟨c,i,p,rfl,h⟩:=md h
 cases c with
 |str z=>exact ⟨z,i,p,rfl,h⟩
 |_=>cases h
noncomputable def Ce (e:Expr)(v:Option β):Option β:=sC e fun c _ _=>match c with
 |.bool b=>if b=true then v else none
 |_=>none
theorem AH {v:Option β}(h:Ce e v=some r):∃i p,e=.Constant (.bool true) i p/\v=some r:=by
 obtain ⟨c,i,p,rfl,h⟩:=md h
 cases c with
 |bool b=>obtain ⟨rfl,k⟩:=oi h;exact ⟨i,p,rfl,k⟩
 |_=>cases h
noncomputable def He (e:Expr)(k:Int->Option β):Option β:=sC e fun c _ _=>match c with
 |.int z=>k z
 |_=>none
theorem EA {k:Int->Option β}(h:He e k=some r):∃z i p,e=.Constant (.int z) i p/\k z=some r:=by
 obtain ⟨c,i,p,rfl,h⟩:=md h
 cases c with
 |int z=>exact ⟨z,i,p,rfl,h⟩
 |_=>cases h
noncomputable def Kz (e:Expr)(k:Expr->Option β):Option β:=Hf e fun a i s _=>if i=-1/\s.isNone=true then k a else none
theorem Hg {k:Expr->Option β}(h:Kz e k=some r):∃a p,e=.FormattedValue a (-1) none p/\k a=some r:=by
 obtain ⟨a,i,s,p,rfl,h⟩:=EB h
 obtain ⟨⟨rfl,c⟩,k⟩:=oi h
 rw [Ol.mp c]
 exact ⟨a,p,rfl,k⟩
noncomputable def nG (c:Oc)(k:Expr->Expr->List Expr->Option β):Option β:=if c.is_async=0 then k c.target c.iter c.ifs else none
theorem vG {c:Oc}{k:Expr->Expr->List Expr->Option β}(h:nG c k=some r):∃t i f,c=⟨t,i,f,0⟩/\k t i f=some r:=by
 obtain ⟨z,h⟩:=oi h
 cases c;cases z
 exact ⟨_,_,_,rfl,h⟩
noncomputable def lD (e:Expr)(k:Str->List Expr->Pos->Option β):Option β:=mf e fun f es ks p=>nName f fun x _=>n0 ks (k x es p)
theorem fC {k:Str->List Expr->Pos->Option β}(h:lD e k=some r):∃x q es p,e=.Call (.Name x q) es [] p/\k x es p=some r:=by
 obtain ⟨f,es,ks,p,rfl,h⟩:=jm h
 obtain ⟨x,q,rfl,h⟩:=c7 h
 obtain ⟨rfl,h⟩:=eO h
 exact ⟨x,q,es,p,rfl,h⟩
noncomputable def KA (e:Expr)(k:Expr->Str->Expr->Bool->Option β):Option β:=mf e fun f es ks p=>kC f fun a m q=>n0 ks (n1 es fun d=>k a m d (q.endLine==p.line))
theorem Hh {k:Expr->Str->Expr->Bool->Option β}(h:KA e k=some r):∃a m q d p,e=.Call (.Attribute a m q) [d] [] p/\k a m d (q.endLine==p.line)=some r:=by
 obtain ⟨f,es,ks,p,rfl,h⟩:=jm h
 obtain ⟨a,m,q,rfl,h⟩:=gW h
 obtain ⟨rfl,h⟩:=eO h
 obtain ⟨d,rfl,h⟩:=dE h
 exact ⟨a,m,q,d,p,rfl,h⟩
theorem bJ {a b:Option β}(h:a.or b=some r):a=some r\/b=some r:=by
 cases a with
 |none=>exact .inr h
 |some x=>exact .inl h
end
end LD
namespace LD
open PySem PySem.Spec PyProof.Rows L2
inductive En where
 |fn (i:Nat) (r:Bool)|int (i:Int)|str (z:Str)|dct (fs:List (Str×Nat))|xc (k:Nat)|xi (k:Nat)|xk (k:Nat)|de|bl|cls (c f:Nat)
structure CW (fa:Fa) (P:Na) (w:Nd) (K:MF) (mg:Str->Option MG) (base:Heap) (T:List (Str×En)):Prop where
 fn:∀{x:Str}{i:Nat}{r:Bool},T.lookup x=some (.fn i r)->∀ad,fa i=some ad->mg x=some (.ref ad)
 int:∀{x:Str}{i:Int},T.lookup x=some (.int i)->∃t,mg x=some (.int i t)
 str:∀{x:Str}{z:Str},T.lookup x=some (.str z)->∃t,mg x=some (.str z t)
 dct:∀{x:Str}{fs:List (Str×Nat)},T.lookup x=some (.dct fs)->∃ad kvs,mg x=some (.ref ad)/\fu K w.params ad kvs/\dX fa kvs fs
 xc:∀{x:Str}{k:Nat},T.lookup x=some (.xc k)->∃C,mg x=some (.ref C)/\fa (eI k)=some C/\PySem.W.excIn K C lR "ValueError.__new__"=true/\PySem.W.keepIn K (.ref C)=true
 xi:∀{x:Str}{k:Nat},T.lookup x=some (.xi k)->kj fa P w K mg base k x/\∃D,mg x=some (.ref D)/\fa (eI k)=some D
 xk:∀{x:Str}{k:Nat},T.lookup x=some (.xk k)->∃D,mg x=some (.ref D)/\fa (eI k)=some D
 de:∀{x:Str},T.lookup x=some .de->∃D,mg x=some (.ref D)/\fa 999=some D
 bl:∀{x:Str},T.lookup x=some .bl->mg x=none
 xcs:IC fa K
 ob:zf fa K
 of:∀o,5000<=o->fa o=none
 cls:∀{x:Str}{c f:Nat},T.lookup x=some (.cls c f)->∃C,mg x=some (.ref C)/\fa (gL c)=some C/\∀ad,fa f=some ad->Mk K C ad
structure G where
 T:List (Str×En)
 tw:List (Str×Str×Nat×Nat)
 xf:List Str
 cel:List (Nat×Nat×Nat)
 txt:List (Nat×Nat×Nat)
 ms:List (Str×Nat×Nat)
 c:Call
 N:List Str
 sc:Scope
 lv:Nat
structure dM (fa:Fa) (n:Nat) (g:G) (X:Cx):Prop where
 N:X.N=g.N
 nd:g.N.Nodup
 sc:X.env.scope=g.sc
 T:CW fa X.prog X.w X.K X.mg X.base g.T
 tw:∀q∈g.tw,u5 fa X.K X.mg q.1 q.2.1 q.2.2.1 q.2.2.2
 xf:∀f∈g.xf,CU fa X.K f
 ms:∀q∈g.ms,oH fa X.K q.1 q.2.1 q.2.2
 fn:g.lv≠1->∀x,X.fn x=true
 calm:0<g.lv->X.calm=true
 C:0<g.lv->∀f,dI fa X.prog X.w X.K X.mg X.base n f (g.c f)
 hr:0<g.lv->bu (2*n+4+1) X.A
 top:2<=g.lv->X.ex=[]/\X.stack=X.env::X.outer/\X.env.frame=some X.env.locals/\X.env.scope.kind=.function
 po:g.lv=2->PassesOwn (model X.prog X.w) X.A X.env X.xe
structure Rc where
 e:G->Expr->Option GE
 t:G->Expr->Option GT
 x:G->Expr->Option GE
 w:G->Expr->Expr->Option GW
 s:G->Stmt->Option GS
abbrev d5:=Rc->G->Expr->Option GE
abbrev IF:=Rc->G->Expr->Option GT
abbrev qC:=Rc->G->Expr->Expr->Option GW
abbrev mP:=Rc->G->Stmt->Option GS
structure ju (fa:Fa) (n:Nat) (R:Rc):Prop where
 e:∀{g:G}{X:Cx}{a:Expr}{ga:GE},dM fa n g X->R.e g a=some ga->DE fa X a ga
 t:∀{g:G}{X:Cx}{a:Expr}{ga:GT},dM fa n g X->R.t g a=some ga->DT fa X a ga
 x:∀{g:G}{X:Cx}{a:Expr}{ga:GE},dM fa n g X->R.x g a=some ga->DX fa X a ga
 w:∀{g:G}{X:Cx}{t a:Expr}{ga:GW},dM fa n g X->R.w g t a=some ga->DI fa X t a ga
 s:∀{g:G}{X:Cx}{a:Stmt}{ga:GS},dM fa n g X->R.s g a=some ga->DS fa X a ga
noncomputable def SE (r:d5):Prop:=∀{fa:Fa}{n:Nat}{R:Rc},ju fa n R->∀{g:G}{X:Cx},dM fa n g X->∀{a:Expr}{ga:GE},r R g a=some ga->DE fa X a ga
noncomputable def ST (r:IF):Prop:=∀{fa:Fa}{n:Nat}{R:Rc},ju fa n R->∀{g:G}{X:Cx},dM fa n g X->∀{a:Expr}{ga:GT},r R g a=some ga->DT fa X a ga
noncomputable def SX (r:d5):Prop:=∀{fa:Fa}{n:Nat}{R:Rc},ju fa n R->∀{g:G}{X:Cx},dM fa n g X->∀{a:Expr}{ga:GE},r R g a=some ga->DX fa X a ga
noncomputable def SW (r:qC):Prop:=∀{fa:Fa}{n:Nat}{R:Rc},ju fa n R->∀{g:G}{X:Cx},dM fa n g X->∀{t a:Expr}{ga:GW},r R g t a=some ga->DI fa X t a ga
noncomputable def SS (r:mP):Prop:=∀{fa:Fa}{n:Nat}{R:Rc},ju fa n R->∀{g:G}{X:Cx},dM fa n g X->∀{a:Stmt}{ga:GS},r R g a=some ga->DS fa X a ga
structure Rs where
 e:List d5
 t:List IF
 x:List d5
 w:List qC
 s:List mP
noncomputable def It (rs:Rs):Nat->Rc
 |0=>⟨fun _ _=>none,fun _ _=>none,fun _ _=>none,fun _ _ _=>none,fun _ _=>none⟩
 |n+1=>⟨fun g a=>rs.e.findSome? fun r=>r (It rs n) g a,fun g a=>rs.t.findSome? fun r=>r (It rs n) g a,fun g a=>rs.x.findSome? fun r=>r (It rs n) g a,fun g t a=>rs.w.findSome? fun r=>r (It rs n) g t a,fun g a=>rs.s.findSome? fun r=>r (It rs n) g a⟩
noncomputable def AllP {α:Type}(p:α->Prop):List α->Prop
 |[]=>True
 |a::l=>p a/\AllP p l
theorem AllP.mem {α:Type}{p:α->Prop}:∀{l:List α},AllP p l->∀a∈l,p a
 |_::_,h,a,m=>(Np.mp m).elim (fun e=>e ▸ h.1) (AllP.mem h.2 a)
structure BB (rs:Rs):Prop where
 e:AllP SE rs.e
 t:AllP ST rs.t
 x:AllP SX rs.x
 w:AllP SW rs.w
 s:AllP SS rs.s
theorem C4 {fa:Fa}{n:Nat}{rs:Rs}(h:BB rs):∀k,ju fa n (It rs k)
 |0=>⟨(fun _ z=>nomatch z),(fun _ z=>nomatch z),(fun _ z=>nomatch z),(fun _ z=>nomatch z),(fun _ z=>nomatch z)⟩
 | k + 1 => by
   have ih:=C4 (n:=n) (fa:=fa) h k
   refine ⟨fun o z=>?_,fun o z=>?_,fun o z=>?_,fun o z=>?_,fun o z=>?_⟩
   ·obtain ⟨r,m,e⟩:=N5 z;exact h.e.mem r m ih o e
   ·obtain ⟨r,m,e⟩:=N5 z;exact h.t.mem r m ih o e
   ·obtain ⟨r,m,e⟩:=N5 z;exact h.x.mem r m ih o e
   ·obtain ⟨r,m,e⟩:=N5 z;exact h.w.mem r m ih o e
   ·obtain ⟨r,m,e⟩:=N5 z;exact h.s.mem r m ih o e
noncomputable def KQ:Str:="__debug__"
noncomputable def iI (g:G)(x:Str):Bool:=g.sc.names.lookup x==some .globalImplicit&&!(x==KQ)
noncomputable def vr (g:G)(x:Str):Option Nat:=if (g.sc.names.lookup x==some .local||g.sc.names.lookup x==some .cell||g.sc.names.lookup x==some .free)&&!(x==KQ)&&!(x==("__classdict__":Str)) then g.N.findIdx? (·==x) else none
section
variable {fa:Fa}{n:Nat}{g:G}{X:Cx}{R:Rc}(o:dM fa n g X)
include o
theorem cp {x:Str}(h:iI g x=true):Gl X x/\(x==("__debug__":Str))=false:=by
 unfold iI at h
 rw [MM,OF] at h
 exact ⟨by show X.env.scope.names.lookup x=_;rw [o.sc];exact eq_of_beq h.1,h.2⟩
theorem vS {x:Str}{i:Nat}(h:g.N.findIdx? (·==x)=some i):X.N[i]?=some x:=by
 obtain ⟨hi,h1,_⟩:=OV.mp h
 rw [o.N,Nc hi,eq_of_beq h1]
theorem BO {x:Str}{i:Nat}(h:vr g x=some i):X.N[i]?=some x/\qB X.env.scope x/\(x==("__debug__":Str))=false/\(x==("__classdict__":Str))=false:=by
 obtain ⟨c,h⟩:=oi h
 simp only [MM,Oo,OF] at c
 refine ⟨vS o h,?_,c.1.2,c.2⟩
 unfold qB
 rw [o.sc]
 rcases c.1.1 with (z|z)|z
 ·exact .inl (eq_of_beq z)
 ·exact .inr (.inl (eq_of_beq z))
 ·exact .inr (.inr (eq_of_beq z))
omit o
theorem dM.rm (o:dM fa n g X)(h:0<g.lv):Rm X:=D0 (o.hr h)
end
noncomputable def cA (f:Expr->Option GE):List Expr->Option GA
 |[]=>some ah
 |a::r=>if notStar a=true then (f a).bind fun x=>(cA f r).bind fun y=>some (ae x y) else none
theorem gJ {fa:Fa}{X:Cx}{f:Expr->Option GE}(hf:∀{a:Expr}{ga:GE},f a=some ga->DE fa X a ga):∀{es:List Expr}{gs:GA},cA f es=some gs->DA fa X es gs/\es.all notStar=true
 |[],_,h=>by cases h;exact ⟨Ij,rfl⟩
 | a :: r, _, h => by
   obtain ⟨c,h⟩:=oi h
   obtain ⟨x,hx,h⟩:=ob h
   obtain ⟨y,hy,h⟩:=ob h
   cases h
   obtain ⟨h1,h2⟩:=gJ hf hy
   exact ⟨E6 (hf hx) h1 (bg c),by rw [Ny,c,h2];rfl⟩
noncomputable def tM (f:Expr->Option GE)(k:GE->GE->GE):List Expr->Option GE
 |[]=>none
 |[a]=>f a
 |a::b::r=>(f a).bind fun x=>(tM f k (b::r)).bind fun y=>some (k x y)
theorem u3 {fa:Fa}{X:Cx}{pos:Pos}{f:Expr->Option GE}(hf:∀{a:Expr}{ga:GE},f a=some ga->DE fa X a ga):∀{es:List Expr}{ge:GE},tM f dv es=some ge->DE fa X (.BoolOp .And es pos) ge
 |[a],_,h=>CK (hf h)
 | a :: b :: r, _, h => by
   obtain ⟨x,hx,h⟩:=ob h
   obtain ⟨y,hy,h⟩:=ob h
   cases h
   exact J8 (hf hx) (u3 hf hy)
theorem zb {fa:Fa}{X:Cx}{pos:Pos}{f:Expr->Option GE}(hf:∀{a:Expr}{ga:GE},f a=some ga->DE fa X a ga):∀{es:List Expr}{ge:GE},tM f KO es=some ge->DE fa X (.BoolOp .Or es pos) ge
 |[a],_,h=>CK (hf h)
 | a :: b :: r, _, h => by
   obtain ⟨x,hx,h⟩:=ob h
   obtain ⟨y,hy,h⟩:=ob h
   cases h
   exact LZ (hf hx) (zb hf hy)
noncomputable def rH (f:Expr->Option GT)(k:GT->GT->GT):List Expr->Option GT
 |[]=>none
 |[a]=>f a
 |a::b::r=>(f a).bind fun x=>(rH f k (b::r)).bind fun y=>some (k x y)
theorem ue {fa:Fa}{X:Cx}{pos:Pos}{f:Expr->Option GT}(hf:∀{a:Expr}{ga:GT},f a=some ga->DT fa X a ga):∀{es:List Expr}{ge:GT},rH f jd es=some ge->DW fa X (.BoolOp .And es pos) ge
 |[a],_,h=>EO (hf h)
 | a :: b :: r, _, h => by
   obtain ⟨x,hx,h⟩:=ob h
   obtain ⟨y,hy,h⟩:=ob h
   cases h
   exact HW (hf hx) (ue hf hy)
theorem xl {fa:Fa}{X:Cx}{pos:Pos}{f:Expr->Option GT}(hf:∀{a:Expr}{ga:GT},f a=some ga->DT fa X a ga):∀{es:List Expr}{ge:GT},rH f gj es=some ge->DW fa X (.BoolOp .Or es pos) ge
 |[a],_,h=>HV (hf h)
 | a :: b :: r, _, h => by
   obtain ⟨x,hx,h⟩:=ob h
   obtain ⟨y,hy,h⟩:=ob h
   cases h
   exact JP (hf hx) (xl hf hy)
noncomputable def BQ:d5:=fun _ g e=>nName e fun x _=>((vr g x).bind fun i=>some (aa i)).or (if iI g x=true then (g.T.lookup x).bind fun
 |.int i=>some (gC (.int i))
 |.str i=>some (gC (.str i))
 |_=>none else none)
theorem zv:SE BQ:=by
 intro fa n R rc g X o a ga h
 replace h:=c7 h;obtain ⟨x,p,rfl,h⟩:=h
 rcases bJ h with h|h
 ·obtain ⟨i,e,h⟩:=ob h;cases h;obtain ⟨a,b,c,d⟩:=BO o e;exact JS a b c d
 ·obtain ⟨c,h⟩:=oi h
  obtain ⟨hg,hd⟩:=cp o c
  obtain ⟨t,e,h⟩:=ob h
  cases t with
  |int i=>cases h;exact D5 hg (o.T.int e) hd
  |str i=>cases h;obtain ⟨t,e⟩:=o.T.str e;exact i9 (v:=.str _) (jY hg e ⟨t,rfl⟩ hd) fun _ _=>rfl
  |_=>cases h
noncomputable def wX:d5:=fun _ _ e=>sC e fun
 |.int i,_,_=>some (gC (.int i))
 |.bool i,_,_=>some (gC (.bl i))
 |.str i,_,_=>some (gC (.str i))
 |.none,_,_=>some (gC .non)
 |_,_,_=>none
theorem wW:SE wX:=by
 intro fa n R rc g X o a ga h
 replace h:=md h;obtain ⟨c,i,p,rfl,h⟩:=h
 cases c with
 |int i=>cases h;exact J2
 |bool i=>cases h;exact Ir
 |str i=>cases h;exact JU
 |none=>cases h;exact JY
 |_=>cases h
noncomputable def G.cl (g:G)(p:Pos):Bool:=g.cel.contains (p.line,p.col,p.endCol)
noncomputable def G.tx (g:G)(p:Pos):Bool:=g.txt.contains (p.line,p.col,p.endCol)
noncomputable def CQ:Operator->Option mS
 |.Add=>some .add|.Sub=>some .sub|.Mult=>some .mul|.FloorDiv=>some .fdiv|.Mod=>some .mod|.Pow=>some .pow|_=>none
theorem Bx {q:Operator}{b:mS}(h:CQ q=some b):q=binOp b:=by cases q<;>cases h<;>rfl
noncomputable def fo:CmpOp->iJ
 |.Eq=>.eq|.NotEq=>.ne|.Lt=>.lt|.LtE=>.le|.Gt=>.gt|.GtE=>.ge|.Is=>.isN|.IsNot=>.notN|.In=>.isin|.NotIn=>.notin
theorem cw (q:CmpOp):dQ (fo q)=q:=by cases q<;>rfl
noncomputable def FC:d5:=fun R g e=>(Hi e fun a q b p=>(CQ q).bind fun q=>(R.e g a).bind fun x=>(R.e g b).bind fun y=>some (ay (g.cl p) q x y)).or
 ((Cd e fun q a _ => match q with
   |.USub=>(R.e g a).bind fun x=>some (du x)
   |.Not=>(R.e g a).bind fun x=>some (LS x)
   |_=>none).or
 ((vH e fun q es _ => match q with
   |.And=>tM (R.e g) dv es
   |.Or=>tM (R.e g) KO es).or
 ((AJ e fun c a b _=>(R.t g c).bind fun t=>(R.e g a).bind fun x=>(R.e g b).bind fun y=>some (jq t x y)).or
 ((oU e fun es _ _=>(cA (R.e g) es).bind fun s=>some (cJ s)).or (Hb e fun es p=>(cA (R.e g) es).bind fun s=>some (bE (g.cl p) s))))))
theorem Dn:SE FC:=by
 intro fa n R rc g X o a ga h
 replace h:=bJ h;rcases h with h|h
 ·replace h:=EC h;obtain ⟨a,q,b,p,rfl,h⟩:=h
  obtain ⟨q,hq,h⟩:=ob h;obtain ⟨x,hx,h⟩:=ob h;obtain ⟨y,hy,h⟩:=ob h;cases h
  rw [Bx hq];exact J7 _ _ (rc.e o hx) (rc.e o hy)
 replace h:=bJ h;rcases h with h|h
 ·replace h:=sA h;obtain ⟨q,a,p,rfl,h⟩:=h
  cases q with
  |USub=>obtain ⟨x,hx,h⟩:=ob h;cases h;exact JZ (rc.e o hx)
  |Not=>obtain ⟨x,hx,h⟩:=ob h;cases h;exact JX (rc.e o hx)
  |_=>cases h
 replace h:=bJ h;rcases h with h|h
 ·replace h:=sD h;obtain ⟨q,es,p,rfl,h⟩:=h
  cases q with
  |And=>exact u3 (rc.e o) h
  |Or=>exact zb (rc.e o) h
 replace h:=bJ h;rcases h with h|h
 ·replace h:=uK h;obtain ⟨c,a,b,p,rfl,h⟩:=h
  obtain ⟨t,ht,h⟩:=ob h;obtain ⟨x,hx,h⟩:=ob h;obtain ⟨y,hy,h⟩:=ob h;cases h
  exact J1 (rc.t o ht) (rc.e o hx) (rc.e o hy)
 replace h:=bJ h;rcases h with h|h
 ·replace h:=gV h;obtain ⟨es,k,p,rfl,h⟩:=h
  obtain ⟨s,hs,h⟩:=ob h;cases h;exact JT (gJ (rc.e o) hs).1
 ·replace h:=Ey h;obtain ⟨es,p,rfl,h⟩:=h
  obtain ⟨s,hs,h⟩:=ob h;cases h;exact J0 _ (gJ (rc.e o) hs).1
noncomputable def Bn (g:G)(x:Str):Option (List (Str×Nat)):=if iI g x=true then (match g.T.lookup x with|some (.dct fs)=>some fs|_=>none) else none
theorem sW {fa:Fa}{n:Nat}{g:G}{X:Cx}(o:dM fa n g X){x:Str}{fs:List (Str×Nat)}(h:Bn g x=some fs):(∃ad kvs,X.mg x=some (.ref ad)/\fu X.K X.w.params ad kvs/\dX fa kvs fs)/\Gl X x/\(x==("__debug__":Str))=false:=by
 obtain ⟨c,h⟩:=oi h
 split at h
 ·next e=>cases h;exact ⟨o.T.dct e,cp o c⟩
 ·cases h
noncomputable def Bv (R:Rc)(g:G)(e:Expr):Option GE:=AK e fun a qs bs _=>
 (n2 qs fun q r=>n2 bs fun b c=>if 0<g.lv/\behindInMarks r c=false then (R.e g a).bind fun y=>(R.e g b).bind fun z=>(R.e g c).bind fun u=>some (sQ (fo q) (fo r) y z u) else none).or
 (n1 qs fun q=>n1 bs fun b=>(if fo q=.notin then nName b fun x _=>(Bn g x).bind fun fs=>(R.e g a).bind fun y=>some (iQ fs y) else none).or
  (if 0<g.lv/\behindInMarks q b=false then (R.e g a).bind fun y=>(R.e g b).bind fun z=>some (aU (fo q) y z) else none))
noncomputable def FI:d5:=Bv
theorem sq {q:CmpOp}(h:fo q=.notin):q=.NotIn:=(cw q).symm.trans (congrArg dQ h)
theorem Ds:SE FI:=by
 intro fa n R rc g X o a ga h
 replace h:=oW h;obtain ⟨a,qs,bs,p,rfl,h⟩:=h
 replace h:=bJ h;rcases h with h|h
 ·replace h:=hZ h;obtain ⟨q,r,rfl,h⟩:=h;replace h:=hZ h;obtain ⟨b,d,rfl,h⟩:=h;replace h:=oi h;obtain ⟨c,h⟩:=h
  replace h:=ob h;obtain ⟨y,hy,h⟩:=h;replace h:=ob h;obtain ⟨z,hz,h⟩:=h;replace h:=ob h;obtain ⟨u,hu,h⟩:=h;cases h
  have:=J6 (o.rm c.1) (fo q) (fo r) (rc.e o hy) (rc.e o hz) (rc.e o hu) (by rw [cw,cw];exact c.2) (pos:=p)
  rw [cw,cw] at this;exact this
 replace h:=dE h;obtain ⟨q,rfl,h⟩:=h;replace h:=dE h;obtain ⟨b,rfl,h⟩:=h
 replace h:=bJ h;rcases h with h|h
 ·replace h:=oi h;obtain ⟨c,h⟩:=h;replace h:=c7 h;obtain ⟨x,_,rfl,h⟩:=h;obtain ⟨fs,e,h⟩:=ob h
  obtain ⟨y,hy,h⟩:=ob h;cases h;obtain ⟨d,e1,e2⟩:=sW o e;rw [sq c];exact D6 d e1 e2 (rc.e o hy) rfl
 ·obtain ⟨c,h⟩:=oi h
  obtain ⟨y,hy,h⟩:=ob h;obtain ⟨z,hz,h⟩:=ob h;cases h
  have:=J5 (o.rm c.1) (fo q) (rc.e o hy) (rc.e o hz) (by rw [cw];exact c.2) (pos:=p)
  rw [cw] at this;exact this
noncomputable def KY:Expr->Bool
 |.Compare ..=>false
 |.BoolOp ..=>false
 |.UnaryOp ..=>false
 |.IfExp ..=>false
 |_=>true
noncomputable def vT:IF:=fun R g e=>(AK e fun a qs bs _=>(n1 qs fun q=>n1 bs fun b=>Ce b (if fo q=.notN then (R.e g a).bind fun x=>some (aC (vX x (gC (.bl true)))) else none)).or ((Bv R g e).bind fun x=>some (aC x))).or
 ((vH e fun q es _ => match q with
   |.And=>rH (R.t g) jd es
   |.Or=>rH (R.t g) gj es).or
 ((Cd e fun q a _ => match q with
   |.Not=>(R.t g a).bind fun x=>some (bH x)
   |_=>none).or (if KY e=true then (R.e g e).bind fun x=>some (aC x) else none)))
theorem Di {fa:Fa}{n:Nat}{R:Rc}(rc:ju fa n R){g:G}{X:Cx}(o:dM fa n g X){a:Expr}{ga:GE}(h:Bv R g a=some ga):DT fa X a (aC ga):=by
 replace h:=oW h;obtain ⟨a,qs,bs,p,rfl,h⟩:=h
 replace h:=bJ h;rcases h with h|h
 ·replace h:=hZ h;obtain ⟨q,r,rfl,h⟩:=h;replace h:=hZ h;obtain ⟨b,d,rfl,h⟩:=h;replace h:=oi h;obtain ⟨c,h⟩:=h
  replace h:=ob h;obtain ⟨y,hy,h⟩:=h;replace h:=ob h;obtain ⟨z,hz,h⟩:=h;replace h:=ob h;obtain ⟨u,hu,h⟩:=h;cases h
  have:=HZ (o.rm c.1) (fo q) (fo r) (rc.e o hy) (rc.e o hz) (rc.e o hu) (by rw [cw,cw];exact c.2) (pos:=p)
  rw [cw,cw] at this;exact this
 replace h:=dE h;obtain ⟨q,rfl,h⟩:=h;replace h:=dE h;obtain ⟨b,rfl,h⟩:=h
 replace h:=bJ h;rcases h with h|h
 ·replace h:=oi h;obtain ⟨c,h⟩:=h;replace h:=c7 h;obtain ⟨x,_,rfl,h⟩:=h;obtain ⟨fs,e,h⟩:=ob h
  obtain ⟨y,hy,h⟩:=ob h;cases h;obtain ⟨d,e1,e2⟩:=sW o e;rw [sq c];exact Ea d e1 e2 (rc.e o hy) rfl
 ·obtain ⟨c,h⟩:=oi h
  obtain ⟨y,hy,h⟩:=ob h;obtain ⟨z,hz,h⟩:=ob h;cases h
  have:=HY (o.rm c.1) (fo q) (rc.e o hy) (rc.e o hz) (by rw [cw];exact c.2) (pos:=p)
  rw [cw] at this;exact this
theorem IW:ST vT:=by
 intro fa n R rc g X o a ga h
 replace h:=bJ h;rcases h with h|h
 ·replace h:=oW h;obtain ⟨a,qs,bs,p,rfl,h⟩:=h
  replace h:=bJ h;rcases h with h|h
  ·replace h:=dE h;obtain ⟨q,rfl,h⟩:=h;replace h:=dE h;obtain ⟨b,rfl,h⟩:=h;replace h:=AH h;obtain ⟨_,_,rfl,h⟩:=h;replace h:=oi h;obtain ⟨c,h⟩:=h
   replace h:=ob h;obtain ⟨x,hx,h⟩:=h;cases h;rw [show q=.IsNot from (cw q).symm.trans (congrArg dQ c)];exact Gr (rc.e o hx) Ir rfl
  ·replace h:=ob h;obtain ⟨x,hx,h⟩:=h;cases h;exact Di rc o hx
 replace h:=bJ h;rcases h with h|h
 ·replace h:=sD h;obtain ⟨q,es,p,rfl,h⟩:=h
  cases q with
  |And=>exact PW.pt (ue (rc.t o) h)
  |Or=>exact PW.pt (xl (rc.t o) h)
 replace h:=bJ h;rcases h with h|h
 ·replace h:=sA h;obtain ⟨q,a,p,rfl,h⟩:=h
  cases q with
  |Not=>obtain ⟨x,hx,h⟩:=ob h;cases h;exact HX (rc.t o hx)
  |_=>cases h
 ·obtain ⟨c,h⟩:=oi h
  obtain ⟨x,hx,h⟩:=ob h;cases h
  exact Bh (rc.e o hx) fun _=>by cases a<;>first|rfl|cases c
end LD
namespace LD
open PySem PySem.Spec PyProof.Rows L2
noncomputable def n5:Expr->Bool
 |.Slice ..=>false
 |_=>true
theorem r8 {b:Expr}(h:n5 b=true):kg b:=by
 intro x i
 cases b<;>first|rfl|cases h
noncomputable def cO (f:Expr->Option GE):Option Expr->Option GE
 |none=>some (gC .non)
 |some a=>f a
theorem qY {fa:Fa}{X:Cx}{f:Expr->Option GE}(hf:∀{a:Expr}{ga:GE},f a=some ga->DE fa X a ga){q:Option Expr}{ge:GE}(h:cO f q=some ge):DO fa X q q.isSome ge:=by
 cases q with
 |none=>cases h;exact EW
 |some a=>exact EV (hf h)
noncomputable def Fw:UnaryOp->Bool
 |.USub=>true
 |_=>false
theorem Dj {q:UnaryOp}(h:Fw q=true):q=.USub:=by cases q<;>first|rfl|cases h
noncomputable def Fz:d5:=fun R g e=>vF e fun a b _=>nName a fun x _=>(Bn g x).bind fun fs=>if n5 b=true then (R.e g b).bind fun y=>some (kK fs y) else none
theorem Dl:SE Fz:=by
 intro fa n R rc g X o a ga h
 replace h:=oV h;obtain ⟨a,b,p,rfl,h⟩:=h;replace h:=c7 h;obtain ⟨x,q,rfl,h⟩:=h;obtain ⟨fs,e,h⟩:=ob h
 obtain ⟨c,h⟩:=oi h;obtain ⟨y,hy,h⟩:=ob h;cases h
 obtain ⟨d,e1,e2⟩:=sW o e
 exact D7 d e1 e2 (rc.e o hy) (r8 c)
noncomputable def FE:d5:=fun R g e=>vF e fun a b p=>(Ha b fun lo hi st _=>match st with
 |none=>(R.e g a).bind fun x=>(cO (R.e g) lo).bind fun y=>(cO (R.e g) hi).bind fun z=>some (if g.tx p=true then CC lo.isSome hi.isSome x y z else dq (g.cl p) lo.isSome hi.isSome x y z)
 |some s=>Cd s fun q c _=>He c fun z=>if lo.isNone=true/\hi.isNone=true/\Fw q=true/\z=1 then (R.e g a).bind fun x=>some (HL (g.cl p) x) else none).or
 (if n5 b=true then (R.e g a).bind fun x=>(R.e g b).bind fun y=>some (aE x y) else none)
theorem Dq:SE FE:=by
 intro fa n R rc g X o a ga h
 replace h:=oV h;obtain ⟨a,b,p,rfl,h⟩:=h
 replace h:=bJ h;rcases h with h|h
 ·replace h:=Ex h;obtain ⟨lo,hi,st,p2,rfl,h⟩:=h
  cases st with
  | none =>
    replace h:=ob h;obtain ⟨x,hx,h⟩:=h;replace h:=ob h;obtain ⟨y,hy,h⟩:=h;replace h:=ob h;obtain ⟨z,hz,h⟩:=h;cases h
    split
    ·exact Ge _ _ (rc.e o hx) (qY (rc.e o) hy) (qY (rc.e o) hz)
    ·exact JV _ _ _ (rc.e o hx) (qY (rc.e o) hy) (qY (rc.e o) hz)
  | some s =>
    replace h:=sA h;obtain ⟨q,c,_,rfl,h⟩:=h;replace h:=EA h;obtain ⟨z,_,_,rfl,h⟩:=h;replace h:=oi h;obtain ⟨⟨c1,c2,c3,rfl⟩,h⟩:=h
    rw [Ol.mp c1,Ol.mp c2,Dj c3]
    obtain ⟨x,hx,h⟩:=ob h;cases h;exact Jh _ (rc.e o hx)
 ·obtain ⟨c,h⟩:=oi h;obtain ⟨x,hx,h⟩:=ob h;obtain ⟨y,hy,h⟩:=ob h;cases h
  exact J3 (rc.e o hx) (rc.e o hy) (r8 c)
noncomputable def lx (g:G)(x:Str):Option Nat:=if (g.sc.names.lookup x==some .local||(g.sc.names.lookup x==some .cell&&g.lv != 1))=true then g.N.findIdx? (·==x) else none
noncomputable def Hr (g:G):List Expr->Option (List Nat)
 |[]=>some []
 |e::r=>nName e fun x _=>(lx g x).bind fun i=>(Hr g r).bind fun l=>some (i::l)
noncomputable def cG (g:G)(e:Expr):Option cy:=(nName e fun x _=>(lx g x).bind fun i=>some (.one i)).or (oU e fun es _ _=>if 0<g.lv then (Hr g es).bind fun l=>some (.tup l) else none)
section
variable {fa:Fa}{n:Nat}{g:G}{X:Cx}{R:Rc}(o:dM fa n g X)
include o
theorem Cg {x:Str}{i:Nat}(h:lx g x=some i):X.N[i]?=some x/\L2.Loc X.env.scope x/\(X.fn x=true\/X.env.scope.names.lookup x=some .local):=by
 obtain ⟨c,h⟩:=oi h
 rw [Oo,MM] at c
 refine ⟨vS o h,?_,?_⟩
 ·unfold L2.Loc;rw [o.sc]
  rcases c with z|z
  ·exact .inl (eq_of_beq z)
  ·exact .inr (eq_of_beq z.1)
 ·rcases c with z|z
  ·right;rw [o.sc];exact eq_of_beq z
  ·exact .inl (o.fn (by simpa using z.2) x)
theorem yn:∀{es:List Expr}{l:List Nat},Hr g es=some l->jL X l es
 |[],_,h=>by cases h;exact .nil
 | e :: r, _, h => by
   replace h:=c7 h;obtain ⟨x,p,rfl,h⟩:=h
   obtain ⟨i,hi,h⟩:=ob h;obtain ⟨l,hl,h⟩:=ob h;cases h
   obtain ⟨a,b,c⟩:=Cg o hi
   exact .cons a b c (yn hl)
theorem kN {t:Expr}{tt:cy}(h:cG g t=some tt):PG X t (gT fa X.K tt):=by
 replace h:=bJ h;rcases h with h|h
 ·replace h:=c7 h;obtain ⟨x,p,rfl,h⟩:=h
  replace h:=ob h;obtain ⟨i,hi,h⟩:=h;cases h
  obtain ⟨a,b,c⟩:=Cg o hi
  exact E4 (o.N ▸ o.nd) a b c
 ·replace h:=gV h;obtain ⟨es,k,p,rfl,h⟩:=h
  obtain ⟨c,h⟩:=oi h;obtain ⟨l,hl,h⟩:=ob h;cases h
  exact Ih (o.calm c) (o.N ▸ o.nd) (yn o hl)
end
noncomputable def cB (nm:Str)(R:Rc)(g:G)(e:Expr):Option (List Expr×GA):=lD e fun x es _=>nC es fun a es=>if x=nm/\iI g x=true/\(match g.T.lookup x with|some .bl=>true|_=>false)=true/\0<g.lv then (cA (R.e g) (a::es)).bind fun gs=>some (a::es,gs) else none
theorem mB {g:G}{x:Str}(h:(match g.T.lookup x with|some .bl=>true|_=>false)=true):g.T.lookup x=some .bl:=by
 split at h
 ·assumption
 ·cases h
theorem oA {fa:Fa}{n:Nat}{R:Rc}{nm:Str}(rc:ju fa n R){g:G}{X:Cx}(o:dM fa n g X){e:Expr}{as:List Expr}{gs:GA}(h:cB nm R g e=some (as,gs)):∃p pos a es,as=a::es/\e=.Call (.Name nm p) (a::es) [] pos/\Gl X nm/\X.mg nm=none/\0<g.lv/\DA fa X (a::es) gs/\notStar a=true/\es.all notStar=true:=by
 replace h:=fC h;obtain ⟨x,q,es,p,rfl,h⟩:=h;replace h:=gu h;obtain ⟨a,es,rfl,h⟩:=h
 replace h:=oi h;obtain ⟨⟨rfl,c1,c2,c3⟩,h⟩:=h
 obtain ⟨gs,hgs,h⟩:=ob h;cases h
 obtain ⟨d,ns⟩:=gJ (rc.e o) hgs
 rw [Ny,MM] at ns
 exact ⟨_,_,_,_,rfl,rfl,(cp o c1).1,o.T.bl (mB c2),c3,d,ns.1,ns.2⟩
noncomputable def FD:d5:=fun R g e=>(cB "len" R g e).bind fun q=>some (aR .len q.2)
theorem Dp:SE FD:=fun {fa n R} rc {g X} o {a ga} h=>by
 obtain ⟨⟨as,gs⟩,hq,h⟩:=ob h;cases h
 obtain ⟨_,_,_,_,_,rfl,hg,hm,_,d,n1,n2⟩:=oA rc o hq
 exact wb .len JK hg hm PySem.boot_len d (by decide) (by decide) (bg n1) (bW n2)
noncomputable def FJ:d5:=fun R g e=>(cB "all" R g e).bind fun q=>some (aR .all q.2)
theorem Dt:SE FJ:=fun {fa n R} rc {g X} o {a ga} h=>by
 obtain ⟨⟨as,gs⟩,hq,h⟩:=ob h;cases h
 obtain ⟨_,_,_,_,_,rfl,hg,hm,lv,d,n1,n2⟩:=oA rc o hq
 exact wb .all (JL (o.calm lv)) hg hm (by decide +kernel) d (by decide) (by decide) (bg n1) (bW n2)
noncomputable def Fy:d5:=fun R g e=>(cB "sum" R g e).bind fun q=>some (aR .sum q.2)
theorem Dk:SE Fy:=fun {fa n R} rc {g X} o {a ga} h=>by
 obtain ⟨⟨as,gs⟩,hq,h⟩:=ob h;cases h
 obtain ⟨_,_,_,_,_,rfl,hg,hm,lv,d,n1,n2⟩:=oA rc o hq
 exact wb .sum (JJ (o.calm lv)) hg hm (by decide +kernel) d (by decide) (by decide) (bg n1) (bW n2)
noncomputable def wR:d5:=fun R g e=>(cB "tuple" R g e).bind fun q=>some (aR .tuple q.2)
theorem wQ:SE wR:=fun {fa n R} rc {g X} o {a ga} h=>by
 obtain ⟨⟨as,gs⟩,hq,h⟩:=ob h;cases h
 obtain ⟨_,_,_,_,_,rfl,hg,hm,_,d,n1,n2⟩:=oA rc o hq
 exact yO .tuple EJ hg hm (by decide +kernel) d (by decide) (by decide) (bg n1) (bW n2)
noncomputable def BU:d5:=fun R g e=>(cB "list" R g e).bind fun q=>some (aR (.list (g.cl e.pos)) q.2)
theorem zy:SE BU:=fun {fa n R} rc {g X} o {a ga} h=>by
 obtain ⟨⟨as,gs⟩,hq,h⟩:=ob h;cases h
 obtain ⟨_,_,_,_,_,rfl,hg,hm,_,d,n1,n2⟩:=oA rc o hq
 exact yO (.list _) (HP _) hg hm (by decide +kernel) d (by decide) (by decide) (bg n1) (bW n2)
noncomputable def cR (R:Rc)(g:G)(nm:Str)(e:Expr):Option (Expr×GE):=lD e fun x es _=>n1 es fun a=>if x=nm/\iI g x=true/\(match g.T.lookup x with|some .bl=>true|_=>false)=true/\0<g.lv/\notStar a=true then (R.e g a).bind fun y=>some (a,y) else none
theorem wm {fa:Fa}{n:Nat}{R:Rc}{nm:Str}(rc:ju fa n R){g:G}{X:Cx}(o:dM fa n g X){e a:Expr}{ga:GE}(h:cR R g nm e=some (a,ga)):∃p pos,e=.Call (.Name nm p) [a] [] pos/\Gl X nm/\X.mg nm=none/\0<g.lv/\DE fa X a ga/\starEach [a] X.env=[(false,eval a X.env)]:=by
 replace h:=fC h;obtain ⟨x,q,es,p,rfl,h⟩:=h;replace h:=dE h;obtain ⟨a,rfl,h⟩:=h
 replace h:=oi h;obtain ⟨⟨rfl,c1,c2,c3,c4⟩,h⟩:=h
 obtain ⟨y,hy,h⟩:=ob h;cases h
 exact ⟨_,_,rfl,(cp o c1).1,o.T.bl (mB c2),c3,rc.e o hy,bg c4⟩
noncomputable def wV:d5:=fun R g e=>lD e fun x es p=>n1 es fun b=>if x="list"/\iI g x=true/\(match g.T.lookup x with|some .bl=>true|_=>false)=true then (cR R g "range" b).bind fun q=>some (lH (g.cl p) q.2) else none
theorem wU:SE wV:=fun {fa n R} rc {g X} o {a ga} h=>by
 replace h:=fC h;obtain ⟨x,q,es,p,rfl,h⟩:=h;replace h:=dE h;obtain ⟨b,rfl,h⟩:=h
 replace h:=oi h;obtain ⟨⟨rfl,c1,c2⟩,h⟩:=h
 obtain ⟨⟨b,y⟩,hq,h⟩:=ob h;cases h
 obtain ⟨_,_,rfl,hg,hm,lv,d,hs⟩:=wm rc o hq
 exact D4 _ (o.calm lv) d (cp o c1).1 (o.T.bl (mB c2)) hg hm hs rfl
noncomputable def zD (x:Str):Option Ty:=if x="int" then some .int else if x="bool" then some .bool else if x="str" then some .str else if x="tuple" then some .tuple else if x="list" then some .list else none
theorem Du {x:Str}{t:Ty}(h:zD x=some t):bootBuiltins x=some (.type (tyName t))/\(∀c,t≠.own c)/\x≠"__name__"/\(x==("__debug__":Str))=false:=by
 unfold zD at h
 split at h
 ·subst x;cases h;exact ⟨by decide +kernel,(fun _ z=>nomatch z),by decide,by decide⟩
 split at h
 ·subst x;cases h;exact ⟨by decide +kernel,(fun _ z=>nomatch z),by decide,by decide⟩
 split at h
 ·subst x;cases h;exact ⟨by decide +kernel,(fun _ z=>nomatch z),by decide,by decide⟩
 split at h
 ·subst x;cases h;exact ⟨by decide +kernel,(fun _ z=>nomatch z),by decide,by decide⟩
 split at h
 ·subst x;cases h;exact ⟨by decide +kernel,(fun _ z=>nomatch z),by decide,by decide⟩
 ·cases h
noncomputable def cI (R:Rc)(g:G)(e:Expr):Option (Str×GE):=lD e fun y es _=>n2 es fun a b=>nName b fun x _=>if y="isinstance"/\iI g y=true/\(match g.T.lookup y with|some .bl=>true|_=>false)=true/\iI g x=true/\notStar a=true then (R.e g a).bind fun z=>some (x,z) else none
theorem Ka {fa:Fa}{n:Nat}{R:Rc}(rc:ju fa n R){g:G}{X:Cx}(o:dM fa n g X){e:Expr}{x:Str}{ga:GE}(h:cI R g e=some (x,ga)):∃p q a pos,e=.Call (.Name "isinstance" p) [a,.Name x q] [] pos/\Gl X "isinstance"/\X.mg "isinstance"=none/\Gl X x/\(x==("__debug__":Str))=false/\DE fa X a ga/\starEach [a,.Name x q] X.env=(false,eval a X.env)::starEach [.Name x q] X.env:=by
 replace h:=fC h;obtain ⟨y,q,es,p,rfl,h⟩:=h;replace h:=hZ h;obtain ⟨a,b,rfl,h⟩:=h;replace h:=c7 h;obtain ⟨x,q2,rfl,h⟩:=h
 replace h:=oi h;obtain ⟨⟨rfl,c1,c2,c3,c4⟩,h⟩:=h
 obtain ⟨z,hz,h⟩:=ob h;cases h
 exact ⟨_,_,_,_,rfl,(cp o c1).1,o.T.bl (mB c2),(cp o c3).1,(cp o c3).2,rc.e o hz,bg c4⟩
noncomputable def BV:d5:=fun R g e=>(cI R g e).bind fun q=>if (match g.T.lookup q.1 with|some .bl=>true|_=>false)=true then (zD q.1).bind fun t=>some (cz t q.2) else none
theorem zz:SE BV:=fun {fa n R} rc {g X} o {a ga} h=>by
 obtain ⟨⟨x,z⟩,hq,h⟩:=ob h
 obtain ⟨c,h⟩:=oi h
 obtain ⟨t,ht,h⟩:=ob h;cases h
 obtain ⟨_,_,_,_,rfl,hg,hm,hx,hd,d,hs⟩:=Ka rc o hq
 obtain ⟨b1,b2,b3,b4⟩:=Du ht
 exact Io t b2 d hg hm (by decide +kernel) hx (o.T.bl (mB c)) b1 b3 b4 hs
noncomputable def BX:d5:=fun R g e=>lD e fun x es _=>nC es fun a es=>if 0<g.lv then (match vr g x with
 |some i=>(cA (R.e g) (a::es)).bind fun gs=>some (lI i g.c gs)
 | none => if iI g x = true then (match g.T.lookup x with
   |some (.fn i _)=>(cA (R.e g) (a::es)).bind fun gs=>some (au i g.c gs)
   |_=>none) else none) else none
theorem zB:SE BX:=fun {fa n R} rc {g X} o {a ga} h=>by
 replace h:=fC h;obtain ⟨x,q,es,p,rfl,h⟩:=h;replace h:=gu h;obtain ⟨a,es,rfl,h⟩:=h
 ·obtain ⟨lv,h⟩:=oi h
  split at h
  ·next e=>
   obtain ⟨gs,hgs,h⟩:=ob h;cases h
   obtain ⟨d,ns⟩:=gJ (rc.e o) hgs
   rw [Ny,MM] at ns
   obtain ⟨a,b,c1,c2⟩:=BO o e
   exact E8 (o.C lv) ((o.hr lv).mono (Oz _)) a b d c1 c2 (bg ns.1) (bW ns.2)
  ·obtain ⟨c,h⟩:=oi h
   split at h
   ·next e=>
    obtain ⟨gs,hgs,h⟩:=ob h;cases h
    obtain ⟨d,ns⟩:=gJ (rc.e o) hgs
    rw [Ny,MM] at ns
    exact Iq (o.C lv _) ((o.hr lv).mono (Oz _)) (cp o c).1 (o.T.fn e) d (cp o c).2 (bg ns.1) (bW ns.2)
   ·cases h
noncomputable def BH:d5:=fun R g e=>(lD e fun x es _=>nC es fun a es=>if 2<=g.lv/\iI g x=true then (match g.T.lookup x with
 |some (.fn i true)=>(cA (R.e g) (a::es)).bind fun gs=>some (dg i g.c gs)
 |_=>none) else none).or (AJ e fun c a b _=>(R.x g a).bind fun x=>(R.x g b).bind fun y=>(R.t g c).bind fun t=>some (vY t x y))
theorem zi:SX BH:=fun {fa n R} rc {g X} o {a ga} h=>by
 replace h:=bJ h;rcases h with h|h
 ·replace h:=fC h;obtain ⟨x,q,es,p,rfl,h⟩:=h;replace h:=gu h;obtain ⟨a,es,rfl,h⟩:=h
  replace h:=oi h;obtain ⟨⟨lv,c⟩,h⟩:=h
  split at h
  ·next e=>
   replace h:=ob h;obtain ⟨gs,hgs,h⟩:=h;cases h
   obtain ⟨d,ns⟩:=gJ (rc.e o) hgs
   rw [Ny,MM] at ns
   exact x_call _ (o.C (by omega)) ((o.hr (by omega)).mono (Oz _)) (o.top lv).1 (cp o c).1 (o.T.fn e) d (cp o c).2 ns.1 ns.2
  ·cases h
 ·replace h:=uK h;obtain ⟨c,a,b,p,rfl,h⟩:=h
  obtain ⟨x,hx,h⟩:=ob h;obtain ⟨y,hy,h⟩:=ob h;obtain ⟨t,ht,h⟩:=ob h;cases h
  exact IU (rc.t o ht) (rc.x o hx) (rc.x o hy)
theorem Gd {n:Nat}{A:NL}(h:bu (n+4) A):bu 2 A:=h.mono (by omega)
noncomputable def i6:Expr->Bool
 |.Call ..=>false
 |_=>true
theorem d3 {a:Expr}{m:Str}{env:Nx}{w:Sem MG}(h:i6 a=true):attributeBase a m env w=w:=by
 cases a<;>first|rfl|cases h
noncomputable def Kj:d5:=fun R g e=>Hd e fun l _=>nC l fun a l=>n2 l fun b c=>AI a fun z=>Kz b fun b=>AI c fun y=>(R.e g b).bind fun x=>some (CG z y x)
theorem FH:SE Kj:=fun {fa n R} rc {g X} o {a ga} h=>by
 replace h:=Ez h;obtain ⟨l,p,rfl,h⟩:=h;replace h:=gu h;obtain ⟨a,l,rfl,h⟩:=h;replace h:=hZ h;obtain ⟨b,c,rfl,h⟩:=h
 replace h:=uJ h;obtain ⟨z,_,_,rfl,h⟩:=h;replace h:=Hg h;obtain ⟨b,_,rfl,h⟩:=h;replace h:=uJ h;obtain ⟨y,_,_,rfl,h⟩:=h
 obtain ⟨x,hx,h⟩:=ob h;cases h;exact Li (rc.e o hx)
end LD
namespace LD
open PySem PySem.Spec PyProof.Rows L2
noncomputable def BM:qC:=fun R g _ e=>(cR R g "range" e).bind fun q=>some (cY q.2)
theorem zr:SW BM:=fun {fa n R} rc {g X} o {t a ga} h=>by
 obtain ⟨⟨b,y⟩,hq,h⟩:=ob h;cases h
 obtain ⟨_,_,rfl,hg,hm,_,d,hs⟩:=wm rc o hq
 exact E2 d hg hm hs
noncomputable def BN:qC:=fun R g t e=>oU t fun _ _ _=>(cR R g "enumerate" e).bind fun q=>some (mq q.2)
theorem zt:SW BN:=fun {fa n R} rc {g X} o {t a ga} h=>by
 replace h:=gV h;obtain ⟨_,_,_,rfl,h⟩:=h
 obtain ⟨⟨b,y⟩,hq,h⟩:=ob h;cases h
 obtain ⟨_,_,rfl,hg,hm,_,d,hs⟩:=wm rc o hq
 exact E3 d hg hm hs
noncomputable def cN (R:Rc)(g:G)(nm:Str)(e:Expr):Option (List Expr):=lD e fun x es _=>if x=nm/\iI g x=true/\(match g.T.lookup x with|some .bl=>true|_=>false)=true/\0<g.lv/\es.all notStar=true then some es else none
theorem wo {fa:Fa}{n:Nat}{R:Rc}{nm:Str}{g:G}{X:Cx}(o:dM fa n g X){e:Expr}{es:List Expr}(h:cN R g nm e=some es):∃p pos,e=.Call (.Name nm p) es [] pos/\Gl X nm/\X.mg nm=none/\es.all notStar=true:=by
 replace h:=fC h;obtain ⟨x,q,es,p,rfl,h⟩:=h
 replace h:=oi h;obtain ⟨⟨rfl,c1,c2,c3,c4⟩,h⟩:=h
 cases h
 exact ⟨_,_,rfl,(cp o c1).1,o.T.bl (mB c2),c4⟩
theorem hJ {env:Nx}:∀{es:List Expr},es.all notStar=true->starEach es env=es.map fun a=>(false,eval a env)
 |[],_=>rfl
 | a :: es, h => by
   rw [Ny,MM] at h
   rw [bg h.1,hJ h.2];rfl
noncomputable def BK:qC:=fun R g t e=>oU t fun _ _ _=>(cN R g "zip" e).bind fun es=>n2 es fun a b=>(R.e g a).bind fun x=>(R.e g b).bind fun y=>some (mn x y)
theorem zp:SW BK:=fun {fa n R} rc {g X} o {t a ga} h=>by
 replace h:=gV h;obtain ⟨_,_,_,rfl,h⟩:=h
 obtain ⟨es,hq,k⟩:=ob h;clear h
 obtain ⟨_,_,rfl,hg,hm,ns⟩:=wo o hq
 replace k:=hZ k;obtain ⟨a,b,rfl,k⟩:=k
 obtain ⟨x,hx,k⟩:=ob k;obtain ⟨y,hy,k⟩:=ob k;cases k
 exact EY (rc.e o hx) (rc.e o hy) hg hm (hJ ns) (hJ (Oa.mp (Ny ▸ ns)).2)
noncomputable def BJ:qC:=fun R g t e=>oU t fun _ _ _=>(cN R g "zip" e).bind fun es=>nC es fun a es=>n2 es fun b c=>(R.e g a).bind fun x=>(R.e g b).bind fun y=>(R.e g c).bind fun z=>some (ml x y z)
theorem zo:SW BJ:=fun {fa n R} rc {g X} o {t a ga} h=>by
 replace h:=gV h;obtain ⟨_,_,_,rfl,h⟩:=h
 obtain ⟨es,hq,k⟩:=ob h;clear h
 obtain ⟨_,_,rfl,hg,hm,ns⟩:=wo o hq
 replace k:=gu k;obtain ⟨a,es,rfl,k⟩:=k
 replace k:=hZ k;obtain ⟨b,c,rfl,k⟩:=k
 obtain ⟨x,hx,k⟩:=ob k;obtain ⟨y,hy,k⟩:=ob k;obtain ⟨z,hz,k⟩:=ob k;cases k
 have n2:=(Oa.mp (Ny ▸ ns)).2
 have n3:=(Oa.mp (Ny ▸ n2)).2
 exact EX (rc.e o hx) (rc.e o hy) (rc.e o hz) hg hm (hJ ns) (hJ n2) (hJ n3)
noncomputable def Fv:qC:=fun R g _ e=>(R.e g e).bind fun x=>some (if g.tx e.pos=true then CD x else fy x)
theorem Dg:SW Fv:=fun {fa n R} rc {g X} o {t a ga} h=>by
 obtain ⟨x,hx,h⟩:=ob h;cases h
 split
 ·exact EZ (rc.e o hx)
 ·exact Ig (rc.e o hx)
noncomputable def lC:Expr->Bool
 |.Set ..=>false
 |_=>true
theorem yH {a:Expr}{env:Nx}(h:lC a=true)(x:MG):foldedSetIterable a env x=pure x:=by
 cases a<;>first|rfl|cases h
noncomputable def AB:Expr->List Str
 |.Name x _=>[x]
 |.Tuple es _ _=>es.filterMap fun|.Name x _=>some x|_=>none
 |_=>[]
noncomputable def tq (g:G)(own:List Str):List Str:=g.N.map fun x=>if own.contains x then x++("%":Str) else x
noncomputable def Ao (scope sc:Scope):Scope:={scope with names:=scope.names.map fun (n,k)=>if (k==.free&&sc.kind==.function&&sc.names.lookup n==some .cell) then (n,.cell) else (n,k)}
noncomputable def G.inC (g:G)(own:List Str)(scope:Scope):G:={g with N:=own++tq g own,sc:=Ao scope g.sc,lv:=1}
noncomputable def ya (g:G)(own:List Str)(scope:Scope):Prop:=0<g.lv/\scope.kind=.function/\pz (tq g own) g.N g.sc scope=true/\(own++tq g own).Nodup
noncomputable instance (g:G) (own:List Str) (scope:Scope):Decidable (ya g own scope):=by unfold ya;infer_instance
theorem CM {fa:Fa}{n:Nat}{g:G}{X:Cx}(o:dM fa n g X){own:List Str}{scope:Scope}(c:ya g own scope):iw X own (tq g own) scope/\∀cl C fp s H,dM fa n (g.inC own scope) (gF X own (tq g own) scope cl C fp s H):=by
 obtain ⟨c1,c2,c3,c4⟩:=c
 refine ⟨yT c2 o.sc o.N c3,fun cl C fp s H=>⟨rfl,c4,?_,o.T,o.tw,o.xf,o.ms,(fun z=>absurd rfl z),fun _=>o.calm c1,fun _=>o.C c1,fun _=>o.hr c1,(fun z=>absurd (show 2<=1 from z) (by decide)),(fun z=>nomatch z)⟩⟩
 show relabel scope X.env=Ao scope g.sc
 unfold relabel Ao Env.kindOf
 rw [o.sc]
structure IM (fa:Fa) (X:Cx) (e:Expr) (k:Nat) (t:cy) (gw:GW) (gb:GB):Prop where
 ex:∃elt tg iter ifs rest scope pos own bn W body,e=.ListComp elt (⟨tg,iter,ifs,0⟩::rest) scope pos/\k=own.length/\iw X own bn scope/\DI fa X tg iter gw/\Block fa X own bn scope tg t W body gb/\oF X elt tg iter ifs rest scope pos body/\(∀i∈W,i∉slots t)/\(∀i∈slots t++W,i<own.length)/\∀x,foldedSetIterable iter X.env x=pure x
noncomputable def cC (R:Rc)(g:G)(e:Expr):Option (Nat×cy×GW×GB):=Hc e fun elt gens scope _=>(n1 gens fun c=>nG c fun tg iter ifs=>let own:=AB tg
 if ya g own scope/\lC iter=true then (R.w g tg iter).bind fun w=>(cG (g.inC own scope) tg).bind fun t=>(R.e (g.inC own scope) elt).bind fun x=>if (slots t).all (· < own.length)=true then (n0 ifs (some (own.length,t,w,bS x))).or (n1 ifs fun c=>(R.t (g.inC own scope) c).bind fun q=>some (own.length,t,w,KP q (bS x))) else none else none).or
 (n2 gens fun c d=>nG c fun tg iter ifs=>nG d fun t2 i2 ifs2=>let own:=AB tg++AB t2
  n0 ifs (n0 ifs2 (if ya g own scope/\lC iter=true/\lC i2=true then (R.w g tg iter).bind fun w=>(cG (g.inC own scope) tg).bind fun t=>(R.w (g.inC own scope) t2 i2).bind fun w2=>(cG (g.inC own scope) t2).bind fun u=>(R.e (g.inC own scope) elt).bind fun x=>if (slots t++slots u).all (· < own.length)=true/\(slots u).all (fun i=>!(slots t).contains i)=true then some (own.length,t,w,sP u w2 (bS x)) else none else none)))
theorem CP {fa:Fa}{n:Nat}{R:Rc}(rc:ju fa n R){g:G}{X:Cx}(o:dM fa n g X){e:Expr}{k:Nat}{t:cy}{gw:GW}{gb:GB}(h:cC R g e=some (k,t,gw,gb)):IM fa X e k t gw gb:=by
 replace h:=yh h;obtain ⟨elt,gens,scope,p,rfl,h⟩:=h
 replace h:=bJ h;rcases h with h|h
 ·replace h:=dE h;obtain ⟨c,rfl,h⟩:=h;replace h:=vG h;obtain ⟨tg,iter,ifs,rfl,h⟩:=h
  replace h:=oi h;obtain ⟨⟨c,cs⟩,h⟩:=h
  replace h:=ob h;obtain ⟨w,hw,h⟩:=h;replace h:=ob h;obtain ⟨t,ht,h⟩:=h;replace h:=ob h;obtain ⟨x,hx,h⟩:=h;replace h:=oi h;obtain ⟨c2,h⟩:=h
  obtain ⟨S,O⟩:=CM o c
  replace h:=bJ h;rcases h with h|h
  ·replace h:=eO h;obtain ⟨rfl,h⟩:=h;cases h
   exact ⟨_,_,_,_,_,_,_,_,_,[],_,rfl,rfl,S,rc.w o hw,⟨fun cl C fp s H=>kN (O cl C fp s H) ht,fun cl C fp s H a=>sX (rc.e (O cl C fp s H) hx)⟩,(fun it a env=>zG _ _ _ [] _ _ (.ref it) (.ref a) env),(fun i h=>nomatch h),(by simpa using mV c2),yH cs⟩
  ·replace h:=dE h;obtain ⟨d,rfl,h⟩:=h;replace h:=ob h;obtain ⟨q,hq,h⟩:=h;cases h
   exact ⟨_,_,_,_,_,_,_,_,_,[],_,rfl,rfl,S,rc.w o hw,⟨fun cl C fp s H=>kN (O cl C fp s H) ht,fun cl C fp s H a=>JR (rc.t (O cl C fp s H) hq) (sX (rc.e (O cl C fp s H) hx))⟩,(fun it a env=>turn_if _ _ _ _ _ _ (.ref it) (.ref a) env),(fun i h=>nomatch h),(by simpa using mV c2),yH cs⟩
 ·replace h:=hZ h;obtain ⟨c,d,rfl,h⟩:=h;replace h:=vG h;obtain ⟨tg,iter,ifs,rfl,h⟩:=h;replace h:=vG h;obtain ⟨t2,i2,ifs2,rfl,h⟩:=h;replace h:=eO h;obtain ⟨rfl,h⟩:=h;replace h:=eO h;obtain ⟨rfl,h⟩:=h
  obtain ⟨⟨c,cs,cs2⟩,h⟩:=oi h
  obtain ⟨w,hw,h⟩:=ob h;obtain ⟨t,ht,h⟩:=ob h;obtain ⟨w2,hw2,h⟩:=ob h;obtain ⟨u,hu,h⟩:=ob h;obtain ⟨x,hx,h⟩:=ob h;obtain ⟨⟨c2,c3⟩,h⟩:=oi h;cases h
  obtain ⟨S,O⟩:=CM o c
  exact ⟨_,_,_,_,_,_,_,_,_,slots u,_,rfl,rfl,S,rc.w o hw,⟨fun cl C fp s H=>kN (O cl C fp s H) ht,fun cl C fp s H a=>Ii (X:=gF X _ _ _ cl C fp s H) rfl (o.calm c.1) (rc.w (O cl C fp s H) hw2) (kN (O cl C fp s H) hu) (rc.e (O cl C fp s H) hx) (yH cs2)⟩,(fun it a env=>zE _ _ _ _ _ _ _ (.ref it) (.ref a) env),xA c3,mV c2,yH cs⟩
noncomputable def BW:d5:=fun R g e=>if 0<g.lv then (cC R g e).bind fun q=>some (b7 (g.cl e.pos) q.1 q.2.1 q.2.2.1 q.2.2.2) else none
theorem zA:SE BW:=fun {fa n R} rc {g X} o {a ga} h=>by
 obtain ⟨lv,h⟩:=oi h
 obtain ⟨⟨k,t,w,b⟩,hq,h⟩:=ob h;cases h
 obtain ⟨elt,tg,iter,ifs,rest,scope,pos,own,bn,W,body,rfl,rfl,S,hi,B,T,h1,h2,h3⟩:=(CP rc o hq).ex
 exact Ip _ S (o.calm lv) hi B T h1 h2 h3
noncomputable def qp (f:Stmt->Option GS):List Stmt->Option GS
 |[]=>some aj
 |a::r=>(f a).bind fun x=>(qp f r).bind fun y=>some (af x y)
theorem js {fa:Fa}{X:Cx}{f:Stmt->Option GS}(hf:∀{a:Stmt}{ga:GS},f a=some ga->DS fa X a ga):∀{ss:List Stmt}{gs:GS},qp f ss=some gs->kU fa X ss gs
 |[],_,h=>by cases h;exact ER
 | a :: r, _, h => by
   obtain ⟨x,hx,h⟩:=ob h;obtain ⟨y,hy,h⟩:=ob h;cases h
   exact Bi (hf hx) (js hf hy)
noncomputable def ma:Expr->Bool
 |.ListComp ..=>false
 |.SetComp ..=>false
 |.DictComp ..=>false
 |_=>true
theorem uI {a:Expr}{t:Option Expr}{l:Nat}{env:Nx}(h:ma a=true):swapsWith a t l env=pure false:=by
 cases a<;>first|rfl|cases h
noncomputable def Iz (g:G)(tg a:Expr):Bool:=match a with
 |.ListComp ..=>(match tg with|.Name y _=>g.sc.names.lookup y==some .cell|_=>false)
 |.Tuple ..=>(match tg with|.Name ..=>true|_=>false)
 |.SetComp ..=>false
 |.DictComp ..=>false
 |_=>true
theorem Iy {fa:Fa}{n:Nat}{g:G}{X:Cx}(o:dM fa n g X){tg a:Expr}{t:cy}{l:Nat}(c:Iz g tg a=true)(ht:cG g tg=some t):swapsWithSole [tg] a l X.env=pure false/\swappedStores [tg] a X.env=pure none/\(assignEach [tg] X.env).map (·.2)=[assign tg X.env]:=by
 refine ⟨?_,?_,?_⟩
 ·cases a<;>first|rfl|cases c|skip
  cases tg<;>first|cases c|skip
  next y p=>
  have e:=eq_of_beq c
  have hk:(X.env.kindOf y==some .local)=false:=by unfold Env.kindOf;rw [o.sc,e];rfl
  show (pure (X.env.blockKind==.function&&X.env.kindOf y==some .local&&_&&_):Sem Bool)=pure false
  rw [hk,Bool.and_false,Bool.false_and,Bool.false_and]
 ·replace ht:=bJ ht;rcases ht with h|h
  ·replace h:=c7 h;obtain ⟨_,_,rfl,_⟩:=h;cases a<;>first|rfl|cases c
  ·replace h:=gV h;obtain ⟨_,_,_,rfl,_⟩:=h;cases a<;>first|rfl|cases c
 ·replace ht:=bJ ht;rcases ht with h|h
  ·replace h:=c7 h;obtain ⟨_,_,rfl,_⟩:=h;rfl
  ·replace h:=gV h;obtain ⟨_,_,_,rfl,_⟩:=h;rfl
noncomputable def Fo:mP:=fun R g st=>rV st fun ts a _=>n1 ts fun tg=>if Iz g tg a=true then (cG g tg).bind fun t=>((R.x g a).bind fun x=>some (hV t x)).or ((R.e g a).bind fun x=>some (aK t x)) else none
theorem C9:SS Fo:=fun {fa n R} rc {g X} o {a ga} h=>by
 replace h:=l5 h;obtain ⟨ts,a,p,rfl,h⟩:=h;replace h:=dE h;obtain ⟨tg,rfl,h⟩:=h
 obtain ⟨c,h⟩:=oi h;obtain ⟨t,ht,h⟩:=ob h
 obtain ⟨a1,a2,a3⟩:=Iy (l:=p.line) o c ht
 replace h:=bJ h;rcases h with h|h
 ·obtain ⟨x,e,h⟩:=ob h;cases h;exact F3 (rc.x o e) (kN o ht) a1 a2 a3
 ·obtain ⟨x,hx,h⟩:=ob h;cases h;exact Ic (rc.e o hx) (kN o ht) a1 a2 a3
noncomputable def BF:mP:=fun R g st=>rV st fun ts d _=>n1 ts fun t=>nName t fun y py=>Hc d fun elt gens scope p=>if 2<=g.lv/\g.sc.names.lookup y=some .local/\(py.line==p.line)=true/\(scope.names.any fun (n,k)=>n==y&&(k==.local||k==.cell))=false then (cC R g (.ListComp elt gens scope p)).bind fun q=>(g.N.findIdx? (·==y)).bind fun i=>some (aK (.one i) (b7 (g.cl p) q.1 q.2.1 q.2.2.1 q.2.2.2)) else none
theorem zg:SS BF:=fun {fa n R} rc {g X} o {a ga} h=>by
 replace h:=l5 h;obtain ⟨ts,d,_,rfl,h⟩:=h;replace h:=dE h;obtain ⟨t,rfl,h⟩:=h;replace h:=c7 h;obtain ⟨y,py,rfl,h⟩:=h;replace h:=yh h;obtain ⟨_,_,sc0,p,rfl,h⟩:=h
 ·next=>
  obtain ⟨⟨lv,c1,c2,c3⟩,h⟩:=oi h
  obtain ⟨⟨k,t,w,b⟩,hq,h⟩:=ob h;obtain ⟨i,hi,h⟩:=ob h;cases h
  obtain ⟨elt,tg,iter,ifs,rest,scope,pos,own,bn,W,body,e0,rfl,S,hi',B,T,h1,h2,h3⟩:=(CP rc o hq).ex
  cases e0
  have hl:X.env.scope.names.lookup y=some .local:=by rw [o.sc];exact c1
  refine wa _ S (o.calm (by omega)) hi' B T h1 h2 h3 (o.N ▸ o.nd) (vS o hi) hl ?_
  have hk:=(o.top lv).2.2.2
  have hb:(X.env.blockKind==.function)=true:=by unfold Env.blockKind;rw [hk];rfl
  have hkd:(X.env.kindOf y==some .local)=true:=by unfold Env.kindOf;rw [hl];rfl
  show (pure (X.env.blockKind==.function&&X.env.kindOf y==some .local&&(py.line==p.line)&&!(sc0.names.any fun (n,k)=>n==y&&(k==.local||k==.cell))):Sem Bool)=pure true
  rw [hb,hkd,c2,c3];rfl
noncomputable def Fm:mP:=fun R g st=>rV st fun ts d _=>n1 ts fun t=>vF t fun a b _=>if n5 b=true then (R.e g a).bind fun x=>(R.e g b).bind fun y=>(R.e g d).bind fun z=>some (dz x y z) else none
theorem C7:SS Fm:=fun {fa n R} rc {g X} o {a ga} h=>by
 replace h:=l5 h;obtain ⟨ts,d,_,rfl,h⟩:=h;replace h:=dE h;obtain ⟨t,rfl,h⟩:=h;replace h:=oV h;obtain ⟨a,b,p2,rfl,h⟩:=h
 ·next=>
  obtain ⟨c,h⟩:=oi h
  obtain ⟨x,hx,h⟩:=ob h;obtain ⟨y,hy,h⟩:=ob h;obtain ⟨z,hz,h⟩:=ob h;cases h
  refine H9 (rc.e o hx) (rc.e o hy) (rc.e o hz) (fun v=>?_) ?_ ?_ rfl
  ·cases b<;>first|rfl|cases c
  ·cases d<;>rfl
  ·cases d<;>rfl
noncomputable def Fp:mP:=fun R g st=>Aj st fun e _=>KA e fun a m d q=>if m="append"/\i6 a=true/\q=true/\notStar d=true then (R.e g a).bind fun x=>(R.e g d).bind fun y=>some (iA x y) else none
theorem Dc:SS Fp:=fun {fa n R} rc {g X} o {a ga} h=>by
 replace h:=uv h;obtain ⟨e,_,rfl,h⟩:=h;replace h:=Hh h;obtain ⟨a,m,q,d,p,rfl,h⟩:=h
 replace h:=oi h;obtain ⟨⟨rfl,c1,c2,c3⟩,h⟩:=h
 obtain ⟨x,hx,h⟩:=ob h;obtain ⟨y,hy,h⟩:=ob h;cases h
 exact Ie (rc.e o hx) (rc.e o hy) (d3 c1) c2 (bg c3) rfl
noncomputable def Fj:mP:=fun R g st=>(Aj st fun a _=>if ma a=true then ((R.x g a).bind fun x=>some (iz x)).or ((R.e g a).bind fun x=>some (sEx x)) else none).or
 ((Kr st fun q _ => match q with
   |none=>some B3
   |some a=>((R.x g a).bind fun x=>some (vo x)).or ((R.e g a).bind fun x=>some (aM x))).or
 ((Ks st fun _=>some B4).or
 ((Kt st fun c st sf _=>(R.t g c).bind fun t=>(qp (R.s g) st).bind fun x=>(qp (R.s g) sf).bind fun y=>some (aQ t x y)).or
 (Ku st fun tg a body el _=>n0 el (if g.lv=2/\lC a=true then (R.w g tg a).bind fun w=>(cG g tg).bind fun t=>(qp (R.s g) body).bind fun x=>some (dJ t w x) else none)))))
theorem C6:SS Fj:=fun {fa n R} rc {g X} o {a ga} h=>by
 replace h:=bJ h;rcases h with h|h
 ·replace h:=uv h;obtain ⟨a,p,rfl,h⟩:=h
  obtain ⟨c,h⟩:=oi h
  rcases bJ h with h|h
  ·obtain ⟨x,e,h⟩:=ob h;cases h;exact Je (rc.x o e) (uI c)
  ·obtain ⟨x,hx,h⟩:=ob h;cases h;exact JQ (rc.e o hx) (uI c)
 replace h:=bJ h;rcases h with h|h
 ·replace h:=F6 h;obtain ⟨q,p,rfl,h⟩:=h
  cases q with
  |none=>cases h;exact ES
  | some a =>
    rcases bJ h with h|h
    ·obtain ⟨x,e,h⟩:=ob h;cases h;exact FZ (rc.x o e)
    ·obtain ⟨x,hx,h⟩:=ob h;cases h;exact H8 (rc.e o hx)
 replace h:=bJ h;rcases h with h|h
 ·replace h:=F8 h;obtain ⟨p,rfl,h⟩:=h;cases h;exact ET
 replace h:=bJ h;rcases h with h|h
 ·replace h:=Ga h;obtain ⟨c,st,sf,p,rfl,h⟩:=h
  obtain ⟨t,ht,h⟩:=ob h;obtain ⟨x,hx,h⟩:=ob h;obtain ⟨y,hy,h⟩:=ob h;cases h
  exact Ia (rc.t o ht) (js (rc.s o) hx) (js (rc.s o) hy)
 ·replace h:=Gb h;obtain ⟨tg,a,body,el,p,rfl,h⟩:=h;replace h:=eO h;obtain ⟨rfl,h⟩:=h
  obtain ⟨⟨lv,c⟩,h⟩:=oi h
  obtain ⟨w,hw,h⟩:=ob h;obtain ⟨t,ht,h⟩:=ob h;obtain ⟨x,hx,h⟩:=ob h;cases h
  exact Ib (o.po lv) (o.calm (by omega)) (rc.w o hw) (kN o ht) (js (rc.s o) hx) (yH c)
noncomputable def wG:mP:=fun R g st=>F7 st fun e c _=>if c.isNone=true then e.bind fun e=>lD e fun x es _=>nC es fun a es=>if 2<=g.lv/\iI g x=true then (match g.T.lookup x with
 |some (.xc k)=>(cA (R.e g) (a::es)).bind fun gs=>some (eE k gs)
 |some (.xi k)=>if notStar a=true/\es.isEmpty=true then (R.e g a).bind fun y=>some (jU k y) else none
 |_=>none) else none else none
theorem wF:SS wG:=fun {fa n R} rc {g X} o {a ga} h=>by
 replace h:=DZ h;obtain ⟨e,c,_,rfl,h⟩:=h;replace h:=oi h;obtain ⟨c,h⟩:=h;rw [Ol.mp c];replace h:=ob h;obtain ⟨e,rfl,h⟩:=h;replace h:=fC h;obtain ⟨x,q,es,p,rfl,h⟩:=h;replace h:=gu h;obtain ⟨a,es,rfl,h⟩:=h
 ·obtain ⟨⟨lv,c⟩,k⟩:=oi h;clear h
  split at k
  ·next e=>
   obtain ⟨gs,hgs,k⟩:=ob k;cases k
   obtain ⟨d,ns⟩:=gJ (rc.e o) hgs
   rw [Ny,MM] at ns
   obtain ⟨C,h1,h2,h3,_⟩:=o.T.xc e
   exact DY _ ⟨C,h1,h2,h3⟩ (o.top lv).1 (cp o c).1 (o.calm (by omega)) d (cp o c).2 ns.1 ns.2
  ·next e=>
   obtain ⟨⟨c1,c2⟩,k⟩:=oi k
   obtain ⟨y,hy,k⟩:=ob k;cases k
   rw [List.isEmpty_iff.mp c2]
   exact Ag _ (o.T.xi e).1 (Gd (o.hr (by omega))) (o.top lv).1 (cp o c).1 (o.calm (by omega)) (rc.e o hy) (cp o c).2 c1
  ·cases k
theorem A5 {fa:Fa}{n:Nat}{g:G}{X:Cx}(o:dM fa n g X)(lv:2<=g.lv)(pn:List (Addr×Obj))(E:MG->MI->Prop):dM fa n {g with lv:=3} (oj X pn E):=⟨o.N,o.nd,o.sc,o.T,o.tw,o.xf,o.ms,fun _=>o.fn (by omega),fun _=>o.calm (by omega),fun _=>o.C (by omega),fun _=>o.hr (by omega),fun _=>o.top lv,(fun z=>nomatch z)⟩
theorem A6 {fa:Fa}{n:Nat}{g:G}{X:Cx}(o:dM fa n g X)(lv:2<=g.lv)(v:MG)(E:MG->MI->Prop):dM fa n {g with lv:=0} (qV X v E):=⟨o.N,o.nd,o.sc,o.T,o.tw,o.xf,o.ms,fun _=>o.fn (by omega),(fun z=>absurd (show 0<0 from z) (by decide)),(fun z=>absurd (show 0<0 from z) (by decide)),(fun z=>absurd (show 0<0 from z) (by decide)),(fun z=>absurd (show 2<=0 from z) (by decide)),(fun z=>nomatch z)⟩
end LD
namespace LD
open PySem PySem.Spec PyProof.Rows L2
theorem yJ {env:Nx}{pos:Pos}{es:List Expr}(h:es.all notStar=true)(hl:es.length<30):methodCallForm es.length (backTo pos (starEach es env)) (backToKw pos (keywordEach [] env))=true:=by
 rw [hJ h]
 have:backToKw pos (keywordEach [] env)=[]:=rfl
 rw [this]
 unfold methodCallForm backTo
 simp [hl]
noncomputable def FG:d5:=fun R g e=>kC e fun a f _=>if i6 a=true then (R.e g a).bind fun x=>some (bR f x) else none
theorem Dr:SE FG:=fun {fa n R} rc {g X} o {a ga} h=>by
 obtain ⟨a,f,p,rfl,h⟩:=gW h
 obtain ⟨c1,h⟩:=oi h;obtain ⟨x,hx,h⟩:=ob h;cases h
 exact J4 f o.T.ob o.T.of (rc.e o hx) (d3 c1)
noncomputable def BR:d5:=fun R g e=>mf e fun h es ks p=>kC h fun a m ap=>n0 ks (if i6 a=true/\(ap.endLine==p.line)=true/\0<g.lv/\es.length<30 then (g.ms.find? (·.1==m)).bind fun q=>(cA (R.e g) es).bind fun gs=>(R.e g a).bind fun x=>some (bM q.2.1 q.2.2 g.c x gs) else none)
theorem zw:SE BR:=fun {fa n R} rc {g X} o {a ga} h=>by
 replace h:=jm h;obtain ⟨hd,es,ks,p,rfl,h⟩:=h
 replace h:=gW h;obtain ⟨a,m,ap,rfl,h⟩:=h
 replace h:=eO h;obtain ⟨rfl,h⟩:=h
 replace h:=oi h;obtain ⟨⟨c1,c2,c3,c4⟩,h⟩:=h
 replace h:=ob h;obtain ⟨q,hq,h⟩:=h
 obtain ⟨gs,hgs,h⟩:=ob h;obtain ⟨x,hx,h⟩:=ob h;cases h
 obtain ⟨C,hC,cl,mt,nm⟩:=o.ms q (Om hq)
 have e:=List.find?_some hq
 have e:q.1=m:=eq_of_beq e
 rw [e] at mt nm
 have hr:=(o.hr c3).mono (Oz _)
 cases es with
 |nil=>cases hgs;exact E7 (o.C c3 _) hr o.T.of hC cl mt nm (rc.e o hx) (d3 c1) c2
 | cons b es =>
   obtain ⟨d,ns⟩:=gJ (rc.e o) hgs
   have fw:=yJ (env:=X.env) (pos:=p) ns c4
   rw [Ny,MM] at ns
   exact Il (o.C c3 _) hr o.T.of hC cl mt nm (rc.e o hx) d (d3 c1) fw c2 (bg ns.1) (bW ns.2)
noncomputable def BS:d5:=fun R g e=>lD e fun x es _=>nC es fun a es=>if 0<g.lv/\iI g x=true then (g.T.lookup x).bind fun
 |.cls c f=>(cA (R.e g) (a::es)).bind fun gs=>some (kJ c f g.c gs)
 |_=>none else none
theorem zx:SE BS:=fun {fa n R} rc {g X} o {a ga} h=>by
 replace h:=fC h;obtain ⟨x,q,es,p,rfl,h⟩:=h
 replace h:=gu h;obtain ⟨a,es,rfl,h⟩:=h
 obtain ⟨⟨lv,c⟩,h⟩:=oi h;obtain ⟨t,e,h⟩:=ob h
 cases t with
 | cls k f =>
   obtain ⟨gs,hgs,h⟩:=ob h;cases h
   obtain ⟨d,ns⟩:=gJ (rc.e o) hgs
   rw [Ny,MM] at ns
   obtain ⟨C,h1,h2,h3⟩:=o.T.cls e
   exact Im (o.C lv _) (o.hr lv) o.T.of h2 h3 (cp o c).1 h1 d (cp o c).2 (bg ns.1) (bW ns.2)
 |_=>cases h
noncomputable def Fn:mP:=fun R g st=>rV st fun ts v _=>n1 ts fun t=>kC t fun a f _=>if ma v=true then (R.e g a).bind fun x=>(R.e g v).bind fun y=>some (hU f x y) else none
theorem xn {v a:Expr}{f:Str}{p:Pos}{l:Nat}{env:Nx}(h:ma v=true):swapsWith v (some (.Attribute a f p)) l env=pure false:=by
 cases v<;>first|rfl|cases h
theorem C8:SS Fn:=fun {fa n R} rc {g X} o {a ga} h=>by
 replace h:=l5 h;obtain ⟨ts,v,p,rfl,h⟩:=h
 replace h:=dE h;obtain ⟨t,rfl,h⟩:=h
 replace h:=gW h;obtain ⟨a,f,p2,rfl,h⟩:=h
 obtain ⟨c,h⟩:=oi h;obtain ⟨x,hx,h⟩:=ob h;obtain ⟨y,hy,h⟩:=ob h;cases h
 exact Jd f o.T.ob o.T.of (rc.e o hx) (rc.e o hy) (xn c)
noncomputable def FA:d5:=fun R g e=>mf e fun h es ks p=>kC h fun a m ap=>n0 ks (n0 es (if i6 a=true/\(ap.endLine==p.line)=true then
 if m="pop" then (R.e g a).bind fun x=>some (pf x) else if m="reverse" then (R.e g a).bind fun x=>some (CF x) else none else none))
theorem Dm:SE FA:=fun {fa n R} rc {g X} o {a ga} h=>by
 replace h:=jm h;obtain ⟨hd,es,ks,p,rfl,h⟩:=h
 replace h:=gW h;obtain ⟨a,m,ap,rfl,h⟩:=h
 replace h:=eO h;obtain ⟨rfl,h⟩:=h
 replace h:=eO h;obtain ⟨rfl,h⟩:=h
 replace h:=oi h;obtain ⟨⟨c1,c2⟩,h⟩:=h
 split at h
 ·next e=>subst e;obtain ⟨x,hx,h⟩:=ob h;cases h;exact JW (rc.e o hx) (d3 c1) c2
 ·split at h
  ·next e=>subst e;obtain ⟨x,hx,h⟩:=ob h;cases h;exact Ik (rc.e o hx) (d3 c1) c2
  ·cases h
noncomputable def wZ:d5:=fun R g e=>lD e fun x es _=>n0 es (if 0<g.lv/\iI g x=true then (g.T.lookup x).bind fun
 |.fn i _=>some (au i g.c ah)
 |_=>none else none)
theorem wY:SE wZ:=fun {fa n R} rc {g X} o {a ga} h=>by
 replace h:=fC h;obtain ⟨x,q,es,p,rfl,h⟩:=h
 replace h:=eO h;obtain ⟨rfl,h⟩:=h
 obtain ⟨⟨lv,c⟩,h⟩:=oi h;obtain ⟨t,e,h⟩:=ob h
 cases t with
 |fn k f=>cases h;exact E9 (o.C lv _) ((o.hr lv).mono (Oz _)) (cp o c).1 (o.T.fn e) (cp o c).2
 |_=>cases h
end LD
namespace LD
open PySem PySem.Spec PyProof.Rows L2
noncomputable def BL:qC:=fun R g _ e=>(cN R g "range" e).bind fun es=>nC es fun a es=>n2 es fun b c=>(R.e g a).bind fun x=>(R.e g b).bind fun y=>(R.e g c).bind fun z=>some (oo x y z)
theorem zq:SW BL:=fun {fa n R} rc {g X} o {t a ga} h=>by
 obtain ⟨es,hq,k⟩:=ob h;clear h
 obtain ⟨_,_,rfl,hg,hm,ns⟩:=wo o hq
 replace k:=gu k;obtain ⟨a,es,rfl,k⟩:=k
 replace k:=hZ k;obtain ⟨b,c,rfl,k⟩:=k
 obtain ⟨x,hx,k⟩:=ob k;obtain ⟨y,hy,k⟩:=ob k;obtain ⟨z,hz,k⟩:=ob k;cases k
 have n2:=(Oa.mp (Ny ▸ ns)).2
 have n3:=(Oa.mp (Ny ▸ n2)).2
 exact E1 (rc.e o hx) (rc.e o hy) (rc.e o hz) hg hm (hJ ns) (hJ n2) (hJ n3)
noncomputable def BG:d5:=fun R g e=>mf e fun h es ks p=>kC h fun a m ap=>n0 ks (if g.tx p=true/\i6 a=true/\(ap.endLine==p.line)=true/\2<=g.lv/\es.length<30 then (g.ms.find? (·.1==m)).bind fun q=>(cA (R.e g) es).bind fun gs=>(R.e g a).bind fun x=>some (ip q.2.1 q.2.2 g.c x gs) else none)
theorem zh:SX BG:=fun {fa n R} rc {g X} o {a ga} h=>by
 replace h:=jm h;obtain ⟨hd,es,ks,p,rfl,h⟩:=h
 replace h:=gW h;obtain ⟨a,m,ap,rfl,h⟩:=h
 replace h:=eO h;obtain ⟨rfl,h⟩:=h
 replace h:=oi h;obtain ⟨⟨_,c1,c2,c3,c4⟩,h⟩:=h
 replace h:=ob h;obtain ⟨q,hq,h⟩:=h
 obtain ⟨gs,hgs,h⟩:=ob h;obtain ⟨x,hx,h⟩:=ob h;cases h
 obtain ⟨C,hC,cl,mt,nm⟩:=o.ms q (Om hq)
 have e:=List.find?_some hq
 have e:q.1=m:=eq_of_beq e
 rw [e] at mt nm
 have hr:=(o.hr (by omega)).mono (Oz _)
 cases es with
 |nil=>cases hgs;exact Dd (o.C (by omega) _) hr (o.top c3).1 o.T.of hC cl mt nm (rc.e o hx) (d3 c1) c2
 | cons b es =>
   obtain ⟨d,ns⟩:=gJ (rc.e o) hgs
   have fw:=yJ (env:=X.env) (pos:=p) ns c4
   rw [Ny,MM] at ns
   exact Fu (o.C (by omega) _) hr (o.top c3).1 o.T.of hC cl mt nm (rc.e o hx) d (d3 c1) fw c2 (bg ns.1) (bW ns.2)
noncomputable def t8:mP:=fun R g st=>Kq st fun body hs el fi _=>n0 el (n0 fi (n1 hs fun
 |.ExceptHandler t nm su _=>t.bind fun t=>nName t fun x _=>nC su fun b suite=>if nm.isNone=true/\2<=g.lv/\iI g x=true then (g.tw.find? fun q=>q.1==x&&q.2.1==x&&q.2.2.1==q.2.2.2).bind fun q=>(qp (R.s {g with lv:=3}) body).bind fun u=>(qp (R.s {g with lv:=0}) (b::suite)).bind fun v=>some (lg u q.2.2.1 q.2.2.1 v) else none))
theorem u7:SS t8:=fun {fa n R} rc {g X} o {a ga} h=>by
 replace h:=F5 h;obtain ⟨body,hs,el,fi,_,rfl,h⟩:=h;replace h:=eO h;obtain ⟨rfl,h⟩:=h;replace h:=eO h;obtain ⟨rfl,h⟩:=h;replace h:=dE h;obtain ⟨hd,rfl,h⟩:=h
 obtain ⟨t,nm,su,_⟩:=hd
 replace h:=ob h;obtain ⟨t,rfl,h⟩:=h;replace h:=c7 h;obtain ⟨x,_,rfl,h⟩:=h;replace h:=gu h;obtain ⟨b,suite,rfl,h⟩:=h
 obtain ⟨⟨cn,lv,c⟩,k⟩:=oi h;clear h
 rw [Ol.mp cn]
 obtain ⟨q,hq,k⟩:=ob k;obtain ⟨u,hu,k⟩:=ob k;obtain ⟨v,hv,k⟩:=ob k;cases k
 have tw:=o.tw q (Om hq)
 have e:=List.find?_some hq
 rw [MM,MM] at e
 rw [eq_of_beq e.1.1,eq_of_beq e.1.2,<- eq_of_beq e.2] at tw
 have tp:=o.top lv
 exact Ai tw tp.1 tp.2.1 tp.2.2.1 (cp o c).1 (cp o c).2 (fun pn E=>js (rc.s (A5 o lv pn E)) hu) (fun v E=>js (rc.s (A6 o lv v E)) hv)
end LD
namespace LD
open PySem PySem.Spec PyProof.Rows L2
structure Ent where
 i:Nat
 x:Str
 st:Stmt
 ps:Nat
 N:List Str
 f:Addr
 pm:Str×Tok
 b:Call->GS
 r:Bool:=false
 q:Option Str:=none
noncomputable def Ent.qn (e:Ent):Str:=e.q.getD e.x
structure kS where
 T:List (Str×En)
 tw:List (Str×Str×Nat×Nat)
 xf:List Str
 dl:List (Str×List (Str×Nat))
 il:List (Str×Nat)
 cel:List (Nat×Nat×Nat)
 txt:List (Nat×Nat×Nat)
 ms:List (Str×Nat×Nat)
 rs:Rs
 tb:List Ent
noncomputable def kS.g (t:kS)(e:Ent)(c:Call):G:=⟨t.T,t.tw,t.xf,t.cel,t.txt,t.ms,c,e.N,aL e.st,2⟩
noncomputable def kS.Pg (t:kS)(i:Nat):Option Df:=(t.tb.find? (·.i==i)).map fun e=>⟨e.ps,e.N.length,e.b⟩
noncomputable def kS.rd (t:kS)(c:Call)(e:Ent):Option GS:=qp ((It t.rs 60).s (t.g e c)) (cx e.st)
noncomputable def Bf (e:Ent):Bool:=decide ((aL e.st).kind=.function)&&!(aL e.st).isCoroutine&&!(aL e.st).isGenerator&&decide e.N.Nodup&&((e.N.take e.ps).length==e.ps)&&((e.N.take e.ps).all fun x=>(aL e.st).names.lookup x==some .local||(aL e.st).names.lookup x==some .cell)&&((aL e.st).names.all (·.2 != .free))
theorem ot {e:Ent}(h:Bf e=true):f6 e.N (e.N.take e.ps) (aL e.st)/\(e.N.take e.ps).length=e.ps:=by
 unfold Bf at h
 simp only [MM,decide_eq_true_eq,OF,MX,Oo,beq_iff_eq,bne_iff_ne] at h
 obtain ⟨⟨⟨⟨⟨⟨h1,h2⟩,h3⟩,h4⟩,h5⟩,h6⟩,h7⟩:=h
 exact ⟨⟨h1,h2,h3,h4,by rw [h5],h6,h7⟩,h5⟩
noncomputable def LX (e:Ent):Option Obj:=some ⟨.type "function",none,.func (PySem.W.fnOf e.x e.qn (fk e.st) (cx e.st) (aL e.st) .none .none .none (.str e.pm.1 e.pm.2) none (.ref (e.f-1)) .none),#[]⟩
theorem n6 {α β:Type}{f g:α->β}{l:List α}(h:l.map f=l.map g){a:α}(m:a∈l):f a=g a:=List.map_inj_left.mp h a m
noncomputable def Bg (e:Ent)(us:List MG)(kV doc pm:MG)(an:Option Addr)(cdv ct:MG):Sem (List (Str×MG)):=bindArgs (PySem.W.fnOf e.x e.qn (fk e.st) (cx e.st) (aL e.st) .none kV doc pm an cdv ct) ⟨us,[]⟩
noncomputable def nI (tb:List Ent)(k:Nat)(us:List MG):Prop:=∀(kV doc pm:MG) (an:Option Addr) (cdv ct:MG),(tb.filter (·.ps==k)).map (fun e=>Bg e us kV doc pm an cdv ct)=(tb.filter (·.ps==k)).map fun e=>pure ((e.N.take e.ps).zip us)
structure wz (t:kS):Prop where
 rs:BB t.rs
 rd:∀c,t.tb.map (t.rd c)=t.tb.map fun e=>some (e.b c)
 sc:t.tb.all Bf=true
 ar:t.tb.all (fun e=>e.ps==0||e.ps==1||e.ps==2||e.ps==3||e.ps==4||e.ps==6)=true
 a0:nI t.tb 0 []
 a1:∀a,nI t.tb 1 [a]
 a2:∀a b,nI t.tb 2 [a,b]
 a3:∀a b c,nI t.tb 3 [a,b,c]
 a4:∀a b c d,nI t.tb 4 [a,b,c,d]
 a6:∀a b c d e f,nI t.tb 6 [a,b,c,d,e,f]
structure CV (K:MF) (tb:List Ent):Prop where
 ns:(tb.filter (·.q.isNone)).map (fun e=>PySem.W.nsIn K mainGlobals e.x)=(tb.filter (·.q.isNone)).map fun e=>some (some (.ref e.f))
 lk:tb.map (fun e=>K.lookup e.f)=tb.map LX
 ck:tb.all (fun e=>PySem.W.codeIn K (.ref (e.f-1)) e.qn&&PySem.W.keepIn K (.ref e.f))=true
theorem xh {K:MF}{tb:List Ent}(k:CV K tb){e:Ent}(m:e∈tb):∃fd,oJ K e.x e.qn e.st e.f fd:=by
 have c:=MX.mp k.ck e m
 rw [MM] at c
 exact ⟨_,yG (n6 k.lk m) c.1 c.2⟩
theorem Dx {K:MF}{h:Heap}{mg:Str->Option MG}{tb:List Ent}(k:CV K tb)(X:K.In h)(G:h.Ns mainGlobals mg){e:Ent}(m:e∈tb)(hq:e.q.isNone=true):mg e.x=some (.ref e.f)/\∃fd,oJ K e.x e.qn e.st e.f fd:=
 ⟨NW X G (n6 k.ns (List.mem_filter.mpr ⟨m,hq⟩)),xh k m⟩
theorem us6 {α:Type}{p:List α->Prop}(h:∀a b c d e f,p [a,b,c,d,e,f]):∀(us:List α) (hl:us.length=6),p us
 |[a,b,c,d,e,f],_=>h a b c d e f
theorem zJ {t:kS}(T:wz t){e:Ent}(m:e∈t.tb)(kV doc pm:MG)(an:Option Addr)(cdv ct:MG):∀us:List MG,us.length=(e.N.take e.ps).length->Bg e us kV doc pm an cdv ct=pure ((e.N.take e.ps).zip us):=by
 have hl:=(ot (MX.mp T.sc e m)).2
 have a:=MX.mp T.ar e m
 have f:∀{k:Nat}{us:List MG},e.ps=k->nI t.tb k us->Bg e us kV doc pm an cdv ct=pure ((e.N.take e.ps).zip us):=fun {k us} hk ao=>n6 (ao kV doc pm an cdv ct) (List.mem_filter.mpr ⟨m,by rw [hk];exact beq_self_eq_true k⟩)
 rw [hl]
 simp only [Oo,beq_iff_eq] at a
 rcases a with ((((a|a)|a)|a)|a)|a
 ·rw [a];exact fun us h=>by rw [Ow.mp h];exact a ▸ f a T.a0
 ·rw [a];exact us1 (p:=fun us=>_=_) fun x=>a ▸ f a (T.a1 x)
 ·rw [a];exact Ki (p:=fun us=>_=_) fun x y=>a ▸ f a (T.a2 x y)
 ·rw [a];exact us3 (p:=fun us=>_=_) fun x y z=>a ▸ f a (T.a3 x y z)
 ·rw [a];exact us4 (p:=fun us=>_=_) fun x y z u=>a ▸ f a (T.a4 x y z u)
 ·rw [a];exact us6 (p:=fun us=>_=_) fun x y z u v w=>a ▸ f a (T.a6 x y z u v w)
section
variable {fa:Fa}{P:Na}{w:Nd}{K:MF}{mg:Str->Option MG}{base:Heap}{t:kS}
theorem rE (T:wz t)(TO:CW fa P w K mg base t.T)(tw:∀q∈t.tw,u5 fa K mg q.1 q.2.1 q.2.2.1 q.2.2.2)(xf:∀f∈t.xf,CU fa K f)(ms:∀q∈t.ms,oH fa K q.1 q.2.1 q.2.2){e:Ent}(m:e∈t.tb){ad:Addr}(call:Call)(n:Nat)(cdv:MG)(A:NL)(outer:List Nx)(s:MI)(H:Hp)(E:XK)
 (C:∀f,dI fa P w K mg base n f (call f)) (hr:bu (2*n+5) (A.deeper (envOfC e.qn (aL e.st) s.heap.objs.size ad cdv))):kU fa (eA (fv P w) P w K mg base e.N e.qn (aL e.st) ad cdv A outer s H E) (cx e.st) (e.b call):=by
 have S:=(ot (MX.mp T.sc e m)).1
 exact js ((C4 (n:=n) (fa:=fa) T.rs 60).s (g:=t.g e call) (X:=eA (fv P w) P w K mg base e.N e.qn (aL e.st) ad cdv A outer s H E) ⟨rfl,S.nd,rfl,TO,tw,xf,ms,fun _ _=>rfl,fun _=>rfl,fun _=>C,fun _=>hr,fun _=>⟨rfl,rfl,rfl,S.kind⟩,fun _=>PassesOwn.leaving⟩) (n6 (T.rd call) m)
theorem zI (T:wz t)(k:CV K t.tb){h:Heap}(X:K.In h)(G:h.Ns mainGlobals mg)(TO:CW fa P w K mg base t.T)(tw:∀q∈t.tw,u5 fa K mg q.1 q.2.1 q.2.2.1 q.2.2.2)(xf:∀f∈t.xf,CU fa K f)(ms:∀q∈t.ms,oH fa K q.1 q.2.1 q.2.2)(hf:t.tb.all (fun e=>fa e.i==some e.f)=true) :
 ∀f d,t.Pg f=some d->wD fa P w K mg base f d:=by
 intro f d e
 unfold kS.Pg at e
 obtain ⟨en,he,rfl⟩:=Nj.mp e
 have m:=Om he
 have ei:en.i=f:=by have:=List.find?_some he;simpa using this
 obtain ⟨fd,F⟩:=xh k m
 obtain ⟨S,hl⟩:=ot (MX.mp T.sc en m)
 have fe:fa f=some en.f:=by rw [<- ei];exact eq_of_beq (MX.mp hf en m)
 exact ⟨en.f,fd,en.N.take en.ps,en.N,en.st,en.x,en.qn,fe,F,F.binds (fun a b c d e f=>zJ T m a b c d e f),S,hl.symm,rfl,fun call n cdv A outer s H E C hr=>rE T TO tw xf ms m call n cdv A outer s H E C hr⟩
noncomputable def HR (K:MF)(fa:Fa)(t:kS)(p:Str×En):Bool:=match p.2 with
 |.fn i _=>(match PySem.W.nsIn K mainGlobals p.1 with|some (some (.ref a))=>fa i==some a|_=>false)
 |.int i=>(match PySem.W.nsIn K mainGlobals p.1 with|some (some (.int j _))=>i==j|_=>false)
 |.str i=>(match PySem.W.nsIn K mainGlobals p.1 with|some (some (.str j _))=>i==j|_=>false)
 |.xc k=>(match PySem.W.nsIn K mainGlobals p.1 with|some (some (.ref a))=>fa (eI k)==some a&&PySem.W.excIn K a lR "ValueError.__new__"&&PySem.W.keepIn K (.ref a)|_=>false)
 |.xi k=>(match PySem.W.nsIn K mainGlobals p.1 with|some (some (.ref a))=>fa (eI k)==some a&&t.il.contains (p.1,k)|_=>false)
 |.xk k=>(match PySem.W.nsIn K mainGlobals p.1 with|some (some (.ref a))=>fa (eI k)==some a|_=>false)
 |.de=>(match PySem.W.nsIn K mainGlobals p.1 with|some (some (.ref a))=>fa 999==some a|_=>false)
 |.bl=>(match PySem.W.nsIn K mainGlobals p.1 with|some none=>true|_=>false)
 |.dct fs=>t.dl.contains (p.1,fs)
 |.cls c f=>(match PySem.W.nsIn K mainGlobals p.1 with|some (some (.ref a))=>fa (gL c)==some a&&PySem.W.makesIn K a&&PySem.W.keepIn K (.ref a)&&(match fa f with|some ad=>PySem.W.findIn K (.ref a) "__init__"==some (some (.ref ad))&&PySem.W.isFn K (.ref ad)|none=>true)|_=>false)
theorem Dw {h:Heap}(X:K.In h)(G:h.Ns mainGlobals mg)(hT:t.T.all (HR K fa t)=true)(hx:IC fa K)(hob:zf fa K)(hof:∀o,5000<=o->fa o=none)(hd:AllP (fun q=>∃ad kvs,mg q.1=some (.ref ad)/\fu K w.params ad kvs/\dX fa kvs q.2) t.dl)(hi:AllP (fun q=>kj fa P w K mg base q.2 q.1) t.il):CW fa P w K mg base t.T:=by
 have key:∀{x:Str}{e:En},t.T.lookup x=some e->HR K fa t (x,e)=true:=fun {x e} l=>MX.mp hT _ (mem_of_lookup l)
 refine ⟨fun {x i r} l ad ha=>?_,fun {x i} l=>?_,fun {x i} l=>?_,fun {x fs} l=>?_,fun {x k} l=>?_,fun {x k} l=>?_,fun {x k} l=>?_,fun {x} l=>?_,fun {x} l=>?_,hx,hob,hof,fun {x c f} l=>?_⟩
 all_goals have b:=key l;unfold HR at b;dsimp only at b
 ·split at b
  ·next e=>have b:=eq_of_beq b;rw [ha] at b;cases b;exact NW X G e
  ·cases b
 ·split at b
  ·next e=>have b:=eq_of_beq b;subst b;exact ⟨_,NW X G e⟩
  ·cases b
 ·split at b
  ·next e=>have b:=eq_of_beq b;subst b;exact ⟨_,NW X G e⟩
  ·cases b
 ·exact hd.mem (x,fs) (List.contains_iff_mem.mp b)
 ·split at b
  ·next e=>simp only [MM] at b;exact ⟨_,NW X G e,eq_of_beq b.1.1,b.1.2,b.2⟩
  ·cases b
 ·split at b
  ·next e=>rw [MM] at b;exact ⟨hi.mem (x,k) (List.contains_iff_mem.mp b.2),_,NW X G e,eq_of_beq b.1⟩
  ·cases b
 ·split at b
  ·next e=>exact ⟨_,NW X G e,eq_of_beq b⟩
  ·cases b
 ·split at b
  ·next e=>exact ⟨_,NW X G e,eq_of_beq b⟩
  ·cases b
 ·split at b
  ·next e=>exact PySem.W.mg_none_of X G e
  ·cases b
 ·split at b
  ·next a e=>
   simp only [MM] at b
   refine ⟨a,NW X G e,eq_of_beq b.1.1.1,fun ad had=>?_⟩
   have b2:=b.2
   rw [had] at b2
   simp only [MM] at b2
   exact ⟨b.1.1.2,eq_of_beq b2.1,b2.2,b.1.2⟩
  ·cases b
end
noncomputable def wg (K:MF)(C:Addr):Bool:=PySem.W.plainGet K C Str.empty&&PySem.W.hasDictIn K C&&PySem.W.plainOver K C&&PySem.W.findIn K (.ref C) "__setattr__"==some (some (.builtin "object.__setattr__"))
theorem yU {K:MF}{C:Addr}(h:wg K C=true):gO K C:=by
 unfold wg at h
 simp only [MM] at h
 exact ⟨h.1.1.1,h.1.1.2,h.1.2,eq_of_beq h.2⟩
noncomputable def G7 (K:MF)(fa:Fa):Bool:=match fa (gL 40) with
 |some C=>wg K C&&(bT 40).all fun f=>PySem.W.findIn K (.ref C) f==some none
 |none=>true
theorem G6 {K:MF}{fa:Fa}(h:G7 K fa=true):zf fa K:=fun c C e ne=>by
 have hc:c=40:=by
  unfold bT at ne
  split at ne
  ·rfl
  ·exact absurd rfl ne
 subst hc
 unfold G7 at h
 rw [e] at h
 simp only [MM,MX] at h
 exact ⟨yU h.1,fun f m=>eq_of_beq (h.2 f m)⟩
noncomputable def Hn (K:MF)(fa:Fa)(q:Str×Nat×Nat):Bool:=match fa (gL q.2.1) with
 | some C => wg K C && (match fa q.2.2 with
   |some ad=>PySem.W.findIn K (.ref C) q.1==some (some (.ref ad))&&PySem.W.isFn K (.ref ad)&&PySem.W.keepIn K (.ref ad)
   |none=>true)&&!(bT q.2.1).contains q.1
 |none=>false
theorem Hm {K:MF}{fa:Fa}{l:List (Str×Nat×Nat)}(h:l.all (Hn K fa)=true):∀q∈l,oH fa K q.1 q.2.1 q.2.2:=fun q m=>by
 have h:=MX.mp h q m
 unfold Hn at h
 cases e:fa (gL q.2.1) with
 |none=>rw [e] at h;cases h
 | some C =>
   rw [e] at h
   simp only [MM,OF] at h
   refine ⟨C,e,yU h.1.1,fun ad ea=>?_,fun z=>?_⟩
   ·have b:=h.1.2
    rw [ea] at b
    simp only [MM] at b
    exact ⟨eq_of_beq b.1.1,b.1.2,b.2⟩
   ·have:=List.contains_iff_mem.mpr z
    rw [h.2] at this;cases this
theorem Bb {l cl:List (Nat×Addr)}{D:Addr}(h:cl.all (fun q=>decide (q.1<4000))=true):∀o,5000<=o->sS l cl D o=none:=fun o ho=>by
 unfold sS
 rw [if_neg (by omega),if_neg (by omega)]
 cases e:cl.lookup (o-1000) with
 |none=>rfl
 | some C =>
   have:=of_decide_eq_true (MX.mp h _ (lookup_mem e))
   have:o-1000<4000:=this
   omega
end LD
namespace LD
open PySem
abbrev gI (n:Int):GE:=gC (.int n)
abbrev gS (x:Str):GE:=gC (.str x)
abbrev gN:GE:=gC .non
abbrev HK:GE:=gC (.bl true)
abbrev HN:GE:=gC (.bl false)
abbrev rF:GS:=af (aM HN) aj
end LD
namespace LD
open PySem
noncomputable def cq:List (Str×Nat):=[("turn",7),("join",8),("move",9),("put",10)]
noncomputable def cu:List (Str×Nat):=[("turn",20),("join",21),("move",22),("put",23)]
noncomputable def eX (c:Call):GS:=af (aQ (gj (aC (cz .bool (aa 0))) (bH (aC (cz .int (aa 0))))) rF aj) (af (aM (sQ .le .le (aa 1) (aa 0) (aa 2))) aj)
noncomputable def jI (c:Call):GS:=af (aM (au 0 c (ae (aa 1) (ae (gI 0) (ae (ay false .sub (aa 0) (gI 1)) ah))))) aj
noncomputable def iV (c:Call):GS:=af (aM (au 0 c (ae (aa 1) (ae (gI 0) (ae (ay false .sub (aa 0) (gI 1)) ah))))) aj
noncomputable def jJ (c:Call):GS:=af (aM (au 0 c (ae (aa 0) (ae (gI 1) (ae (gI 3) ah))))) aj
noncomputable def fJ (c:Call):GS:=af (aM (dv (cz .tuple (aa 1)) (aU .eq (aR .len (ae (aa 1) ah)) (aa 0)))) aj
noncomputable def iU (c:Call):GS:=af (aM (dv (au 4 c (ae (aa 0) (ae (aa 1) ah))) (aR .all (ae (b7 false 1 (.one 0) (fy (aa 1)) (bS (au 1 c (ae (aa 1) (ae (aa 0) ah))))) ah)))) aj
noncomputable def dS (c:Call):GS:=af (aM (dv (au 4 c (ae (aa 0) (ae (aa 1) ah))) (aR .all (ae (b7 false 1 (.one 0) (fy (aa 1)) (bS (au 5 c (ae (aa 1) (ae (aa 0) ah))))) ah)))) aj
noncomputable def fW (c:Call):GS:=af (aQ (aC (aU .ne (aR .len (ae (aa 2) ah)) (gI 3))) rF aj) (af (aK (.tup [3,4,5]) (aa 2)) (af (aM (dv (au 2 c (ae (aa 1) (ae (aa 3) ah))) (dv (au 5 c (ae (aa 0) (ae (aa 4) ah))) (au 3 c (ae (aa 5) ah))))) aj))
noncomputable def fY (c:Call):GS:=af (aQ (aC (aU .ne (aR .len (ae (aa 2) ah)) (gI 4))) rF aj) (af (aK (.tup [3,4,5,6]) (aa 2)) (af (aQ (gj (bH (aC (au 2 c (ae (aa 1) (ae (aa 3) ah))))) (bH (aC (au 2 c (ae (aa 1) (ae (aa 4) ah)))))) rF aj) (af (aM (dv (au 6 c (ae (aa 0) (ae (aa 5) ah))) (au 3 c (ae (aa 6) ah)))) aj)))
noncomputable def fX (c:Call):GS:=af (aQ (aC (aU .ne (aR .len (ae (aa 2) ah)) (gI 3))) rF aj) (af (aK (.tup [3,4,5]) (aa 2)) (af (aM (dv (au 2 c (ae (aa 1) (ae (aa 3) ah))) (dv (au 2 c (ae (aa 1) (ae (aa 4) ah))) (au 3 c (ae (aa 5) ah))))) aj))
noncomputable def g8 (c:Call):GS:=af (aQ (aC (aU .ne (aR .len (ae (aa 2) ah)) (gI 3))) rF aj) (af (aK (.tup [3,4,5]) (aa 2)) (af (aM (dv (au 2 c (ae (aa 1) (ae (aa 3) ah))) (dv (au 1 c (ae (aa 0) (ae (aa 4) ah))) (au 3 c (ae (aa 5) ah))))) aj))
noncomputable def fZ (c:Call):GS:=af (aQ (gj (bH (aC (cz .tuple (aa 2)))) (bH (aC (aa 2)))) rF aj) (af (aK (.one 3) (aE (aa 2) (gI 0))) (af (aQ (gj (bH (aC (cz .str (aa 3)))) (aC (iQ cq (aa 3)))) rF aj) (af (aK (.one 4) (kK cq (aa 3))) (af (aM (lI 4 c (ae (aa 0) (ae (aa 1) (ae (dq false true false (aa 2) (gI 1) gN) ah))))) aj))))
noncomputable def eW (c:Call):GS:=af (aQ (bH (aC (au 4 c (ae (gI 3) (ae (aa 0) ah))))) rF aj) (af (aK (.tup [1,2,3]) (aa 0)) (af (aQ (gj (bH (aC (au 0 c (ae (aa 1) (ae (gI 2) (ae (gI 4) ah)))))) (bH (aC (au 0 c (ae (aa 2) (ae (gI 1) (ae (gI 2) ah))))))) rF aj) (af (aQ (gj (bH (aC (cz .tuple (aa 3)))) (bH (aC (sQ .le .le (gI 1) (aR .len (ae (aa 3) ah)) (gI 6))))) rF aj) (af (aM (aR .all (ae (b7 false 1 (.one 0) (fy (aa 3)) (bS (au 11 c (ae (aa 2) (ae (aa 3) (ae (aa 0) ah)))))) ah))) aj))))
noncomputable def g7 (c:Call):GS:=af (aQ (bH (aC (au 12 c (ae (aa 0) ah)))) (af (eE 3 (ae (gS "this is no machine") ah)) aj) aj) aj
noncomputable def cS (c:Call):GS:=af (iz (dg 13 c (ae (aa 0) ah))) (af (aK (.tup [1,2,3]) (aa 0)) (af (aK (.one 4) (bE false (ae (cJ ah) ah))) (af (dJ (.one 5) (cY (aa 2)) (af (aK (.one 4) (b7 false 2 (.one 0) (fy (aa 4)) (sP (.one 1) (cY (aa 3)) (bS (ay false .add (aa 0) (cJ (ae (aa 1) ah))))))) aj)) (af (aM (aa 4)) aj))))
noncomputable def fR (c:Call):GS:=af (aM (au 0 c (ae (aa 1) (ae (gI 0) (ae (ay false .sub (aR .len (ae (aE (aa 0) (gI 2)) ah)) (gI 1)) ah))))) aj
noncomputable def gZ (c:Call):GS:=af (aQ (bH (aC (cz .list (aa 1)))) (af (jU 0 (gI 0)) aj) aj) (af (dJ (.tup [2,3]) (mq (aa 1)) (af (aQ (bH (aC (au 16 c (ae (aa 0) (ae (aa 3) ah))))) (af (jU 0 (aa 2)) aj) aj) aj)) aj)
noncomputable def kO (c:Call):GS:=af (iz (dg 13 c (ae (aa 0) ah))) (af (iz (dg 17 c (ae (aa 0) (ae (aa 1) ah)))) (af (aQ (aC (aU .gt (aR .len (ae (aa 1) ah)) (gI 40))) (af (eE 4 (ae (CG "a row has at most " " deeds" (gI 40)) ah)) aj) aj) aj))
noncomputable def lS (c:Call):GS:=af (iz (dg 18 c (ae (aa 0) (ae (aa 1) ah)))) (af (aM (au 47 c (ae (aa 0) (ae (aa 1) ah)))) aj)
noncomputable def nv (c:Call):GS:=af (aK (.tup [2,3,4,5]) (aa 0)) (af (aM (aE (aa 4) (aE (aa 1) (aa 3)))) aj)
noncomputable def nB (c:Call):GS:=af (aK (.tup [2,3,4,5,6]) (aa 0)) (af (aM (aE (aE (aa 5) (aE (aa 1) (aa 3))) (aE (aa 1) (aa 4)))) aj)
noncomputable def pC (c:Call):GS:=af (aK (.tup [2,3,4,5]) (aa 0)) (af (aM (aE (aa 1) (aa 4))) aj)
noncomputable def nz (c:Call):GS:=af (aK (.tup [2,3,4,5]) (aa 0)) (af (aM (aa 4)) aj)
noncomputable def tJ (c:Call):GS:=af (aK (.one 2) (kK cu (aE (aa 0) (gI 0)))) (af (aK (.one 3) (aE (aa 0) (gI 1))) (af (aM (ay false .add (ay false .add (dq false false true (aa 1) gN (aa 3)) (cJ (ae (lI 2 c (ae (aa 0) (ae (aa 1) ah))) ah))) (dq false true false (aa 1) (ay false .add (aa 3) (gI 1)) gN))) aj))
noncomputable def g9 (c:Call):GS:=af (aK (.one 3) (bE true (ae (aa 2) ah))) (af (dJ (.one 4) (fy (aa 1)) (af (iA (aa 3) (au 24 c (ae (aE (aE (aa 0) (gI 2)) (aa 4)) (ae (aE (aa 3) (du (gI 1))) ah)))) aj)) (af (aM (aa 3)) aj))
noncomputable def fF (c:Call):GS:=af (iz (dg 18 c (ae (aa 0) (ae (aa 1) ah)))) (af (aM (au 46 c (ae (aa 0) (ae (aa 1) ah)))) aj)
noncomputable def fK (c:Call):GS:=af (aQ (aC (aU .ge (aa 0) (ay false .pow (gI 10) (gI 18)))) (af (aM (aa 0)) aj) aj) (af (aK (.one 2) (bE false (ae (gI 2147483629) (ae (gI 2147483587) (ae (gI 2147483579) (ae (gI 2147483563) (ae (gI 2147483549) (ae (gI 2147483543) (ae (gI 2147483497) (ae (gI 2147483489) ah)))))))))) (af (aK (.one 2) (ay false .add (aa 2) (bE false (ae (gI 2147483477) (ae (gI 2147483423) (ae (gI 2147483399) (ae (gI 2147483353) (ae (gI 2147483323) ah)))))))) (af (aK (.one 3) (ay false .mod (ay false .pow (ay false .add (ay false .add (ay false .mul (ay false .mod (aa 0) (gI 1000000007)) (ay false .add (ay false .mul (gI 2) (aa 1)) (gI 69069))) (ay false .mul (aa 1) (gI 40503))) (gI 977)) (gI 3)) (aE (aa 2) (ay false .mod (aa 1) (gI 13))))) (af (aK (.one 4) (ay false .mod (ay false .pow (ay false .add (ay false .add (ay false .mul (aa 3) (ay false .add (aa 1) (gI 3))) (ay false .mod (aa 0) (gI 65537))) (gI 5)) (gI 5)) (aE (aa 2) (ay false .mod (ay false .add (aa 1) (gI 5)) (gI 13))))) (af (aK (.one 5) (ay false .mod (ay false .pow (ay false .add (ay false .add (aa 4) (ay false .mod (aa 3) (gI 1009))) (aa 1)) (gI 3)) (aE (aa 2) (ay false .mod (ay false .add (aa 1) (gI 7)) (gI 13))))) (af (aM (ay false .add (ay false .mul (ay false .add (ay false .mul (aa 3) (gI 2147483647)) (aa 4)) (gI 2147483647)) (aa 5))) aj))))))
noncomputable def jO (c:Call):GS:=af (aK (.one 1) (aR (.list true) (ae (dq false false true (aa 0) gN (gI 12)) ah))) (af (dJ (.tup [2,3]) (mq (dq false true true (aa 0) (gI 12) (gI 63))) (af (dz (aa 1) (ay false .mod (aa 2) (gI 12)) (ay false .add (aE (aa 1) (ay false .mod (aa 2) (gI 12))) (aa 3))) aj)) (af (aM (bE true (ae (aa 1) (ae (gI 0) (ae (gI 0) ah))))) aj))
noncomputable def jP (c:Call):GS:=af (dz (aa 0) (gI 2) (gI 0)) (af (aM (aa 0)) aj)
noncomputable def mO (c:Call):GS:=af (aQ (aC (aU .lt (aE (aa 0) (gI 2)) (aa 1))) (af (aK (.one 2) (aE (aa 0) (gI 1))) (af (aK (.one 3) (gI 0)) (af (aQ (aC (aU .lt (aa 2) (aR .len (ae (aE (aa 0) (gI 0)) ah)))) (af (aK (.one 3) (aE (aE (aa 0) (gI 0)) (aa 2))) aj) (af (aQ (aC (aU .gt (aR .len (ae (aE (aa 0) (gI 0)) ah)) (gI 0))) (af (aK (.one 3) (ay false .mod (aE (aE (aa 0) (gI 0)) (ay false .mod (ay false .add (ay false .mul (aa 2) (gI 5)) (gI 3)) (aR .len (ae (aE (aa 0) (gI 0)) ah)))) (ay false .add (ay false .pow (gI 10) (gI 17)) (aa 2)))) aj) aj) aj)) (af (dz (aa 0) (gI 1) (ay false .add (aa 2) (gI 1))) (af (dz (aa 0) (gI 2) (au 28 c (ae (aa 3) (ae (aa 2) ah)))) aj))))) aj) (af (aK (.one 4) (ay false .mod (aE (aa 0) (gI 2)) (aa 1))) (af (dz (aa 0) (gI 2) (ay false .fdiv (aE (aa 0) (gI 2)) (aa 1))) (af (aM (aa 4)) aj)))
noncomputable def iW (c:Call):GS:=af (aK (.one 2) (au 31 c (ae (aa 0) (ae (gI 6) ah)))) (af (aK (.one 3) (au 31 c (ae (aa 0) (ae (aa 1) ah)))) (af (aK (.one 4) (au 31 c (ae (aa 0) (ae (aa 1) ah)))) (af (aQ (aC (aU .lt (aa 2) (gI 2))) (af (aM (aR .tuple (ae (b7 false 1 (.one 0) (cY (aa 1)) (bS (au 31 c (ae (aa 1) (ae (aa 2) ah))))) ah))) aj) aj) (af (aQ (aC (aU .eq (aa 2) (gI 2))) (af (aM (aR .tuple (ae (b7 false 1 (.one 0) (cY (aa 1)) (bS (ay false .mod (ay false .add (ay false .add (aa 0) (gI 1)) (aa 4)) (aa 2)))) ah))) aj) aj) (af (aQ (aC (aU .eq (aa 2) (gI 3))) (af (aM (aR .tuple (ae (b7 false 1 (.one 0) (cY (aa 1)) (bS (jq (aC (aU .eq (aa 0) (aa 4))) (aa 5) (aa 0)))) ah))) aj) aj) (af (aQ (aC (aU .eq (aa 2) (gI 4))) (af (aM (ay false .mul (cJ (ae (aa 3) ah)) (aa 1))) aj) aj) (af (aK (.one 5) (lH true (aa 1))) (af (dz (aa 5) (aa 3) (aa 4)) (af (dz (aa 5) (aa 4) (aa 3)) (af (aM (aR .tuple (ae (aa 5) ah))) aj))))))))))
noncomputable def ic (c:Call):GS:=af (aK (.one 3) (au 31 c (ae (aa 0) (ae (gI 8) ah)))) (af (aK (.one 4) (ay false .add (gI 1) (au 31 c (ae (aa 0) (ae (gI 3) ah))))) (af (aK (.one 5) (au 31 c (ae (aa 0) (ae (aa 2) ah)))) (af (aK (.one 6) (au 31 c (ae (aa 0) (ae (aa 2) ah)))) (af (aQ (aC (aU .lt (aa 3) (gI 3))) (af (aM (cJ (ae (gS "turn") (ae (aa 5) (ae (au 32 c (ae (aa 0) (ae (aa 1) ah))) (ae (aa 4) ah)))))) aj) aj) (af (aQ (aC (aU .lt (aa 3) (gI 5))) (af (aM (cJ (ae (gS "move") (ae (aa 5) (ae (jq (aC (aU .eq (aa 3) (gI 3))) (ay false .mod (ay false .add (aa 5) (gI 1)) (aa 2)) (aa 6)) (ae (aa 4) ah)))))) aj) aj) (af (aQ (aC (aU .eq (aa 3) (gI 5))) (af (aM (cJ (ae (gS "put") (ae (aa 5) (ae (au 31 c (ae (aa 0) (ae (aa 1) ah))) (ae (aa 4) ah)))))) aj) aj) (af (aM (cJ (ae (gS "join") (ae (aa 5) (ae (aa 6) (ae (aR .tuple (ae (b7 false 1 (.one 0) (cY (aa 1)) (bS (au 32 c (ae (aa 1) (ae (aa 2) ah))))) ah)) (ae (aa 4) ah))))))) aj)))))))
noncomputable def fq (c:Call):GS:=af (aK (.one 1) (ay false .add (gI 2) (au 31 c (ae (aa 0) (ae (ay false .sub (aa 1) (gI 1)) ah))))) (af (aK (.one 2) (ay false .add (gI 1) (au 31 c (ae (aa 0) (ae (aa 2) ah))))) (af (aK (.one 4) (bE true ah)) (af (dJ (.one 5) (cY (ay false .add (gI 1) (au 31 c (ae (aa 0) (ae (aa 3) ah))))) (af (aK (.one 6) (au 31 c (ae (aa 0) (ae (gI 5) ah)))) (af (aK (.one 7) (au 33 c (ae (aa 0) (ae (aa 1) (ae (aa 2) ah))))) (af (aQ (jd (aC (aU .eq (aa 6) (gI 0))) (aC (aU .ne (aa 4) (bE false ah)))) (af (aK (.one 7) (ay false .add (dq false false true (aE (aa 4) (au 31 c (ae (aa 0) (ae (aR .len (ae (aa 4) ah)) ah)))) gN (du (gI 1))) (cJ (ae (aE (aa 7) (du (gI 1))) ah)))) aj) aj) (af (iA (aa 4) (aa 7)) aj))))) (af (aM (cJ (ae (aa 1) (ae (aa 2) (ae (aR .tuple (ae (aa 4) ah)) ah))))) aj))))
noncomputable def gK (c:Call):GS:=af (aK (.one 3) (au 31 c (ae (aa 0) (ae (gI 4) ah)))) (af (aK (.one 4) (jq (aC (aU .eq (aa 3) (gI 0))) (aa 2) (au 31 c (ae (aa 0) (ae (ay false .add (aa 2) (gI 1)) ah))))) (af (aK (.one 5) (b7 false 1 (.one 0) (cY (aa 4)) (bS (au 31 c (ae (aa 1) (ae (aR .len (ae (aE (aa 2) (gI 2)) ah)) ah)))))) (af (aQ (aC (aU .eq (aa 3) (gI 1))) (af (aK (.one 5) (dq false false true (ay false .mul (dq false false true (aa 5) gN (gI 2)) (aa 4)) gN (aa 4))) aj) aj) (af (aM (aa 5)) aj))))
noncomputable def cb (c:Call):GS:=af (aQ (aC (aU .isN (aa 1) gN)) (af (aM (aU .isN (aa 0) gN)) aj) aj) (af (aQ (gj (aC (cz .bool (aa 1))) (aC (cz .bool (aa 0)))) (af (aM (dv (cz .bool (aa 1)) (dv (cz .bool (aa 0)) (aU .eq (aa 0) (aa 1))))) aj) aj) (af (aQ (aC (cz .int (aa 1))) (af (aM (dv (cz .int (aa 0)) (aU .eq (aa 0) (aa 1)))) aj) aj) (af (aQ (aC (cz .str (aa 1))) (af (aM (dv (cz .str (aa 0)) (aU .eq (aa 0) (aa 1)))) aj) aj) (af (aQ (gj (aC (aU .ne (cz .tuple (aa 1)) (cz .tuple (aa 0)))) (aC (aU .ne (cz .list (aa 1)) (cz .list (aa 0))))) rF aj) (af (aQ (aC (aU .ne (aR .len (ae (aa 0) ah)) (aR .len (ae (aa 1) ah)))) rF aj) (af (aM (aU .notin HN (b7 false 2 (.tup [0,1]) (mn (aa 0) (aa 1)) (bS (au 40 c (ae (aa 0) (ae (aa 1) ah))))))) aj))))))
noncomputable def tL (c:Call):GS:=af (aK (.one 2) (aR (.list true) (ae (aa 1) ah))) (af (aK (.one 3) (aE (aa 1) (aE (aa 0) (gI 1)))) (af (aQ (aC (aU .eq (aE (aa 0) (gI 0)) (gS "turn"))) (af (dz (aa 2) (aE (aa 0) (gI 1)) (aE (aE (aa 0) (gI 2)) (aa 3))) aj) aj) (af (aQ (aC (aU .eq (aE (aa 0) (gI 0)) (gS "join"))) (af (dz (aa 2) (aE (aa 0) (gI 1)) (aE (aE (aE (aa 0) (gI 3)) (aa 3)) (aE (aa 1) (aE (aa 0) (gI 2))))) aj) aj) (af (aQ (aC (aU .eq (aE (aa 0) (gI 0)) (gS "move"))) (af (dz (aa 2) (aE (aa 0) (gI 1)) (aE (aa 1) (aE (aa 0) (gI 2)))) aj) aj) (af (aQ (aC (aU .eq (aE (aa 0) (gI 0)) (gS "put"))) (af (dz (aa 2) (aE (aa 0) (gI 1)) (aE (aa 0) (gI 2))) aj) aj) (af (aM (aR .tuple (ae (aa 2) ah))) aj))))))
noncomputable def qL (c:Call):GS:=af (aQ (aC (aU .eq (aE (aa 0) (gI 1)) (gI 1))) (af (aM (b7 false 1 (.one 0) (cY (aE (aa 0) (gI 0))) (bS (cJ (ae (aa 0) ah))))) aj) aj) (af (aM (b7 false 1 (.one 0) (cY (ay false .mul (aE (aa 0) (gI 0)) (aE (aa 0) (gI 0)))) (bS (cJ (ae (ay false .fdiv (aa 0) (aE (aa 1) (gI 0))) (ae (ay false .mod (aa 0) (aE (aa 1) (gI 0))) ah)))))) aj)
noncomputable def tX (c:Call):GS:=af (aK (.one 2) (bE true ah)) (af (dJ (.one 3) (fy (au 42 c (ae (aa 0) ah))) (af (dJ (.one 4) (fy (aa 1)) (af (aK (.one 3) (au 41 c (ae (aE (aE (aa 0) (gI 2)) (aa 4)) (ae (aa 3) ah)))) aj)) (af (iA (aa 2) (aa 3)) aj))) (af (aM (aR .tuple (ae (aa 2) ah))) aj))
noncomputable def eY (c:Call):GS:=af (aM (aR .tuple (ae (b7 false 1 (.one 0) (fy (au 15 c (ae (aa 0) ah))) (bS (aE (au 25 c (ae (aa 1) (ae (aa 2) (ae (aa 0) ah)))) (du (gI 1))))) ah))) aj
noncomputable def dC (c:Call):GS:=af (aM (aR .sum (ae (b7 false 1 (.one 0) (fy (aa 1)) (bS (aE (aE (aE (aa 1) (gI 2)) (aa 0)) (du (gI 1))))) ah))) aj
noncomputable def nA (c:Call):GS:=af (hV (.one 3) (dg 27 c (ae (aa 0) (ae (aa 1) ah)))) (af (hV (.one 4) (dg 27 c (ae (aa 0) (ae (aa 2) ah)))) (af (dJ (.tup [5,6,7]) (ml (au 15 c (ae (aa 0) ah)) (aa 3) (aa 4)) (af (aQ (aC (aU .ne (aa 6) (aa 7))) (af (aM (aa 5)) aj) aj) aj)) (af (aM gN) aj)))
noncomputable def tK (c:Call):GS:=af (aM (aR .sum (ae (b7 false 1 (.one 0) (fy (aa 1)) (bS (aE (aE (aE (aa 1) (gI 2)) (aa 0)) (du (gI 1))))) ah))) aj
noncomputable def eP (c:Call):GS:=af (iz (dg 18 c (ae (aa 1) (ae (aa 2) ah)))) (af (hU "machine" (aa 0) (aa 1)) (af (hU "standing" (aa 0) (aR (.list false) (ae (aa 2) ah))) (af (hU "earlier" (aa 0) (bE true ah)) aj)))
noncomputable def iX (c:Call):GS:=af (aM (aR (.list true) (ae (bR "standing" (aa 0)) ah))) aj
noncomputable def ig (c:Call):GS:=af (aM (au 47 c (ae (bR "machine" (aa 0)) (ae (bR "standing" (aa 0)) ah)))) aj
noncomputable def eC (c:Call):GS:=af (aM (au 46 c (ae (bR "machine" (aa 0)) (ae (bR "standing" (aa 0)) ah)))) aj
noncomputable def iY (c:Call):GS:=af (aQ (bH (aC (au 0 c (ae (aa 1) (ae (gI 0) (ae (aR .len (ae (bR "standing" (aa 0)) ah)) ah)))))) (af (eE 9 (ae (gS "no deed can be put in there") ah)) aj) aj) (af (aQ (bH (aC (au 16 c (ae (bR "machine" (aa 0)) (ae (aa 2) ah))))) (af (eE 10 (ae (gS "the machine has no such deed") ah)) aj) aj) (af (aQ (aC (aU .ge (aR .len (ae (bR "standing" (aa 0)) ah)) (gI 40))) (af (eE 4 (ae (CG "a row has at most " " deeds" (gI 40)) ah)) aj) aj) (af (aM (bM 40 136 c (aa 0) (ae (ay false .add (ay false .add (dq false false true (bR "standing" (aa 0)) gN (aa 1)) (bE false (ae (aa 2) ah))) (dq false true false (bR "standing" (aa 0)) (aa 1) gN)) ah))) aj)))
noncomputable def iZ (c:Call):GS:=af (aQ (bH (aC (au 0 c (ae (aa 1) (ae (gI 0) (ae (ay false .sub (aR .len (ae (bR "standing" (aa 0)) ah)) (gI 1)) ah)))))) (af (eE 9 (ae (gS "no deed stands there") ah)) aj) aj) (af (aM (bM 40 136 c (aa 0) (ae (ay false .add (dq false false true (bR "standing" (aa 0)) gN (aa 1)) (dq false true false (bR "standing" (aa 0)) (ay false .add (aa 1) (gI 1)) gN)) ah))) aj)
noncomputable def eL (c:Call):GS:=af (aQ (bH (aC (bR "earlier" (aa 0)))) (af (eE 11 (ae (gS "no change stands") ah)) aj) aj) (af (aM (bM 40 137 c (aa 0) (ae (pf (bR "earlier" (aa 0))) ah))) aj)
noncomputable def fM (c:Call):GS:=af (iA (bR "earlier" (aa 0)) (bR "standing" (aa 0))) (af (aM (bM 40 137 c (aa 0) (ae (aa 1) ah))) aj)
noncomputable def ie (c:Call):GS:=af (hV (.one 2) (dg 48 c (ae (bR "machine" (aa 0)) (ae (bR "standing" (aa 0)) (ae (aa 1) ah))))) (af (hU "standing" (aa 0) (aa 1)) (af (aM (aa 2)) aj))
noncomputable def fL (c:Call):GS:=af (aK (.one 3) (au 31 c (ae (aa 0) (ae (gI 4) ah)))) (af (aK (.one 4) (aE (aa 2) (du (gI 1)))) (af (aK (.one 5) (au 31 c (ae (aa 0) (ae (ay false .add (aR .len (ae (aa 4) ah)) (gI 1)) ah)))) (af (aK (.one 6) (au 31 c (ae (aa 0) (ae (aR .len (ae (aE (aa 1) (gI 2)) ah)) ah)))) (af (aQ (jd (aC (aU .eq (aa 3) (gI 0))) (aC (aU .gt (aR .len (ae (aa 2) ah)) (gI 1)))) (af (aM (cJ (ae (dq false false true (aa 2) gN (du (gI 1))) (ae (cJ ah) ah)))) aj) aj) (af (aQ (jd (gj (aC (aU .eq (aa 3) (gI 1))) (aC (aU .eq (aR .len (ae (aa 4) ah)) (gI 40)))) (aC (aU .ne (aa 4) (bE false ah)))) (af (aK (.one 5) (ay false .mod (aa 5) (aR .len (ae (aa 4) ah)))) (af (aM (cJ (ae (ay false .add (aa 2) (bE false (ae (ay false .add (dq false false true (aa 4) gN (aa 5)) (dq false true false (aa 4) (ay false .add (aa 5) (gI 1)) gN)) ah))) (ae (cJ (ae (aa 5) ah)) ah)))) aj)) aj) (af (aM (cJ (ae (ay false .add (aa 2) (bE false (ae (ay false .add (ay false .add (dq false false true (aa 4) gN (aa 5)) (bE false (ae (aa 6) ah))) (dq false true false (aa 4) (aa 5) gN)) ah))) (ae (cJ (ae (aa 5) (ae (aa 6) ah))) ah)))) aj))))))
noncomputable def d8 (c:Call):GS:=af (aQ (aC (aU .eq (aR .len (ae (aa 1) ah)) (gI 2))) (af (aM (bM 40 133 c (aa 0) (ae (aE (aa 1) (gI 0)) (ae (aE (aa 1) (gI 1)) ah)))) aj) aj) (af (aM (jq (aC (aU .eq (aa 1) (cJ ah))) (bM 40 135 c (aa 0) ah) (bM 40 134 c (aa 0) (ae (aE (aa 1) (gI 0)) ah)))) aj)
noncomputable def qK (c:Call):GS:=af (dJ (.tup [3,4,5]) (ml (au 42 c (ae (aa 0) ah)) (au 44 c (ae (aa 0) (ae (aa 1) ah))) (au 44 c (ae (aa 0) (ae (aa 2) ah)))) (af (aQ (aC (aU .ne (aa 4) (aa 5))) (af (aM (aa 3)) aj) aj) aj)) (af (aM gN) aj)
noncomputable def iF (c:Call):GS:=af (aM (bE false (ae (bE false (ae (gI 0) (ae (gI 1) (ae (gI 2) ah)))) (ae (bE false (ae (gI 0) (ae (gI 2) (ae (gI 1) ah)))) (ae (bE false (ae (gI 1) (ae (gI 0) (ae (gI 2) ah)))) (ae (bE false (ae (gI 1) (ae (gI 2) (ae (gI 0) ah)))) (ae (bE false (ae (gI 2) (ae (gI 0) (ae (gI 1) ah)))) (ae (bE false (ae (gI 2) (ae (gI 1) (ae (gI 0) ah)))) ah)))))))) aj
noncomputable def oC (c:Call):GS:=af (dJ (.one 4) (fy (ay false .add (aE (au 141 c ah) (aa 3)) (bE false (ae (gI 0) (ae (gI 1) (ae (gI 2) ah)))))) (af (aQ (aC (aU .eq (aa 4) (gI 0))) (af (aK (.one 5) (bM 40 130 c (aa 0) ah)) (af (aQ (bH (aC (au 40 c (ae (aa 5) (ae (aa 2) ah))))) rF aj) (af (iA (aa 5) (gI 0)) aj))) aj) (af (aQ (jd (aC (aU .eq (aa 4) (gI 1))) (bH (aC (au 40 c (ae (bM 40 131 c (aa 0) ah) (ae (au 89 c (ae (aa 1) (ae (aa 2) ah))) ah)))))) rF aj) (af (aQ (jd (aC (aU .eq (aa 4) (gI 2))) (bH (aC (au 40 c (ae (bM 40 132 c (aa 0) ah) (ae (au 44 c (ae (aa 1) (ae (aa 2) ah))) ah)))))) rF aj) aj)))) (af (aM HK) aj)
noncomputable def ft (c:Call):GS:=af (aK (.one 2) (bE true (ae gN (ae gN (ae gN ah))))) (af (dJ (.one 3) (fy (aE (au 141 c ah) (ay false .mod (aa 1) (gI 6)))) (af (aQ (aC (aU .eq (aa 3) (gI 0))) (af (dz (aa 2) (gI 0) (bM 40 130 c (aa 0) ah)) aj) (af (aQ (aC (aU .eq (aa 3) (gI 1))) (af (dz (aa 2) (gI 1) (bM 40 131 c (aa 0) ah)) aj) (af (dz (aa 2) (gI 2) (bM 40 132 c (aa 0) ah)) aj)) aj)) aj)) (af (aM (aa 2)) aj))
noncomputable def dW (c:Call):GS:=af (lg (af (iz (ip 40 135 c (aa 0) ah)) aj) 11 11 (af (aM HK) aj)) rF
noncomputable def dU (c:Call):GS:=af (aK (.one 6) (au 139 c (ae (aa 0) (ae (aa 3) ah)))) (af (aK (.one 7) (kJ 40 129 c (ae (aa 1) (ae (aR (.list false) (ae (aa 4) ah)) ah)))) (af (aQ (gj (bH (aC (au 40 c (ae (au 144 c (ae (aa 0) (ae (aa 5) ah))) (ae (au 144 c (ae (aa 7) (ae (ay false .add (aa 5) (gI 1)) ah))) ah))))) (aC (aU .ne (bM 40 130 c (aa 0) ah) (aa 4)))) rF aj) (af (aQ (gj (aC (aU .ne (bM 40 131 c (aa 0) ah) (au 19 c (ae (aa 1) (ae (aR (.list false) (ae (aa 4) ah)) ah))))) (aC (aU .ne (bM 40 132 c (aa 0) ah) (au 27 c (ae (aa 1) (ae (aR (.list false) (ae (aa 4) ah)) ah)))))) rF aj) (af (aM (aU .eq (aa 6) (au 48 c (ae (aa 1) (ae (aR (.list false) (ae (aa 2) ah)) (ae (aR (.list false) (ae (aa 4) ah)) ah)))))) aj))))
noncomputable def ib (c:Call):GS:=af (dJ (.one 4) (oo (ay false .sub (aR .len (ae (aa 2) ah)) (gI 1)) (gI 0) (du (gI 1))) (af (aQ (bH (aC (au 146 c (ae (aa 0) (ae (aa 1) (ae (aE (aa 2) (aa 4)) (ae (cJ ah) (ae (aE (aa 2) (ay false .sub (aa 4) (gI 1))) (ae (ay false .add (aa 3) (aa 4)) ah))))))))) rF aj) aj)) (af (aM (dv (au 145 c (ae (aa 0) ah)) (dv (aU .eq (bM 40 130 c (aa 0) ah) (aE (aa 2) (gI 0))) (au 145 c (ae (aa 0) ah))))) aj)
noncomputable def mC (c:Call):GS:=af (aK (.one 1) (au 29 c (ae (aa 0) ah))) (af (dJ (.one 2) (cY (gI 2)) (af (aK (.one 3) (au 34 c (ae (au 30 c (ae (aa 1) ah)) (ae (gI 4) (ae (gI 2) (ae (gI 6) ah)))))) (af (aK (.one 4) (au 35 c (ae (aa 1) (ae (aa 3) (ae (gI 6) ah))))) (af (aK (.one 5) (kJ 40 129 c (ae (aa 3) (ae (aR (.list false) (ae (aa 4) ah)) ah)))) (af (dJ (.one 6) (cY (gI 2)) (af (aK (.one 7) (bE false (ae (aa 4) ah))) (af (dJ (.one 8) (cY (ay false .add (aE (bE false (ae (gI 8) (ae (gI 1) ah))) (aa 6)) (au 31 c (ae (aa 1) (ae (aE (bE false (ae (gI 8) (ae (gI 4) ah))) (aa 6)) ah))))) (af (aK (.tup [9,10]) (au 138 c (ae (aa 1) (ae (aa 3) (ae (aa 7) ah))))) (af (aQ (bH (aC (au 146 c (ae (aa 5) (ae (aa 3) (ae (aE (aa 7) (du (gI 1))) (ae (aa 10) (ae (aE (aa 9) (du (gI 1))) (ae (au 31 c (ae (aa 1) (ae (gI 6) ah))) ah))))))))) rF aj) (af (aK (.one 7) (aa 9)) aj)))) (af (aQ (bH (aC (au 147 c (ae (aa 5) (ae (aa 3) (ae (aa 7) (ae (au 31 c (ae (aa 1) (ae (gI 6) ah))) ah))))))) rF aj) aj)))) aj))))) (af (aM HK) aj))
end LD
namespace LD
open PySem
@[simp] theorem bo {α β:Type}{r:Res α}{f:α->Mem->Res β}{k:β->Mem->Prop}:ag (r.bind f) k↔ag r fun a M=>ag (f a M) k:=by cases r<;>rfl
@[simp] theorem bU {α:Type}{a:α}{M:Mem}{k:α->Mem->Prop}:ag (.ok a M) k↔k a M:=NS
@[simp] theorem MY {α:Type}{k:α->Mem->Prop}:ag (.bad:Res α) k↔False:=NS
@[simp] theorem jj {α:Type}{M:Mem}{o:Option α}{k:α->Mem->Prop}:ag (bK M o) k↔∃a,o=some a/\k a M:=by cases o<;>simp [bK]
theorem iL {α:Type}{r:Res α}{k:α->Mem->Prop}:ag r k↔∃a M,r=.ok a M/\k a M:=by
 cases r with
 |ok a M=>exact ⟨fun h=>⟨a,M,rfl,h⟩,fun ⟨_,_,e,h⟩=>by cases e;exact h⟩
 |err=>simp [ag]
 |bad=>simp [ag]
theorem ka {x y:D}{M:Mem}{v:Bool}(px:aA 64 (view M x)=true)(py:aA 64 (view M y)=true)(h:fz (view M x) (view M y)=v):bx .eq x y M=some v:=by
 have e:sU (view M x) (view M y)=some v:=by unfold sU;rw [px,py,h];simp
 show lM M x y=_
 unfold lM;rw [e]
theorem j9 {x y:D}{M:Mem}{v:Bool}(px:aA 64 (view M x)=true)(py:aA 64 (view M y)=true)(h:fz (view M x) (view M y)=v):bx .ne x y M=some (!v):=by
 show (bx .eq x y M).map (!·)=_
 rw [ka px py h];rfl
section
variable {Z:Env}{M:Mem}{a b d lo hi:GE}{s:GA}{t u:GT}{k:D->Mem->Prop}{c:Call}
@[simp] theorem cM {i:Nat}:ag (aa i Z M) k↔∃d,Z[i]?.getD none=some d/\k d M:=by simp [aa]
@[simp] theorem fV {d:D}:ag (gC d Z M) k↔k d M:=NS
@[simp] theorem jG {m:Bool}{o:mS}:ag (ay m o a b Z M) k↔ag (a Z M) fun x M=>ag (b Z M) fun y M=>ag (gY m o x y M) k:=by simp [ay]
@[simp] theorem ia {o:iJ}:ag (aU o a b Z M) k↔ag (a Z M) fun x M=>ag (b Z M) fun y M=>∃v,bx o x y M=some v/\k (.bl v) M:=by simp [aU]
@[simp] theorem JO {o o':iJ}:ag (sQ o o' a b d Z M) k↔ag (a Z M) fun x M=>ag (b Z M) fun y M=>∃v,bx o x y M=some v/\if v=true then ag (d Z M) fun z M=>∃v,bx o' y z M=some v/\k (.bl v) M else k (.bl false) M:=by
 simp only [sQ,bo,jj]
 refine iff_of_eq ?_
 congr 1;funext x M;congr 1;funext y M;refine propext (exists_congr fun v=>and_congr_right fun _=>?_)
 cases v<;>simp
@[simp] theorem JN:ag (du a Z M) k↔ag (a Z M) fun x M=>∃i,x=.int i/\k (.int (-i)) M:=by
 simp only [du,bo];refine iff_of_eq ?_;congr 1;funext x M;cases x<;>simp
@[simp] theorem qX:ag (dv a b Z M) k↔ag (a Z M) fun x M=>∃v,x=.bl v/\if v=true then ag (b Z M) k else k (.bl false) M:=by
 simp only [dv,bo];refine iff_of_eq ?_;congr 1;funext x M;cases x<;>simp
 rename_i v;cases v<;>simp
@[simp] theorem v9:ag (jq t a b Z M) k↔ag (t Z M) fun v M=>if v=true then ag (a Z M) k else ag (b Z M) k:=by
 simp only [jq,bo];refine iff_of_eq ?_;congr 1;funext v M;cases v<;>simp
@[simp] theorem CJ:ag (aE a b Z M) k↔ag (a Z M) fun x M=>ag (b Z M) fun y M=>∃d,cH x y M=some d/\k d M:=by simp [aE]
@[simp] theorem mv {m hl hh:Bool}:ag (dq m hl hh a lo hi Z M) k↔ag (a Z M) fun x M=>ag (lo Z M) fun l M=>ag (hi Z M) fun h M=>dn hl l=true/\dn hh h=true/\ag (fP m x l h M) k:=by
 simp only [dq,bo]
 refine iff_of_eq ?_
 congr 1;funext x M;congr 1;funext l M;congr 1;funext h M
 cases dn hl l<;>cases dn hh h<;>simp
@[simp] theorem cv {k:List D->Mem->Prop}:ag (ah Z M) k↔k [] M:=NS
@[simp] theorem bj {k:List D->Mem->Prop}:ag (ae a s Z M) k↔ag (a Z M) fun x M=>ag (s Z M) fun xs M=>k (x::xs) M:=by simp [ae]
@[simp] theorem jF:ag (cJ s Z M) k↔ag (s Z M) fun xs M=>xs.length<=sz/\k (.tup xs) M:=by
 simp only [cJ,bo];refine iff_of_eq ?_;congr 1;funext xs M;unfold kD;split<;>simp [*]
theorem sk {m:Bool}{xs:List D}:ag (bf m xs M) k↔xs.length<=sz/\if m=true then k (.cell M.length) (M++[xs]) else k (.lst xs) M:=by
 unfold bf;cases m<;>split<;>simp [*]
@[simp] theorem cF {xs:List D}:ag (bf false xs M) k↔xs.length<=sz/\k (.lst xs) M:=by simp [sk]
@[simp] theorem l9 {xs:List D}:ag (bf true xs M) k↔xs.length<=sz/\k (.cell M.length) (M++[xs]):=by simp [sk]
@[simp] theorem CI {m:Bool}:ag (bE m s Z M) k↔ag (s Z M) fun xs M=>ag (bf m xs M) k:=by simp [bE]
@[simp] theorem iq {f:Nat}:ag (au f c s Z M) k↔ag (s Z M) fun ds M=>ag (c f ds M) k:=by simp [au]
@[simp] theorem EN {i:Nat}:ag (lI i c s Z M) k↔∃f,Z[i]?.getD none=some (.fn f)/\ag (s Z M) fun ds M=>ag (c f ds M) k:=by
 unfold lI
 cases e:Z[i]?.getD none with
 |none=>simp
 |some d=>cases d<;>simp
@[simp] theorem fG {f:tR}:ag (aR f s Z M) k↔ag (s Z M) fun ds M=>ag (dA f ds M) k:=by simp [aR]
@[simp] theorem HS {t:Ty}:ag (cz t a Z M) k↔ag (a Z M) fun x M=>∃v,dF t x=some v/\k (.bl v) M:=by simp [cz]
@[simp] theorem HU {fs:List (Str×Nat)}:ag (kK fs a Z M) k↔ag (a Z M) fun x M=>∃y f,x=.str y/\fs.lookup y=some f/\k (.fn f) M:=by
 simp only [kK,bo];refine iff_of_eq ?_;congr 1;funext x M;cases x<;>simp
 exact ⟨fun ⟨_,⟨f,h,e⟩,q⟩=>⟨f,h,e ▸ q⟩,fun ⟨f,h,q⟩=>⟨_,⟨f,h,rfl⟩,q⟩⟩
@[simp] theorem Nm {fs:List (Str×Nat)}:ag (iQ fs a Z M) k↔ag (a Z M) fun x M=>∃y,x=.str y/\k (.bl (!(fs.lookup y).isSome)) M:=by
 simp only [iQ,bo];refine iff_of_eq ?_;congr 1;funext x M;cases x<;>simp
@[simp] theorem EM {m:Bool}:ag (lH m a Z M) k↔ag (a Z M) fun x M=>∃n,x=.int n/\(-(2^62)<=n/\n<2^20)/\ag (bf m ((List.range n.toNat).map fun (k:Nat)=>D.int (k:Int)) M) k:=by
 simp only [lH,bo];refine iff_of_eq ?_;congr 1;funext x M
 cases x<;>simp
 rename_i n
 split<;>simp [*]
variable {kb:Bool->Mem->Prop}
@[simp] theorem hG:ag (aC a Z M) kb↔ag (a Z M) fun x M=>∃v,jN M x=some v/\kb v M:=by simp [aC]
@[simp] theorem zL:ag (gj t u Z M) kb↔ag (t Z M) fun v M=>if v=true then kb true M else ag (u Z M) kb:=by
 simp only [gj,bo];refine iff_of_eq ?_;congr 1;funext v M;cases v<;>simp
@[simp] theorem nM:ag (bH t Z M) kb↔ag (t Z M) fun v M=>kb (!v) M:=by simp [bH]
variable {kf:Fl->Mem->Prop}{sa sb:GS}
noncomputable def iK (b:GS)(k:Fl->Mem->Prop):Fl->Mem->Prop
 |.next Z,M=>ag (b Z M) k
 |.ret d,M=>k (.ret d) M
 |.exc x Z,M=>k (.exc x Z) M
@[simp] theorem KZ {b:GS}{x:D}:iK b kf (.exc x Z) M↔kf (.exc x Z) M:=NS
@[simp] theorem d7 {b:GS}:iK b kf (.next Z) M↔ag (b Z M) kf:=NS
@[simp] theorem zH {b:GS}{d:D}:iK b kf (.ret d) M↔kf (.ret d) M:=NS
@[simp] theorem aX:ag (af sa sb Z M) kf↔ag (sa Z M) (iK sb kf):=by
 simp only [af,bo];refine iff_of_eq ?_;congr 1;funext fl M;cases fl<;>rfl
@[simp] theorem xE:ag (aj Z M) kf↔kf (.next Z) M:=NS
@[simp] theorem nQ {i:Nat}:ag (aK (.one i) a Z M) kf↔ag (a Z M) fun x M=>kf (.next (Z.set i (some x))) M:=by simp [aK,bN]
@[simp] theorem F2 {l:List Nat}:ag (aK (.tup l) a Z M) kf↔ag (a Z M) fun x M=>∃ds ρ1,x=.tup ds/\eQ l ds Z=some ρ1/\kf (.next ρ1) M:=by
 simp only [aK,bo,jj,bU];refine iff_of_eq ?_;congr 1;funext x M;cases x<;>simp [bN]
@[simp] theorem F0:ag (dz a b d Z M) kf↔ag (d Z M) fun z M=>ag (a Z M) fun x M=>ag (b Z M) fun y M=>∃j n ds i,x=.cell j/\y=.int n/\M[j]?=some ds/\bI ds.length n=some i/\kf (.next Z) (M.set j (ds.set i z)):=by
 simp only [dz,bo]
 refine iff_of_eq ?_
 congr 1;funext z M;congr 1;funext x M;congr 1;funext y M
 cases x with
 | cell j =>
   cases y with
   | int n =>
     cases e:M[j]? with
     |none=>simp [e]
     | some ds =>
       cases e2:bI ds.length n with
       |none=>simp [e,e2]
       |some i=>simp [e,e2]
   |_=>simp
 |_=>simp
@[simp] theorem F4:ag (iA a d Z M) kf↔ag (a Z M) fun x M=>ag (d Z M) fun z M=>∃j ds,x=.cell j/\M[j]?=some ds/\ds.length<sz/\kf (.next Z) (M.set j (ds++[z])):=by
 simp only [iA,bo]
 refine iff_of_eq ?_
 congr 1;funext x M;congr 1;funext z M
 cases x<;>simp
 rename_i j
 cases e:M[j]? with
 |none=>simp
 |some ds=>by_cases h:ds.length<sz<;>simp [h]
@[simp] theorem eD:ag (aM a Z M) kf↔ag (a Z M) fun x M=>kf (.ret x) M:=by simp [aM]
@[simp] theorem Mm:ag (B3 Z M) kf↔kf (.ret .non) M:=NS
@[simp] theorem Mn:ag (B4 Z M) kf↔kf (.next Z) M:=NS
@[simp] theorem MU:ag (Lh Z M) kf↔False:=NS
@[simp] theorem gm:ag (aQ t sa sb Z M) kf↔ag (t Z M) fun v M=>if v=true then ag (sa Z M) kf else ag (sb Z M) kf:=by
 simp only [aQ,bo];refine iff_of_eq ?_;congr 1;funext v M;cases v<;>simp
variable {kw:Walk->Mem->Prop}
@[simp] theorem f9:ag (cY a Z M) kw↔ag (a Z M) fun x M=>∃n,x=.int n/\(-(2^62)<=n/\n<2^62)/\kw (fun _=>some ((List.range n.toNat).map fun (k:Nat)=>D.int (k:Int))) M:=by
 simp only [cY,bo];refine iff_of_eq ?_;congr 1;funext x M;cases x<;>simp
 rename_i n
 split<;>simp [*]
@[simp] theorem IV:ag (fy a Z M) kw↔ag (a Z M) fun x M=>cX x=true/\kw (fun M=>bG M x) M:=by
 simp only [fy,bo];refine iff_of_eq ?_;congr 1;funext x M;cases x<;>simp [cX]<;>rfl
@[simp] theorem MA:ag (mq a Z M) kw↔ag (a Z M) fun x M=>(cX x&&dO x)=true/\kw (fun M=>(bG M x).map (dP 0)) M:=by
 simp only [mq,bo];refine iff_of_eq ?_;congr 1;funext x M;cases x<;>simp [cX,dO]<;>rfl
@[simp] theorem Mz:ag (mn a b Z M) kw↔ag (a Z M) fun x M=>ag (b Z M) fun y M=>(cX x&&cX y)=true/\kw (km x y) M:=by
 simp only [mn,bo];refine iff_of_eq ?_;congr 1;funext x M;congr 1;funext y M;split<;>simp [*]
noncomputable def nr (k:D->Mem->Prop):Fl->Mem->Prop
 |.ret d,M=>k d M
 |.next _,M=>k .non M
 |.exc _ _,_=>False
@[simp] theorem Mx {d:D}:nr k (.ret d) M↔k d M:=NS
@[simp] theorem LU:nr k (.next Z) M↔k .non M:=NS
theorem az {P:Nat->Option Df}{n f:Nat}{d:Df}{ds:List D}(e:P f=some d)(hl:ds.length=d.params)(h:ag (d.body (ak P n) (ds.map some++List.replicate (d.slots-ds.length) none) M) (nr k)):ag (ak P (n+1) f ds M) k:=by
 show ag (match P f with|none=>Res.bad|some d=>fQ (ak P n) d ds M) k
 rw [e]
 show ag (fQ (ak P n) d ds M) k
 unfold fQ
 rw [if_pos hl]
 revert h
 cases d.body (ak P n) (ds.map some++List.replicate (d.slots-ds.length) none) M with
 |ok fl M=>cases fl<;>exact id
 |err=>exact id
 |bad=>exact id
@[simp] theorem MZ {α:Type}{a:α}{k:α->Mem->Prop}{kx:D->Mem->Prop}:gr (.ok a M) k kx↔k a M:=NS
@[simp] theorem Mr {α:Type}{x:D}{k:α->Mem->Prop}{kx:D->Mem->Prop}:gr (.err x M:Res α) k kx↔kx x M:=NS
noncomputable def v5 (k kx:D->Mem->Prop):Fl->Mem->Prop
 |.ret d,M=>k d M
 |.next _,M=>k .non M
 |.exc x _,M=>kx x M
theorem Bq {P:Nat->Option Df}{n f:Nat}{d:Df}{ds:List D}{kx:D->Mem->Prop}(e:P f=some d)(hl:ds.length=d.params)(h:ag (d.body (ak P n) (ds.map some++List.replicate (d.slots-ds.length) none) M) (v5 k kx)):gr (ak P (n+1) f ds M) k kx:=by
 show gr (match P f with|none=>Res.bad|some d=>fQ (ak P n) d ds M) k kx
 rw [e]
 show gr (fQ (ak P n) d ds M) k kx
 unfold fQ
 rw [if_pos hl]
 revert h
 cases d.body (ak P n) (ds.map some++List.replicate (d.slots-ds.length) none) M with
 |ok fl M=>cases fl<;>exact id
 |err=>exact id
 |bad=>exact id
theorem yK {α:Type}{r:Res α}{x:D}{M':Mem}(h:gr r (fun _ _=>False) fun y M=>y=x/\M=M'):r=.err x M':=by
 cases r with
 |ok=>exact h.elim
 |err y M=>obtain ⟨rfl,rfl⟩:=h;rfl
 |bad=>exact h.elim
@[simp] theorem Nk {d:D}{kx:D->Mem->Prop}:v5 k kx (.ret d) M↔k d M:=NS
@[simp] theorem Mw {kx:D->Mem->Prop}:v5 k kx (.next Z) M↔k .non M:=NS
@[simp] theorem Nl {x:D}{kx:D->Mem->Prop}:v5 k kx (.exc x Z) M↔kx x M:=NS
@[simp] theorem Mh {f:Nat}{kx:D->Mem->Prop}:gr (dg f c s Z M) k kx↔ag (s Z M) fun ds M=>gr (c f ds M) k kx:=by
 unfold dg
 cases s Z M<;>rfl
@[simp] theorem F1:ag (iz a Z M) kf↔gr (a Z M) (fun _ M=>kf (.next Z) M) (fun x M=>kf (.exc x Z) M):=by
 unfold iz
 cases a Z M<;>rfl
@[simp] theorem Mo {i:Nat}:ag (hV (.one i) a Z M) kf↔gr (a Z M) (fun x M=>kf (.next (Z.set i (some x))) M) (fun x M=>kf (.exc x Z) M):=by
 unfold hV
 cases a Z M<;>rfl
@[simp] theorem Af {i:Nat}:ag (eE i s Z M) kf↔ag (s Z M) fun ds M=>ds.length<=sz/\kf (.exc (.exc i none) Z) M:=by
 unfold eE
 cases s Z M with
 |ok ds M1=>by_cases h:ds.length<=sz<;>simp [h]
 |err=>exact NS
 |bad=>exact NS
noncomputable def LY (i:Nat)(kf:Fl->Mem->Prop):Fl->Mem->Prop
 |.next Z,M=>kf (.next (Z.set i none)) M
 |.ret d,M=>kf (.ret d) M
 |.exc _ _,_=>False
noncomputable def tryK (i:Nat)(h:GS)(kf:Fl->Mem->Prop):Fl->Mem->Prop
 |.exc x Z,M=>ag (h (Z.set i (some x)) M) (LY i kf)
 |fl,M=>kf fl M
noncomputable def L3 (k1 k2:Nat)(h:GS)(kf:Fl->Mem->Prop):Fl->Mem->Prop
 |.exc x Z,M=>∃c p,x=.exc c p/\(c=k1\/c=k2)/\ag (h Z M) (fun fl M=>match fl with|.exc _ _=>False|fl=>kf fl M)
 |fl,M=>kf fl M
@[simp] theorem Ah {k1 k2:Nat}{h:GS}:ag (lg sa k1 k2 h Z M) kf↔ag (sa Z M) (L3 k1 k2 h kf):=by
 simp only [lg,bo];refine iff_of_eq ?_;congr 1;funext fl M
 cases fl with
 | exc x Z =>
   cases x with
   | exc c p =>
     by_cases hc:c=k1\/c=k2
     ·have e:jR k1 k2 h (.exc (.exc c p) Z) M=(h Z M).bind fun fl M=>match fl with|.exc _ _=>.bad|fl=>.ok fl M:=if_pos hc
      rw [e]
      simp only [bo]
      refine propext ⟨fun z=>⟨c,p,rfl,hc,aO z fun fl M q=>?_⟩,fun ⟨_,_,e,_,z⟩=>?_⟩
      ·cases fl with
       |exc=>exact q.elim
       |next=>exact q
       |ret=>exact q
      ·refine aO z fun fl M q=>?_
       cases fl with
       |exc=>exact q.elim
       |next=>exact q
       |ret=>exact q
     ·have e:jR k1 k2 h (.exc (.exc c p) Z) M=.bad:=if_neg hc
      rw [e]
      exact propext ⟨fun z=>z.elim,fun ⟨_,_,e,z,_⟩=>by cases e;exact absurd z hc⟩
   |_=>exact propext ⟨fun z=>z.elim,fun ⟨_,_,e,_⟩=>by cases e⟩
 |next Z=>rfl
 |ret d=>rfl
theorem vP {α:Type}(f:α->D->Mem->Res α)(ds:List D):∀(m i:Nat) (a:α) (M:Mem),ds.length-i<m->i<=ds.length->ez f (fun _=>some ds) m i a M=CH f (ds.drop i) a M
 |0,i,a,M,h,_=>absurd h (Nat.not_lt_zero _)
 | m + 1, i, a, M, h, hi => by
   show (match ds[i]? with|none=>Res.ok a M|some d=>(f a d M).bind (ez f (fun _=>some ds) m (i+1)))=_
   by_cases hlt:i<ds.length
   ·rw [List.drop_eq_getElem_cons hlt,Nc hlt]
    show (f a ds[i] M).bind _=(f a ds[i] M).bind _
    congr 1
    funext a M
    exact vP f ds m (i+1) a M (by omega) hlt
   ·have e:i=ds.length:=by omega
    subst e
    rw [Oj (MN _),List.drop_length]
    rfl
theorem jb {α:Type}{f:α->D->Mem->Res α}{w:Walk}{ds:List D}{a:α}{k:α->Mem->Prop}(I:Nat->α->Mem->Prop)(hw:∀i a M,I i a M->w M=some ds)(h0:I 0 a M)
 (hs:∀i d a M,ds[i]?=some d->I i a M->ag (f a d M) (I (i+1))) (hk:∀a M,I ds.length a M->k a M):ag (dj f w a M) k:=by
 have key:∀(m i:Nat) (a:α) (M:Mem),ds.length-i<m->i<=ds.length->I i a M->ag (ez f w m i a M) k:=by
  intro m
  induction m with
  |zero=>intro i a M h;exact absurd h (Nat.not_lt_zero _)
  | succ m ih =>
    intro i a M h hi hI
    show ag (match w M with|none=>Res.bad|some ds=>match ds[i]? with|none=>Res.ok a M|some d=>(f a d M).bind (ez f w m (i+1))) k
    rw [hw i a M hI]
    dsimp only
    by_cases hlt:i<ds.length
    ·rw [Nc hlt]
     simp only [bo]
     exact aO (hs i ds[i] a M (Nc hlt) hI) fun a' M' h'=>ih (i+1) a' M' (by omega) hlt h'
    ·have e:i=ds.length:=by omega
     subst e
     rw [Oj (MN _)]
     exact hk a M hI
 unfold dj
 rw [hw 0 a M h0]
 exact key _ 0 a M (by simp) (Nat.zero_le _) h0
theorem eK {t:cy}{w:Walk}{gb:GS}{ds:List D}(I:Nat->Env->Mem->Prop)(hw:∀i Z M,I i Z M->w M=some ds)(h0:I 0 Z M)
 (hs:∀i d Z M,ds[i]?=some d->I i Z M->∃ρ1,bN t d Z=some ρ1/\ag (gb ρ1 M) fun fl M=>∃ρ',fl=.next ρ'/\I (i+1) ρ' M) (hk:∀Z M,I ds.length Z M->kf (.next Z) M):ag (dj (gk t gb) w (.next Z) M) kf:=by
 refine jb (fun i fl M=>∃Z,fl=.next Z/\I i Z M) (fun i fl M ⟨Z,_,h⟩=>hw i Z M h) ⟨Z,rfl,h0⟩ ?_ ?_
 ·rintro i d fl M hd ⟨Z,rfl,hI⟩
  obtain ⟨ρ1,e,h⟩:=hs i d Z M hd hI
  simp only [gk,bo,jj,e]
  exact ⟨ρ1,rfl,h⟩
 ·rintro fl M ⟨Z,rfl,hI⟩
  exact hk Z M hI
@[simp] theorem jT {tg:cy}{w:GW}{gb:GS}:ag (dJ tg w gb Z M) kf↔ag (w Z M) fun w M=>ag (dj (gk tg gb) w (.next Z) M) kf:=by simp [dJ]
@[simp] theorem j8 {m:Bool}{n:Nat}{tg:cy}{w:GW}{g:GB}:ag (b7 m n tg w g Z M) k↔ag (w Z M) fun w M=>ag (dj (dw tg g (List.replicate n none++Z)) w [] M) fun acc M=>ag (bf m acc M) k:=by simp [b7]
variable {kl:List D->Mem->Prop}
@[simp] theorem CS {ge:GE}{acc:List D}:ag (bS ge Z acc M) kl↔ag (ge Z M) fun x M=>acc.length<sz/\kl (acc++[x]) M:=by
 simp only [bS,bo];refine iff_of_eq ?_;congr 1;funext x M;split<;>simp [*]
theorem comp_map {tg:cy}{w:Walk}{ge:GE}{ds:List D}{ρ0:Env}(I:Nat->List D->Mem->Prop)(hz:ds.length<=sz)(hw:∀i acc M,I i acc M->w M=some ds)(h0:I 0 [] M)
 (hs:∀i d acc M,ds[i]?=some d->acc.length=i->I i acc M->∃ρ1,bN tg d ρ0=some ρ1/\ag (ge ρ1 M) fun x M=>I (i+1) (acc++[x]) M) (hk:∀acc M,acc.length=ds.length->I ds.length acc M->kl acc M) :
 ag (dj (dw tg (bS ge) ρ0) w [] M) kl:=by
 refine jb (fun i acc M=>acc.length=i/\I i acc M) (fun i acc M h=>hw i acc M h.2) ⟨rfl,h0⟩ ?_ (fun acc M h=>hk acc M h.1 h.2)
 rintro i d acc M hd ⟨hl,hI⟩
 obtain ⟨ρ1,e,h⟩:=hs i d acc M hd hl hI
 have hi:i<ds.length:=(MH.mp hd).1
 simp only [dw,bo,jj,e,CS]
 exact ⟨ρ1,rfl,aO h fun x M h=>⟨by omega,by simp [hl],h⟩⟩
end
theorem bD {t:GT}{A rest:GS}{Z:Env}{M:Mem}{k:Fl->Mem->Prop}(ht:t Z M=.ok false M)(h:ag (rest Z M) k):ag (af (aQ t A aj) rest Z M) k:=by
 simp only [aX,gm]
 rw [ht]
 exact h
theorem j3 {t:GT}{e:GE}{rest:GS}{Z:Env}{M:Mem}{v:D}{k:Fl->Mem->Prop}(ht:t Z M=.ok true M)(he:e Z M=.ok v M)(h:k (.ret v) M):ag (af (aQ t (af (aM e) aj) aj) rest Z M) k:=by
 simp only [aX,gm,eD]
 rw [ht]
 show ag (e Z M) _
 rw [he]
 exact h
theorem cZ {e:GE}{Z:Env}{M:Mem}{v:D}{k:Fl->Mem->Prop}(he:e Z M=.ok v M)(h:k (.ret v) M):ag (af (aM e) aj Z M) k:=by
 simp only [aX,eD]
 rw [he]
 exact h
theorem cQ {r:Res Fl}{v:D}{M:Mem}(e:r=.ok (.ret v) M):ag r (nr fun x M'=>x=v/\M'=M):=by rw [e];exact ⟨rfl,rfl⟩
end LD
namespace LD
open PySem
structure HasM0 (P:Nat->Option Df):Prop where
 is_between:P 0=some ⟨3,3,eX⟩
 is_word:P 1=some ⟨2,2,jI⟩
 is_place:P 2=some ⟨2,2,iV⟩
 is_cost:P 3=some ⟨1,1,jJ⟩
 is_tuple_of:P 4=some ⟨2,2,fJ⟩
 is_table:P 5=some ⟨2,2,iU⟩
 is_double_table:P 6=some ⟨2,2,dS⟩
 is_turn:P 7=some ⟨3,6,fW⟩
 is_join:P 8=some ⟨3,7,fY⟩
 is_move:P 9=some ⟨3,6,fX⟩
 is_put:P 10=some ⟨3,6,g8⟩
 is_deed:P 11=some ⟨3,5,fZ⟩
 is_machine:P 12=some ⟨1,4,eW⟩
 need_machine:P 13=some ⟨1,1,g7⟩
 is_deed_number:P 16=some ⟨2,2,fR⟩
 need_numbers:P 17=some ⟨2,4,gZ⟩
 need_row:P 18=some ⟨2,2,kO⟩
structure HasM (P:Nat->Option Df):Prop extends HasM0 P where
 turned:P 20=some ⟨2,6,nv⟩
 joined:P 21=some ⟨2,7,nB⟩
 moved:P 22=some ⟨2,6,pC⟩
 put_in:P 23=some ⟨2,6,nz⟩
 done:P 24=some ⟨2,4,tJ⟩
 all_standing:P 25=some ⟨3,5,g9⟩
structure HasP0 (P:Nat->Option Df):Prop where
 law_spread:P 28=some ⟨2,6,fK⟩
 law_open:P 29=some ⟨1,4,jO⟩
 law_anew:P 30=some ⟨1,1,jP⟩
 law_take:P 31=some ⟨2,5,mO⟩
structure HasP (P:Nat->Option Df):Prop extends HasP0 P where
 law_tab:P 32=some ⟨2,6,iW⟩
 law_deed:P 33=some ⟨3,7,ic⟩
 law_machine:P 34=some ⟨4,8,fq⟩
noncomputable instance coeHasM {P:Nat->Option Df}:Coe (HasM P) (HasM0 P):=⟨HasM.toHasM0⟩
noncomputable instance coeHasP {P:Nat->Option Df}:Coe (HasP P) (HasP0 P):=⟨HasP.toHasP0⟩
@[simp] theorem Nr {d:Option D}{r:Env}:(d::r)[0]?.getD none=d:=rfl
section
variable {M:Mem}{k:D->Mem->Prop}
theorem nZ {α:Type}{c:Prop}[Decidable c]{r:Res α}{k:α->Mem->Prop}:ag (if c then r else .bad) k↔c/\ag r k:=by split<;>simp [*]
@[simp] theorem oE {m:Bool}{i j:Int}:ag (gY m .add (.int i) (.int j) M) k↔k (.int (i+j)) M:=NS
@[simp] theorem MT {m:Bool}{i j:Int}:ag (gY m .sub (.int i) (.int j) M) k↔k (.int (i-j)) M:=NS
@[simp] theorem Nb {m:Bool}{i j:Int}:ag (gY m .mod (.int i) (.int j) M) k↔0<j/\k (.int (i % j)) M:=nZ
@[simp] theorem zd {m:Bool}{x y:List D}:ag (gY m .add (.tup x) (.tup y) M) k↔(x++y).length<=sz/\k (.tup (x++y)) M:=by
 show ag (kD _ _) k↔_
 unfold kD;exact nZ
@[simp] theorem Nn {m:Bool}{x y:List D}:ag (gY m .add (.lst x) (.lst y) M) k↔ag (bf m (x++y) M) k:=NS
@[simp] theorem MB {i j:Int}:bx .lt (.int i) (.int j) M=some (decide (i<j)):=rfl
@[simp] theorem MC {i j:Int}:bx .le (.int i) (.int j) M=some (decide (i<=j)):=rfl
@[simp] theorem MD {i j:Int}:bx .gt (.int i) (.int j) M=some (decide (j<i)):=rfl
@[simp] theorem ME {i j:Int}:bx .ge (.int i) (.int j) M=some (decide (j<=i)):=rfl
@[simp] theorem Nu {i j:Int}:bx .eq (.int i) (.int j) M=some (i==j):=rfl
@[simp] theorem Nt {i j:Int}:bx .ne (.int i) (.int j) M=some (!(i==j)):=rfl
@[simp] theorem MK {b:Bool}:jN M (.bl b)=some b:=rfl
@[simp] theorem Mi {ds:List D}:jN M (.tup ds)=some (!ds.isEmpty):=rfl
@[simp] theorem Mj {ds:List D}:jN M (.lst ds)=some (!ds.isEmpty):=rfl
@[simp] theorem EE {ds:List D}:ag (dA .len [.tup ds] M) k↔k (.int ds.length) M:=NS
@[simp] theorem Ms {ds:List D}:ag (dA .len [.lst ds] M) k↔k (.int ds.length) M:=NS
@[simp] theorem Fi {ds:List D}:ag (dA .all [.lst ds] M) k↔∃bs,boolsOf ds=some bs/\k (.bl (bs.all id)) M:=by
 show ag (match boolsOf ds with|some bs=>_|none=>_) k↔_
 cases boolsOf ds<;>simp
@[simp] theorem Ml {ds:List D}:ag (dA .sum [.lst ds] M) k↔∃bs,intsOf ds=some bs/\k (.int bs.sum) M:=by
 show ag (match intsOf ds with|some bs=>_|none=>_) k↔_
 cases intsOf ds<;>simp
@[simp] theorem Kl {ds:List D}:ag (dA .tuple [.lst ds] M) k↔k (.tup ds) M:=NS
@[simp] theorem vc {j:Nat}:ag (dA .tuple [.cell j] M) k↔∃ds,M[j]?=some ds/\k (.tup ds) M:=by
 show ag (match M[j]? with|some xs=>_|none=>_) k↔_
 cases M[j]?<;>simp
@[simp] theorem AQ {m:Bool}{ds:List D}:ag (dA (.list m) [.lst ds] M) k↔ag (bf m ds M) k:=NS
@[simp] theorem i7 {ds:List D}{i:Int}:cH (.tup ds) (.int i) M=(bI ds.length i).bind fun j=>ds[j]?:=rfl
@[simp] theorem Mv {ds:List D}{i:Int}:cH (.lst ds) (.int i) M=(bI ds.length i).bind fun j=>ds[j]?:=rfl
@[simp] theorem LP {j:Nat}{i:Int}:cH (.cell j) (.int i) M=(M[j]?).bind fun ds=>(bI ds.length i).bind fun j=>ds[j]?:=rfl
theorem fE {n i:Nat}(h:i<n):bI n (i:Int)=some i:=by
 unfold bI;rw [if_pos (Int.natCast_nonneg i),if_pos (by exact_mod_cast h)];rfl
theorem EG {n:Nat}(h:0<n):bI n (-1)=some (n-1):=by
 unfold bI
 rw [if_neg (by omega),if_pos (by omega)]
 congr 1;omega
end
theorem lL {α:Type}{r:Res α}{d:α}{M:Mem}(h:ag r fun x M'=>x=d/\M'=M):r=.ok d M:=by
 obtain ⟨a,M',e,rfl,rfl⟩:=iL.mp h
 exact e
theorem aw {r:Res D}{d:D}{M:Mem}(h:ag r fun x M'=>x=d/\M'=M):r=.ok d M:=by
 obtain ⟨a,M',e,rfl,rfl⟩:=iL.mp h
 exact e
section
variable {P:Nat->Option Df}(h:HasM0 P){M:Mem}
include h
theorem ky (n:Nat)(t lo hi:Int):ak P (n+1) 0 [.int t,.int lo,.int hi] M=.ok (.bl (decide (lo<=t)&&decide (t<=hi))) M:=by
 refine aw (az h.is_between rfl ?_)
 simp [eX,dF]
 by_cases h1:lo<=t<;>simp [h1]<;>omega
end
theorem ir {tg:cy}{w:Walk}{ge:GE}{ds:List D}{ρ0:Env}{M:Mem}{kl:List D->Mem->Prop}(f:D->D)(hz:ds.length<=sz)(hw:w M=some ds)(hs:∀d∈ds,∃ρ1,bN tg d ρ0=some ρ1/\ge ρ1 M=.ok (f d) M)(hk:kl (ds.map f) M) :
 ag (dj (dw tg (bS ge) ρ0) w [] M) kl:=by
 refine comp_map (fun i acc M'=>M'=M/\acc=(ds.take i).map f) hz (fun i acc M' h=>by rw [h.1];exact hw) ⟨rfl,rfl⟩ ?_ ?_
 ·rintro i d acc M' hd _ ⟨rfl,rfl⟩
  obtain ⟨ρ1,e1,e2⟩:=hs d (N1 hd)
  refine ⟨ρ1,e1,?_⟩
  rw [e2]
  refine ⟨rfl,?_⟩
  have hi:i<ds.length:=(MH.mp hd).1
  rw [Ou,hd]
  simp
 ·rintro acc M' _ ⟨rfl,rfl⟩
  simpa using hk
abbrev nD (n:Nat):D:=.int (n:Int)
noncomputable def aH (l:List Nat):D:=.tup (l.map nD)
inductive aW where
 |turn (at_:Nat) (tab:List Nat) (cost:Nat)
 |join (at_ other:Nat) (tab:List (List Nat)) (cost:Nat)
 |move (at_ other cost:Nat)
 |put (at_ word cost:Nat)
noncomputable def aW.d:aW->D
 |.turn a t c=>.tup [.str "turn",nD a,aH t,nD c]
 |.join a o t c=>.tup [.str "join",nD a,nD o,.tup (t.map aH),nD c]
 |.move a o c=>.tup [.str "move",nD a,nD o,nD c]
 |.put a w c=>.tup [.str "put",nD a,nD w,nD c]
noncomputable def aW.cost:aW->Nat
 |.turn _ _ c=>c
 |.join _ _ _ c=>c
 |.move _ _ c=>c
 |.put _ _ c=>c
structure aV where
 words:Nat
 places:Nat
 deeds:List aW
noncomputable def aV.d (m:aV):D:=.tup [nD m.words,nD m.places,.tup (m.deeds.map aW.d)]
noncomputable def i5 (w:Nat)(t:List Nat):Prop:=t.length=w/\∀x∈t,x<w
noncomputable def fb (c:Nat):Prop:=1<=c/\c<=3
noncomputable def bY (w p:Nat):aW->Prop
 |.turn a t c=>a<p/\i5 w t/\fb c
 |.join a o t c=>a<p/\o<p/\(t.length=w/\∀x∈t,i5 w x)/\fb c
 |.move a o c=>a<p/\o<p/\fb c
 |.put a x c=>a<p/\x<w/\fb c
structure a9 (m:aV):Prop where
 w2:2<=m.words
 w4:m.words<=4
 p1:1<=m.places
 p2:m.places<=2
 d1:1<=m.deeds.length
 d6:m.deeds.length<=6
 ok:∀d∈m.deeds,bY m.words m.places d
theorem aT {n:Nat}(h:n<=100000):n<=sz:=MR h (by decide)
theorem Ls:cq.lookup (Str.ofString "turn")=some 7:=by decide +kernel
theorem Lr:cq.lookup (Str.ofString "join")=some 8:=by decide +kernel
theorem Lq:cq.lookup (Str.ofString "move")=some 9:=by decide +kernel
theorem Lp:cq.lookup (Str.ofString "put")=some 10:=by decide +kernel
end LD
namespace LD
open PySem
section
variable {Z:Env}{M:Mem}{a b:GE}{s:GA}{k:D->Mem->Prop}{kf:Fl->Mem->Prop}{t u:GT}{A rest:GS}
theorem cj {t rest:GS}{ρ':Env}(e:t Z M=.ok (.next ρ') M)(h:ag (rest ρ' M) kf):ag (af t rest Z M) kf:=by
 simp only [aX]
 rw [e]
 exact h
theorem aq {x:D}{xs:List D}(ea:a Z M=.ok x M)(es:s Z M=.ok xs M):ae a s Z M=.ok (x::xs) M:=by
 unfold ae
 rw [ea]
 show (s Z M).bind _=_
 rw [es]
 rfl
theorem gy {xs:List D}(es:s Z M=.ok xs M)(hl:xs.length<=100):bE false s Z M=.ok (.lst xs) M:=by
 unfold bE
 rw [es]
 show (if xs.length<=sz then (if false=true then _ else Res.ok (D.lst xs) M) else .bad)=_
 rw [if_pos (aT (by omega))]
 rfl
theorem iu {xs ys:List D}(ea:a Z M=.ok (.lst xs) M)(eb:b Z M=.ok (.lst ys) M)(hl:(xs++ys).length<=100):ay false .add a b Z M=.ok (.lst (xs++ys)) M:=by
 unfold ay
 rw [ea]
 show (b Z M).bind _=_
 rw [eb]
 show (if (xs++ys).length<=sz then (if false=true then _ else Res.ok (D.lst (xs++ys)) M) else .bad)=_
 rw [if_pos (aT (by omega))]
 rfl
theorem dH {i:Nat}{x:D}(e:a Z M=.ok x M):aK (.one i) a Z M=.ok (.next (Z.set i (some x))) M:=by
 unfold aK
 rw [e]
 rfl
theorem ai {j:Nat}{x:D}(h:Z[j]?.getD none=some x):aa j Z M=.ok x M:=by
 unfold aa
 rw [h]
 rfl
theorem bw {f:Nat}{c:Call}{xs:List D}(e:s Z M=.ok xs M):au f c s Z M=c f xs M:=by
 unfold au;rw [e];rfl
theorem qZ {f i:Nat}{c:Call}{x:D}{r:Res D}(h:Z[i]?.getD none=some x)(e:c f [x] M=r):au f c (ae (aa i) ah) Z M=r:=(bw (aq (ai h) rfl)).trans e
theorem iT {f i j:Nat}{c:Call}{x y:D}{r:Res D}(h:Z[i]?.getD none=some x)(h2:Z[j]?.getD none=some y)(e:c f [x,y] M=r):au f c (ae (aa i) (ae (aa j) ah)) Z M=r:=(bw (aq (ai h) (aq (ai h2) rfl))).trans e
theorem cm {i:Nat}(h:ag (a Z M) k)(hk:∀x M',k x M'->ag (rest (Z.set i (some x)) M') kf):ag (af (aK (.one i) a) rest Z M) kf:=by
 obtain ⟨x,M',e,q⟩:=iL.mp h
 simp only [aX]
 unfold aK
 rw [e]
 exact hk x M' q
theorem sL (ht:t Z M=.ok true M)(h:ag (A Z M) (iK rest kf)):ag (af (aQ t A aj) rest Z M) kf:=by
 simp only [aX,gm]
 rw [ht]
 exact h
theorem bX {b:Bool}(ht:t Z M=.ok b M)(h1:b=true->ag (A Z M) (iK rest kf))(h2:b=false->ag (rest Z M) kf):ag (af (aQ t A aj) rest Z M) kf:=by
 cases b with
 |true=>exact sL ht (h1 rfl)
 |false=>exact bD ht (h2 rfl)
theorem jl {b:Bool}(h:t Z M=.ok b M):bH t Z M=.ok (!b) M:=by
 unfold bH
 rw [h]
 rfl
theorem cf {b:Bool}(h:a Z M=.ok (.bl b) M):aC a Z M=.ok b M:=by
 unfold aC
 rw [h]
 rfl
theorem B9 {x y:Bool}(h1:t Z M=.ok x M)(h2:u Z M=.ok y M):gj t u Z M=.ok (x||y) M:=by
 unfold gj
 rw [h1]
 cases x with
 |true=>rfl
 |false=>exact h2
theorem pE {x y:Bool}(h1:t Z M=.ok x M)(h2:u Z M=.ok y M):jd t u Z M=.ok (x&&y) M:=by
 unfold jd
 rw [h1]
 cases x with
 |true=>exact h2
 |false=>rfl
theorem jt {x y:Bool}(h1:a Z M=.ok (.bl x) M)(h2:x=true->b Z M=.ok (.bl y) M):dv a b Z M=.ok (.bl (x&&y)) M:=by
 unfold dv
 rw [h1]
 cases x with
 |true=>exact h2 rfl
 |false=>rfl
theorem mi {k:Bool}{x:D}(ht:t Z M=.ok k M)(h1:k=true->a Z M=.ok x M)(h2:k=false->b Z M=.ok x M):jq t a b Z M=.ok x M:=by
 unfold jq
 rw [ht]
 cases k with
 |true=>exact h1 rfl
 |false=>exact h2 rfl
theorem iO {j:Nat}{ds:List D}(e:Z[j]?.getD none=some (.tup ds)):aR .len (ae (aa j) ah) Z M=.ok (nD ds.length) M:=by
 unfold aR
 rw [aq (ai e) rfl]
 rfl
theorem Jz {i j:Int}(h1:a Z M=.ok (.int i) M)(h2:b Z M=.ok (.int j) M):aC (aU .ne a b) Z M=.ok (!(i==j)) M:=by
 refine cf ?_
 unfold aU
 rw [h1]
 show (b Z M).bind _=_
 rw [h2]
 rfl
end
theorem j4 {t:GT}{A rest:GS}{Z:Env}{M:Mem}{k:Fl->Mem->Prop}{R:Mem->Prop}(ht:ag (t Z M) fun b M'=>b=false/\R M')(h:∀M',R M'->ag (rest Z M') k):ag (af (aQ t A aj) rest Z M) k:=by
 simp only [aX,gm]
 obtain ⟨b,M',e,rfl,r⟩:=iL.mp ht
 rw [e]
 exact h M' r
end LD
namespace LD
open PySem
noncomputable def Th:Nat->Nat->D->Prop
 |_,_,.non=>True
 |_,_,.bl _=>True
 |_,_,.int _=>True
 |_,L,.str x=>x.cps.size<=L/\x.cps.all (· < 0x110000)=true
 |n+1,L,.tup ds=>ds.length<=L/\∀d∈ds,Th n L d
 |n+1,L,.lst ds=>ds.length<=L/\∀d∈ds,Th n L d
 |_,_,_=>False
theorem Th.mono:∀{n n' L L':Nat}{d:D},Th n L d->n<=n'->L<=L'->Th n' L' d
 |n,n',L,L',.non,_,_,_=>by cases n'<;>trivial
 |n,n',L,L',.bl _,_,_,_=>by cases n'<;>trivial
 |n,n',L,L',.int _,_,_,_=>by cases n'<;>trivial
 | n, n', L, L', .str x, h, _, l => by
   have h:x.cps.size<=L/\x.cps.all (· < 0x110000)=true:=by cases n<;>exact h
   have:x.cps.size<=L'/\x.cps.all (· < 0x110000)=true:=⟨MR h.1 l,h.2⟩
   cases n'<;>exact this
 |n+1,n'+1,L,L',.tup ds,h,a,l=>⟨MR h.1 l,fun d hd=>Th.mono (h.2 d hd) (Nat.le_of_succ_le_succ a) l⟩
 |n+1,n'+1,L,L',.lst ds,h,a,l=>⟨MR h.1 l,fun d hd=>Th.mono (h.2 d hd) (Nat.le_of_succ_le_succ a) l⟩
 |n+1,0,L,L',.tup ds,h,a,l=>by omega
 |n+1,0,L,L',.lst ds,h,a,l=>by omega
 |0,n',L,L',.tup ds,h,a,l=>h.elim
 |0,n',L,L',.lst ds,h,a,l=>h.elim
 |n,n',L,L',.frz _,h,_,_=>by cases n<;>exact h.elim
 |n,n',L,L',.cell _,h,_,_=>by cases n<;>exact h.elim
 |n,n',L,L',.fn _,h,_,_=>by cases n<;>exact h.elim
 |n,n',L,L',.exc _ _,h,_,_=>by cases n<;>exact h.elim
theorem Th.tup {n L:Nat}{ds:List D}(h:Th n L (.tup ds)):ds.length<=L/\∀d∈ds,Th n L d:=by
 cases n with
 |zero=>exact h.elim
 |succ n=>exact ⟨h.1,fun d hd=>(h.2 d hd).mono (Oz n) (MN L)⟩
noncomputable def bC (lo hi:Int):D->Bool
 |.int i=>decide (lo<=i)&&decide (i<=hi)
 |_=>false
noncomputable def fO (w:Nat):D->Bool
 |.tup ds=>ds.length==w
 |_=>false
noncomputable def kr (w:Nat):D->Bool
 |.tup ds=>ds.length==w&&ds.all (bC 0 ((w:Int)-1))
 |_=>false
noncomputable def ow (w:Nat):D->Bool
 |.tup ds=>ds.length==w&&ds.all (kr w)
 |_=>false
noncomputable def qN (w p:Nat):List D->Bool
 |[a,t,c]=>bC 0 ((p:Int)-1) a&&(kr w t&&bC 1 3 c)
 |_=>false
noncomputable def qU (w p:Nat):List D->Bool
 |[a,o,t,c]=>bC 0 ((p:Int)-1) a&&(bC 0 ((p:Int)-1) o&&(ow w t&&bC 1 3 c))
 |_=>false
noncomputable def qQ (w p:Nat):List D->Bool
 |[a,o,c]=>bC 0 ((p:Int)-1) a&&(bC 0 ((p:Int)-1) o&&bC 1 3 c)
 |_=>false
noncomputable def vq (w p:Nat):List D->Bool
 |[a,x,c]=>bC 0 ((p:Int)-1) a&&(bC 0 ((w:Int)-1) x&&bC 1 3 c)
 |_=>false
noncomputable def c9 (w p:Nat)(s:Str)(ds:List D):Bool:=
 if s="turn" then qN w p ds else if s="join" then qU w p ds else if s="move" then qQ w p ds else if s="put" then vq w p ds else false
noncomputable def iS (w p:Nat):D->Bool
 |.tup (.str s::ds)=>c9 w p s ds
 |_=>false
noncomputable def iC:D->Bool
 |.tup ds=>decide (1<=ds.length)&&decide (ds.length<=6)
 |_=>false
noncomputable def HF:D->List D
 |.tup ds=>ds
 |_=>[]
noncomputable def gX:D->Nat
 |.int i=>i.toNat
 |_=>0
theorem uZ {lo hi:Int}{d:D}(h:bC lo hi d=true)(h0:0<=lo):d=nD (gX d)/\lo<=(gX d:Int)/\(gX d:Int)<=hi:=by
 cases d with
 | int i =>
   simp [bC] at h
   refine ⟨?_,?_⟩
   ·show D.int i=D.int ((i.toNat:Nat):Int)
    rw [Int.toNat_of_nonneg (by omega)]
   ·show lo<=((i.toNat:Nat):Int)/\((i.toNat:Nat):Int)<=hi
    rw [Int.toNat_of_nonneg (by omega)]
    exact h
 |_=>cases h
noncomputable def iN:D->Bool
 |.tup [a,b,c]=>bC 2 4 a&&(bC 1 2 b&&(iC c&&(HF c).all (iS (gX a) (gX b))))
 |_=>false
theorem AM {d:D}(h:fO 3 d=false):iN d=false:=by
 match d,h with
 |.tup [a,b,c],h=>cases h
 |.tup [],_=>rfl
 |.tup [_],_=>rfl
 |.tup [_,_],_=>rfl
 |.tup (_::_::_::_::r),_=>rfl
 |.non,_=>rfl
 |.bl _,_=>rfl
 |.int _,_=>rfl
 |.str _,_=>rfl
 |.lst _,_=>rfl
 |.frz _,_=>rfl
 |.cell _,_=>rfl
 |.fn _,_=>rfl
 |.exc _ _,_=>rfl
structure IK (P:Nat->Option Df):Prop where
 is_between:P 0=some ⟨3,3,eX⟩
 is_word:P 1=some ⟨2,2,jI⟩
 is_place:P 2=some ⟨2,2,iV⟩
 is_cost:P 3=some ⟨1,1,jJ⟩
 is_tuple_of:P 4=some ⟨2,2,fJ⟩
 is_table:P 5=some ⟨2,2,iU⟩
 is_double_table:P 6=some ⟨2,2,dS⟩
 is_turn:P 7=some ⟨3,6,fW⟩
 is_join:P 8=some ⟨3,7,fY⟩
 is_move:P 9=some ⟨3,6,fX⟩
 is_put:P 10=some ⟨3,6,g8⟩
 is_deed:P 11=some ⟨3,5,fZ⟩
 is_machine:P 12=some ⟨1,4,eW⟩
theorem mM (f:D->Bool):∀ds:List D,boolsOf (ds.map fun d=>.bl (f d))=some (ds.map f)
 |[]=>rfl
 |d::r=>by simp [boolsOf,mM f r]
theorem all_eq {w:GW}{ge:GE}{Z:Env}{M:Mem}{ds:List D}(f:D->Bool)(hw:ag (w Z M) fun wk M'=>M'=M/\wk M=some ds)(hz:ds.length<=sz)(he:∀d∈ds,ge (some d::Z) M=.ok (.bl (f d)) M) :
 aR .all (ae (b7 false 1 (.one 0) w (bS ge)) ah) Z M=.ok (.bl (ds.all f)) M:=by
 refine aw ?_
 simp only [fG,bj,j8,cv]
 refine aO hw fun wk M' ⟨e1,e2⟩=>?_
 subst e1
 refine ir (fun d=>.bl (f d)) hz e2 (fun d hd=>⟨some d::Z,rfl,he d hd⟩) ?_
 simp only [cF,MQ,Fi]
 refine ⟨hz,_,mM f ds,?_,trivial⟩
 congr 1
 rw [List.all_map];rfl
theorem A3 {k L:Nat}{x:D}(hx:Th k L x){t:Ty}(h:((¬ ∃s,x=.str s)/\t=.str\/(¬ ∃s,x=.tup s)/\t=.tuple)):dF t x=some false:=by
 rcases h with ⟨h,rfl⟩|⟨h,rfl⟩<;>cases x<;>first|rfl|exact absurd ⟨_,rfl⟩ h|(cases k<;>exact hx.elim)
section
variable {P:Nat->Option Df}(h:IK P){M:Mem}{k L:Nat}{d:D}
include h
theorem jS (n:Nat)(hd:Th k L d)(lo hi:Int):ak P (n+1) 0 [d,.int lo,.int hi] M=.ok (.bl (bC lo hi d)) M:=by
 cases d with
 | int t =>
   refine aw (az h.is_between rfl ?_)
   simp [eX,dF,bC]
   by_cases h1:lo<=t<;>simp [h1]<;>omega
 |fn j=>cases k<;>exact hd.elim
 |exc y p=>cases k<;>exact hd.elim
 |_=>exact aw (az h.is_between rfl (cQ rfl))
theorem rK (n:Nat){w:Nat}(hd:Th k L d):ak P (n+2) 1 [nD w,d] M=.ok (.bl (bC 0 ((w:Int)-1) d)) M:=by
 refine aw (az h.is_word rfl ?_)
 simp [jI,jS h _ hd]
theorem fT (n:Nat){w:Nat}(hd:Th k L d):ak P (n+2) 2 [nD w,d] M=.ok (.bl (bC 0 ((w:Int)-1) d)) M:=by
 refine aw (az h.is_place rfl ?_)
 simp [iV,jS h _ hd]
theorem ku (n:Nat)(hd:Th k L d):ak P (n+2) 3 [d] M=.ok (.bl (bC 1 3 d)) M:=by
 refine aw (az h.is_cost rfl ?_)
 simp [jJ,jS h _ hd]
theorem lY (n:Nat){w:Nat}(hd:Th k L d):ak P (n+1) 4 [nD w,d] M=.ok (.bl (fO w d)) M:=by
 refine aw (az h.is_tuple_of rfl ?_)
 cases d with
 |fn j=>cases k<;>exact hd.elim
 |exc y p=>cases k<;>exact hd.elim
 | tup ds =>
   simp [fJ,dF,fO]
   by_cases e:ds.length=w
   ·simp [e]
   ·have:¬ ((ds.length:Int)=(w:Int)):=by omega
    simp [e,this]
 |_=>exact cQ rfl
theorem ug (n:Nat){w:Nat}(hd:Th k L d)(hL:L<=100):ak P (n+3) 5 [nD w,d] M=.ok (.bl (kr w d)) M:=by
 refine aw (az h.is_table rfl ?_)
 have e:=lY h (n+1) (w:=w) (M:=M) hd
 simp only [iU,aX,eD,qX,iq,bj,cv,cM,NQ,List.map_nil,List.cons_append,OR,OT,OU,Option.getD_some,Option.some.injEq,exists_eq_left']
 rw [e]
 refine ⟨_,rfl,?_⟩
 cases d with
 | tup ds =>
   have ht:=hd.tup
   by_cases el:ds.length=w
   ·have:fO w (.tup ds)=true:=by simp [fO,el]
    rw [this,if_pos rfl,all_eq (ds:=ds) (bC 0 ((w:Int)-1)) (by simp;exact ⟨rfl,rfl⟩) (aT (by omega)) (fun d hd=>aw (by simp [rK h n (ht.2 d hd)]))]
    exact ⟨by simp [kr,el],rfl⟩
   ·have:fO w (.tup ds)=false:=by simp [fO,el]
    rw [this,if_neg (by simp)]
    exact ⟨by simp [kr,el],rfl⟩
 |_=>exact ⟨rfl,rfl⟩
theorem zY (n:Nat){w:Nat}(hd:Th k L d)(hL:L<=100):ak P (n+4) 6 [nD w,d] M=.ok (.bl (ow w d)) M:=by
 refine aw (az h.is_double_table rfl ?_)
 have e:=lY h (n+2) (w:=w) (M:=M) hd
 simp only [dS,aX,eD,qX,iq,bj,cv,cM,NQ,List.map_nil,List.cons_append,OR,OT,OU,Option.getD_some,Option.some.injEq,exists_eq_left']
 rw [e]
 refine ⟨_,rfl,?_⟩
 cases d with
 | tup ds =>
   have ht:=hd.tup
   by_cases el:ds.length=w
   ·have:fO w (.tup ds)=true:=by simp [fO,el]
    rw [this,if_pos rfl,all_eq (ds:=ds) (kr w) (by simp;exact ⟨rfl,rfl⟩) (aT (by omega)) (fun d hd=>aw (by simp [ug h n (ht.2 d hd) hL]))]
    exact ⟨by simp [ow,el],rfl⟩
   ·have:fO w (.tup ds)=false:=by simp [fO,el]
    rw [this,if_neg (by simp)]
    exact ⟨by simp [ow,el],rfl⟩
 |_=>exact ⟨rfl,rfl⟩
omit h in
theorem oq {j c:Nat}{ds:List D}{Z:Env}(e:Z[j]?.getD none=some (.tup ds))(hc:ds.length≠c):(aC (aU .ne (aR .len (ae (aa j) ah)) (gC (.int (c:Int)))):GT) Z M=.ok true M:=by
 rw [Jz (iO e) rfl,NA.mpr (by omega)]
 rfl
theorem zQ (n:Nat){w p:Nat}{ds:List D}(hd:∀d∈ds,Th k L d)(hL:L<=100)(hl:ds.length<=100):ak P (n+4) 7 [nD w,nD p,.tup ds] M=.ok (.bl (qN w p ds)) M:=by
 refine aw (az h.is_turn rfl ?_)
 match ds,hd,hl with
 | [a, t, c], hd, _ =>
   show ag (fW (ak P (n+3)) [some (nD w),some (nD p),some (.tup [a,t,c]),none,none,none] M) _
   unfold fW
   refine bD rfl (cj rfl ?_)
   show ag _ _
   exact cZ (jt (iT rfl rfl (fT h (n+1) (hd a (.head _)))) fun _=>jt (iT rfl rfl (ug h n (hd t (.tail _ (.head _))) hL)) fun _=>qZ rfl (ku h (n+1) (hd c (.tail _ (.tail _ (.head _)))))) ⟨rfl,rfl⟩
 |[],_,_=>exact cQ rfl
 |[_],_,_=>exact cQ rfl
 |[_,_],_,_=>exact cQ rfl
 | a :: b :: c :: d :: r, _, _ =>
   show ag (fW (ak P (n+3)) [some (nD w),some (nD p),some (.tup (a::b::c::d::r)),none,none,none] M) _
   exact j3 (oq (c:=3) (ds:=a::b::c::d::r) rfl (fun z=>by simp at z)) rfl ⟨rfl,rfl⟩
theorem zX (n:Nat){w p:Nat}{ds:List D}(hd:∀d∈ds,Th k L d)(hL:L<=100)(hl:ds.length<=100):ak P (n+5) 8 [nD w,nD p,.tup ds] M=.ok (.bl (qU w p ds)) M:=by
 refine aw (az h.is_join rfl ?_)
 match ds,hd,hl with
 | [a, o, t, c], hd, _ =>
   show ag (fY (ak P (n+4)) [some (nD w),some (nD p),some (.tup [a,o,t,c]),none,none,none,none] M) _
   unfold fY
   refine bD rfl (cj rfl ?_)
   refine bX (B9 (jl (cf (iT rfl rfl (fT h (n+2) (hd a (.head _)))))) (jl (cf (iT rfl rfl (fT h (n+2) (hd o (.tail _ (.head _)))))))) (fun e=>?_) fun e=>?_
   ·refine cZ (v:=.bl false) rfl ⟨?_,rfl⟩
    show D.bl false=.bl (_&&(_&&_))
    cases q:bC 0 ((p:Int)-1) a with
    |false=>rfl
    | true =>
      rw [q] at e
      cases q2:bC 0 ((p:Int)-1) o with
      |false=>rfl
      |true=>rw [q2] at e;cases e
   ·refine cZ (jt (iT rfl rfl (zY h n (hd t (.tail _ (.tail _ (.head _)))) hL)) fun _=>qZ rfl (ku h (n+2) (hd c (.tail _ (.tail _ (.tail _ (.head _))))))) ⟨?_,rfl⟩
    show _=D.bl (bC 0 ((p:Int)-1) a&&(bC 0 ((p:Int)-1) o&&_))
    cases q:bC 0 ((p:Int)-1) a with
    |false=>rw [q] at e;cases e
    | true =>
      rw [q] at e
      cases q2:bC 0 ((p:Int)-1) o with
      |false=>rw [q2] at e;cases e
      |true=>rfl
 |[],_,_=>exact cQ rfl
 |[_],_,_=>exact cQ rfl
 |[_,_],_,_=>exact cQ rfl
 |[_,_,_],_,_=>exact cQ rfl
 | a :: b :: c :: d :: e :: r, _, _ =>
   show ag (fY (ak P (n+4)) [some (nD w),some (nD p),some (.tup (a::b::c::d::e::r)),none,none,none,none] M) _
   exact j3 (oq (c:=4) (ds:=a::b::c::d::e::r) rfl (fun z=>by simp at z)) rfl ⟨rfl,rfl⟩
theorem zV (n:Nat){w p:Nat}{ds:List D}(hd:∀d∈ds,Th k L d)(hL:L<=100)(hl:ds.length<=100):ak P (n+3) 9 [nD w,nD p,.tup ds] M=.ok (.bl (qQ w p ds)) M:=by
 refine aw (az h.is_move rfl ?_)
 match ds,hd,hl with
 | [a, t, c], hd, _ =>
   show ag (fX (ak P (n+2)) [some (nD w),some (nD p),some (.tup [a,t,c]),none,none,none] M) _
   unfold fX
   refine bD rfl (cj rfl ?_)
   show ag _ _
   exact cZ (jt (iT rfl rfl (fT h n (hd a (.head _)))) fun _=>jt (iT rfl rfl (fT h n (hd t (.tail _ (.head _))))) fun _=>qZ rfl (ku h n (hd c (.tail _ (.tail _ (.head _)))))) ⟨rfl,rfl⟩
 |[],_,_=>exact cQ rfl
 |[_],_,_=>exact cQ rfl
 |[_,_],_,_=>exact cQ rfl
 | a :: b :: c :: d :: r, _, _ =>
   show ag (fX (ak P (n+2)) [some (nD w),some (nD p),some (.tup (a::b::c::d::r)),none,none,none] M) _
   exact j3 (oq (c:=3) (ds:=a::b::c::d::r) rfl (fun z=>by simp at z)) rfl ⟨rfl,rfl⟩
theorem DG (n:Nat){w p:Nat}{ds:List D}(hd:∀d∈ds,Th k L d)(hL:L<=100)(hl:ds.length<=100):ak P (n+3) 10 [nD w,nD p,.tup ds] M=.ok (.bl (vq w p ds)) M:=by
 refine aw (az h.is_put rfl ?_)
 match ds,hd,hl with
 | [a, t, c], hd, _ =>
   show ag (g8 (ak P (n+2)) [some (nD w),some (nD p),some (.tup [a,t,c]),none,none,none] M) _
   unfold g8
   refine bD rfl (cj rfl ?_)
   show ag _ _
   exact cZ (jt (iT rfl rfl (fT h n (hd a (.head _)))) fun _=>jt (iT rfl rfl (rK h n (hd t (.tail _ (.head _))))) fun _=>qZ rfl (ku h n (hd c (.tail _ (.tail _ (.head _)))))) ⟨rfl,rfl⟩
 |[],_,_=>exact cQ rfl
 |[_],_,_=>exact cQ rfl
 |[_,_],_,_=>exact cQ rfl
 | a :: b :: c :: d :: r, _, _ =>
   show ag (g8 (ak P (n+2)) [some (nD w),some (nD p),some (.tup (a::b::c::d::r)),none,none,none] M) _
   exact j3 (oq (c:=3) (ds:=a::b::c::d::r) rfl (fun z=>by simp at z)) rfl ⟨rfl,rfl⟩
omit h in
theorem xU {w p:Nat}{ds:List D}:c9 w p "turn" ds=qN w p ds:=by unfold c9;rw [if_pos rfl]
omit h in
theorem xT {w p:Nat}{ds:List D}:c9 w p "join" ds=qU w p ds:=by unfold c9;rw [if_neg (by decide +kernel),if_pos rfl]
omit h in
theorem xS {w p:Nat}{ds:List D}:c9 w p "move" ds=qQ w p ds:=by unfold c9;rw [if_neg (by decide +kernel),if_neg (by decide +kernel),if_pos rfl]
omit h in
theorem xR {w p:Nat}{ds:List D}:c9 w p "put" ds=vq w p ds:=by unfold c9;rw [if_neg (by decide +kernel),if_neg (by decide +kernel),if_neg (by decide +kernel),if_pos rfl]
omit h in
theorem GR {w p:Nat}{ds:List D}{s:Str}(e1:¬ s="turn")(e2:¬ s="join")(e3:¬ s="move")(e4:¬ s="put"):c9 w p s ds=false:=by unfold c9;rw [if_neg e1,if_neg e2,if_neg e3,if_neg e4]
omit h in
theorem vk {s:Str}(e1:¬ s="turn")(e2:¬ s="join")(e3:¬ s="move")(e4:¬ s="put"):cq.lookup s=none:=by
 unfold cq
 simp only [List.lookup,NA.mpr e1,NA.mpr e2,NA.mpr e3,NA.mpr e4]
theorem mw (n:Nat){w p f:Nat}{s:Str}{ds:List D}{v:Bool}(lk:cq.lookup s=some f)(q:ak P (n+5) f [nD w,nD p,.tup ds] M=.ok (.bl v) M):ak P (n+6) 11 [nD w,nD p,.tup (.str s::ds)] M=.ok (.bl v) M:=by
 refine aw (az h.is_deed rfl ?_)
 simp [-List.lookup_isSome_iff,fZ,dF,bI,lk,fP,aJ,dn,cut,q]
theorem Bl (n:Nat){w p:Nat}{s:Str}{ds:List D}(lk:cq.lookup s=none):ak P (n+6) 11 [nD w,nD p,.tup (.str s::ds)] M=.ok (.bl false) M:=by
 refine aw (az h.is_deed rfl ?_)
 have e:(cq.lookup s).isSome=false:=by rw [lk];rfl
 simp [-List.lookup_isSome_iff,-List.lookup_eq_none_iff,-Option.isSome_eq_false_iff,fZ,dF,bI,e]
 exact lk
theorem Aa (n:Nat){w p:Nat}(hd:Th k L d)(hL:L<=100):ak P (n+6) 11 [nD w,nD p,d] M=.ok (.bl (iS w p d)) M:=by
 cases d with
 |fn j=>cases k<;>exact hd.elim
 |exc y p=>cases k<;>exact hd.elim
 | tup xs =>
   have ht:=hd.tup
   cases xs with
   |nil=>exact aw (az h.is_deed rfl (cQ rfl))
   | cons x ds =>
     have hx:=ht.2 x Ni
     have hds:∀d∈ds,Th k L d:=fun d hd=>ht.2 d (MV _ hd)
     have hl:ds.length<=100:=by have:=ht.1;simp at this;omega
     by_cases hs:∃s,x=.str s
     ·obtain ⟨s,rfl⟩:=hs
      show _=Res.ok (D.bl (c9 w p s ds)) M
      by_cases e1:s="turn"
      ·subst e1
       rw [xU];exact mw h n Ls (zQ h (n+1) hds hL hl)
      by_cases e2:s="join"
      ·subst e2
       rw [xT];exact mw h n Lr (zX h n hds hL hl)
      by_cases e3:s="move"
      ·subst e3
       rw [xS];exact mw h n Lq (zV h (n+2) hds hL hl)
      by_cases e4:s="put"
      ·subst e4
       rw [xR];exact mw h n Lp (DG h (n+2) hds hL hl)
      rw [GR e1 e2 e3 e4]
      exact Bl h n (vk e1 e2 e3 e4)
     ·have e1:iS w p (.tup (x::ds))=false:=by cases x<;>first|rfl|exact absurd ⟨_,rfl⟩ hs
      have e2:=A3 hx (t:=.str) (.inl ⟨hs,rfl⟩)
      rw [e1]
      refine aw (az h.is_deed rfl ?_)
      have e3:dF .tuple (.tup (x::ds))=some true:=rfl
      simp [fZ,bI,e2,e3]
 |_=>exact aw (az h.is_deed rfl (cQ rfl))
theorem AN (n:Nat)(hd:Th k L d)(hn:fO 3 d=false):ak P (n+7) 12 [d] M=.ok (.bl false) M:=by
 refine aw (az h.is_machine rfl ?_)
 have e:ak P (n+6) 4 [.int 3,d] M=.ok (.bl (fO 3 d)) M:=lY h (n+5) (w:=3) (M:=M) hd
 rw [hn] at e
 simp [eW,e]
theorem JA (n:Nat){a b c:D}(hd:Th k L (.tup [a,b,c]))(hL:L<=100):ak P (n+7) 12 [.tup [a,b,c]] M=.ok (.bl (iN (.tup [a,b,c]))) M:=by
 refine aw (az h.is_machine rfl ?_)
 have ht:=hd.tup.2
 simp only [Np,Ov,or_false,forall_eq_or_imp,forall_eq] at ht
 have e:ak P (n+6) 4 [.int 3,.tup [a,b,c]] M=.ok (.bl true) M:=lY h (n+5) (w:=3) (M:=M) hd
 have b1:=jS h (n+5) (M:=M) ht.1 2 4
 have b2:=jS h (n+5) (M:=M) ht.2.1 1 2
 simp only [eW,aX,xE,eD,d7,zH,gm,nM,hG,zL,F2,fV,iq,bj,cv,cM,HS,NQ,List.map_nil,List.cons_append,OR,OT,OU,Option.getD_some,Option.some.injEq,exists_eq_left']
 rw [e]
 refine ⟨_,rfl,?_⟩
 rw [if_neg (by simp)]
 refine ⟨_,_,rfl,rfl,_,rfl,?_⟩
 rw [b1]
 refine ⟨_,rfl,?_⟩
 by_cases c1:bC 2 4 a=false
 ·rw [c1,if_pos (by decide),if_pos trivial]
  exact ⟨by simp [iN,c1],rfl⟩
 have c1:bC 2 4 a=true:=by simpa using c1
 rw [c1,if_neg (by simp)]
 refine ⟨_,rfl,?_⟩
 rw [b2]
 refine ⟨_,rfl,?_⟩
 by_cases c2:bC 1 2 b=false
 ·rw [c2,if_pos (by decide)]
  exact ⟨by simp [iN,c2],rfl⟩
 have c2:bC 1 2 b=true:=by simpa using c2
 rw [c2,if_neg (by simp)]
 refine ⟨_,rfl,?_⟩
 obtain ⟨ea,_,_⟩:=uZ c1 (by decide)
 obtain ⟨eb,_,_⟩:=uZ c2 (by decide)
 cases c with
 |fn j=>exact absurd ht.2.2 (by cases k<;>exact id)
 |exc y p=>exact absurd ht.2.2 (by cases k<;>exact id)
 | tup ds =>
   have hc:=ht.2.2.tup
   refine ⟨true,rfl,true,rfl,?_⟩
   rw [if_neg (by simp)]
   simp only [JO,fV]
   refine fG.mpr (bj.mpr (cM.mpr ⟨_,rfl,cv.mpr (EE.mpr ⟨_,rfl,?_⟩)⟩))
   by_cases l1:(1:Int)<=(ds.length:Int)
   ·rw [decide_eq_true l1,if_pos (by decide)]
    refine ⟨_,rfl,_,rfl,?_⟩
    by_cases l6:(ds.length:Int)<=6
    ·rw [decide_eq_true l6,if_neg (by simp)]
     have lb:iC (.tup ds)=true:=by simp [iC];omega
     rw [all_eq (ds:=ds) (iS (gX a) (gX b)) (by simp;exact ⟨rfl,rfl⟩) (aT (by omega)) (fun d hd=>aw (by
      have q:=Aa h n (w:=gX a) (p:=gX b) (M:=M) (hc.2 d hd) hL
      rw [<- ea,<- eb] at q
      simp [q]))]
     refine ⟨?_,rfl⟩
     show D.bl (ds.all (iS (gX a) (gX b)))=D.bl (bC 2 4 a&&(bC 1 2 b&&(iC (.tup ds)&&ds.all (iS (gX a) (gX b)))))
     rw [c1,c2,lb];simp
    ·rw [decide_eq_false l6,if_pos (by decide)]
     refine ⟨?_,rfl⟩
     have lb:iC (.tup ds)=false:=by simp [iC];omega
     simp [iN,lb]
   ·rw [decide_eq_false l1,if_neg (by simp)]
    refine ⟨_,rfl,?_⟩
    rw [if_pos (by decide)]
    refine ⟨?_,rfl⟩
    have lb:iC (.tup ds)=false:=by simp [iC];omega
    simp [iN,lb]
 | _ =>
   refine ⟨false,rfl,false,rfl,?_⟩
   rw [if_pos (by decide)]
   exact ⟨by simp [iN,iC],rfl⟩
theorem zW (n:Nat)(hd:Th k L d)(hL:L<=100):ak P (n+7) 12 [d] M=.ok (.bl (iN d)) M:=by
 by_cases hn:fO 3 d=false
 ·rw [AN h n hd hn,AM hn]
 ·match d,hd,hn with
  |.tup [a,b,c],hd,_=>exact JA h n hd hL
  |.tup [],_,hn=>exact absurd rfl hn
  |.tup [_],_,hn=>exact absurd rfl hn
  |.tup [_,_],_,hn=>exact absurd rfl hn
  |.tup (_::_::_::_::r),_,hn=>exact absurd (by simp [fO]) hn
  |.non,_,hn=>exact absurd rfl hn
  |.bl _,_,hn=>exact absurd rfl hn
  |.int _,_,hn=>exact absurd rfl hn
  |.str _,_,hn=>exact absurd rfl hn
  |.lst _,_,hn=>exact absurd rfl hn
  |.frz _,_,hn=>exact absurd rfl hn
  |.cell _,_,hn=>exact absurd rfl hn
  |.fn _,_,hn=>exact absurd rfl hn
  |.exc _ _,_,hn=>exact absurd rfl hn
omit h in
theorem c6 {lo hi:Int}{n:Nat}(h1:lo<=(n:Int))(h2:(n:Int)<=hi):bC lo hi (nD n)=true:=by simp [bC];omega
omit h in
theorem rD {w:Nat}{t:List Nat}(ht:i5 w t):kr w (aH t)=true:=by
 have e:(t.map nD).all (bC 0 ((w:Int)-1))=true:=by
  rw [MX]
  intro x hx
  obtain ⟨i,hi,rfl⟩:=NB.mp hx
  have:=ht.2 i hi
  exact c6 (by omega) (by omega)
 show ((t.map nD).length==w&&(t.map nD).all (bC 0 ((w:Int)-1)))=true
 rw [e,MQ,ht.1];simp
omit h in
theorem yM {w p:Nat}{d:aW}(hd:bY w p d):iS w p d.d=true:=by
 cases d with
 | turn a t c =>
   obtain ⟨h1,h2,h3⟩:=hd
   unfold fb at h3
   show c9 w p "turn" _=true
   rw [xU]
   simp only [qN]
   rw [c6 (by omega) (by omega),rD h2,c6 (by omega) (by omega)];rfl
 | join a o t c =>
   obtain ⟨h1,h2,h3,h4⟩:=hd
   unfold fb at h4
   show c9 w p "join" _=true
   rw [xT]
   simp only [qU]
   have e:ow w (.tup (t.map aH))=true:=by
    have e:(t.map aH).all (kr w)=true:=by
     rw [MX]
     intro x hx
     obtain ⟨i,hi,rfl⟩:=NB.mp hx
     exact rD (h3.2 i hi)
    show ((t.map aH).length==w&&(t.map aH).all (kr w))=true
    rw [e,MQ,h3.1];simp
   rw [c6 (by omega) (by omega),c6 (by omega) (by omega),e,c6 (by omega) (by omega)];rfl
 | move a o c =>
   obtain ⟨h1,h2,h3⟩:=hd
   unfold fb at h3
   show c9 w p "move" _=true
   rw [xS]
   simp only [qQ]
   rw [c6 (by omega) (by omega),c6 (by omega) (by omega),c6 (by omega) (by omega)];rfl
 | put a o c =>
   obtain ⟨h1,h2,h3⟩:=hd
   unfold fb at h3
   show c9 w p "put" _=true
   rw [xR]
   simp only [vq]
   rw [c6 (by omega) (by omega),c6 (by omega) (by omega),c6 (by omega) (by omega)];rfl
omit h in
theorem ym {m:aV}(hm:a9 m):iN m.d=true:=by
 have w2:=hm.w2
 have w4:=hm.w4
 have p1:=hm.p1
 have p2:=hm.p2
 have l1:=hm.d1
 have l6:=hm.d6
 have e:(m.deeds.map aW.d).all (iS m.words m.places)=true:=by
  rw [MX]
  intro x hx
  obtain ⟨i,hi,rfl⟩:=NB.mp hx
  exact yM (hm.ok i hi)
 have e2:iC (.tup (m.deeds.map aW.d))=true:=by simp [iC];omega
 show (bC 2 4 (nD m.words)&&(bC 1 2 (nD m.places)&&(iC (.tup (m.deeds.map aW.d))&&(m.deeds.map aW.d).all (iS m.words m.places))))=true
 rw [c6 (by omega) (by omega),c6 (by omega) (by omega),e,e2];rfl
end
end LD
namespace LD
open PySem
noncomputable def ua:Nat->Nat->D->Bool
 |_,_,.non=>true
 |_,_,.bl _=>true
 |_,_,.int _=>true
 |_,L,.str x=>decide (x.cps.size<=L)&&x.cps.all (· < 0x110000)
 |n+1,L,.tup ds=>decide (ds.length<=L)&&ds.all (ua n L)
 |n+1,L,.lst ds=>decide (ds.length<=L)&&ds.all (ua n L)
 |_,_,_=>false
theorem rC:∀{n L:Nat}{d:D},ua n L d=true->Th n L d
 |n,L,.non,_=>by cases n<;>trivial
 |n,L,.bl _,_=>by cases n<;>trivial
 |n,L,.int _,_=>by cases n<;>trivial
 | n, L, .str x, h => by
   have q:(decide (x.cps.size<=L)&&x.cps.all (· < 0x110000))=true:=by cases n<;>exact h
   simp only [MM,decide_eq_true_eq] at q
   have q:x.cps.size<=L/\x.cps.all (· < 0x110000)=true:=q
   cases n<;>exact q
 | n + 1, L, .tup ds, h => by
   have h:(decide (ds.length<=L)&&ds.all (ua n L))=true:=h
   simp only [MM,decide_eq_true_eq] at h
   exact ⟨h.1,fun d hd=>rC (MX.mp h.2 d hd)⟩
 | n + 1, L, .lst ds, h => by
   have h:(decide (ds.length<=L)&&ds.all (ua n L))=true:=h
   simp only [MM,decide_eq_true_eq] at h
   exact ⟨h.1,fun d hd=>rC (MX.mp h.2 d hd)⟩
 |0,L,.tup ds,h=>by cases h
 |0,L,.lst ds,h=>by cases h
 |n,L,.frz _,h=>by cases n<;>cases h
 |n,L,.cell _,h=>by cases n<;>cases h
 |n,L,.fn _,h=>by cases n<;>cases h
 |n,L,.exc _ _,h=>by cases n<;>cases h
theorem xg {w:Nat}{t:List Nat}(h:i5 w t)(w4:w<=4):Th 2 6 (aH t):=by
 refine ⟨by have:=h.1;simp;omega,fun d hd=>?_⟩
 obtain ⟨i,_,rfl⟩:=NB.mp hd
 trivial
theorem qP {n:Nat}{z:Str}(h:ua 0 6 (.str z)=true):Th n 6 (.str z):=(rC h).mono (Nat.zero_le n) (MN 6)
theorem gA {n:Nat}{i:Int}:Th n 6 (.int i):=by cases n<;>trivial
theorem E5 {w p:Nat}{d:aW}(h:bY w p d)(w4:w<=4):Th 4 6 d.d:=by
 cases d with
 | turn a t c =>
   refine ⟨by simp,fun x hx=>?_⟩
   simp only [Np,Ov,or_false] at hx
   rcases hx with rfl|rfl|rfl|rfl
   ·exact qP (by decide +kernel)
   ·exact gA
   ·exact (xg h.2.1 w4).mono (by decide) (by decide)
   ·exact gA
 | join a o t c =>
   refine ⟨by simp,fun x hx=>?_⟩
   simp only [Np,Ov,or_false] at hx
   rcases hx with rfl|rfl|rfl|rfl|rfl
   ·exact qP (by decide +kernel)
   ·exact gA
   ·exact gA
   ·refine ⟨by have:=h.2.2.1.1;simp;omega,fun y hy=>?_⟩
    obtain ⟨z,hz,rfl⟩:=NB.mp hy
    exact xg (h.2.2.1.2 z hz) w4
   ·exact gA
 | move a o c =>
   refine ⟨by simp,fun x hx=>?_⟩
   simp only [Np,Ov,or_false] at hx
   rcases hx with rfl|rfl|rfl|rfl
   ·exact qP (by decide +kernel)
   all_goals exact gA
 | put a o c =>
   refine ⟨by simp,fun x hx=>?_⟩
   simp only [Np,Ov,or_false] at hx
   rcases hx with rfl|rfl|rfl|rfl
   ·exact qP (by decide +kernel)
   all_goals exact gA
theorem ED {m:aV}(h:a9 m):Th 6 6 m.d:=by
 refine ⟨by simp,fun x hx=>?_⟩
 simp only [Np,Ov,or_false] at hx
 rcases hx with rfl|rfl|rfl
 ·exact gA
 ·exact gA
 ·refine ⟨by have:=h.d6;simpa using this,fun y hy=>?_⟩
  obtain ⟨z,hz,rfl⟩:=NB.mp hy
  exact E5 (h.ok z hz) h.w4
theorem HasM0.q {P:Nat->Option Df}(h:HasM0 P):IK P:=⟨h.is_between,h.is_word,h.is_place,h.is_cost,h.is_tuple_of,h.is_table,h.is_double_table,h.is_turn,h.is_join,h.is_move,h.is_put,h.is_deed,h.is_machine⟩
end LD
namespace LD
open PySem
structure Sub (M M':Mem):Prop where
 len:M.length<=M'.length
 at':∀k,k<M.length->M'[k]?=M[k]?
theorem Sub.trans {M M1 M2:Mem}(a:Sub M M1)(b:Sub M1 M2):Sub M M2:=⟨MR a.len b.len,fun k hk=>(b.at' k (M9 hk a.len)).trans (a.at' k hk)⟩
theorem Sub.app {M X:Mem}:Sub M (M++X):=⟨by simp,fun k hk=>Nh hk⟩
theorem Sub.get {k:Nat}{M M':Mem}{ds:List D}(h:Sub M M')(e:M[k]?=some ds):M'[k]?=some ds:=by rw [h.at' k (MH.mp e).1];exact e
theorem Sub.setq {M M':Mem}{q:Nat}{ds:List D}(h:Sub M M')(hq:M.length<=q):Sub M (M'.set q ds):=⟨by simpa using h.len,fun k hk=>by rw [MW (by omega)];exact h.at' k hk⟩
theorem wd {tg:cy}{w:Walk}{ge:GE}{ds:List D}{ρ0:Env}{M:Mem}{acc0:List D}{kl:List D->Mem->Prop}(f:D->D)(hz:acc0.length+ds.length<=sz)(hw:w M=some ds)(hs:∀d∈ds,∃ρ1,bN tg d ρ0=some ρ1/\ge ρ1 M=.ok (f d) M)(hk:kl (acc0++ds.map f) M) :
 ag (dj (dw tg (bS ge) ρ0) w acc0 M) kl:=by
 refine jb (ds:=ds) (fun i acc M'=>M'=M/\acc=acc0++(ds.take i).map f) (fun i acc M' h=>by rw [h.1];exact hw) ⟨rfl,by simp⟩ ?_ ?_
 ·rintro i d acc M' hd ⟨rfl,rfl⟩
  obtain ⟨ρ1,e1,e2⟩:=hs d (N1 hd)
  have hi:i<ds.length:=(MH.mp hd).1
  simp only [dw,bo,jj,e1,CS]
  refine ⟨ρ1,rfl,?_⟩
  rw [e2]
  refine ⟨by simp;omega,rfl,?_⟩
  rw [Ou,hd]
  simp
 ·rintro acc M' ⟨rfl,rfl⟩
  simpa using hk
theorem pj {α β:Type}(f:α->List β)(n:Nat):∀(ds:List α),(∀d∈ds,(f d).length<=n)->(ds.flatMap f).length<=ds.length*n
 |[],_=>by simp
 | d :: r, h => by
   have h1:=h d Ni
   have h2:=pj f n r fun d hd=>h d (MV _ hd)
   simp only [List.flatMap_cons,NG,ND,Nat.succ_mul]
   omega
theorem we {t u:cy}{w:Walk}{gw2:GW}{ge:GE}{ds:List D}{ρ0:Env}{M:Mem}{kl:List D->Mem->Prop}(its:D->List D)(f:D->D->D)(n:Nat)(hn:∀d∈ds,(its d).length<=n)(hz:ds.length*n<=sz)(hw:w M=some ds)
 (hs:∀d∈ds,∃ρ1,bN t d ρ0=some ρ1/\∃w2,gw2 ρ1 M=.ok w2 M/\w2 M=some (its d)/\∀e∈its d,∃ρ2,bN u e ρ1=some ρ2/\ge ρ2 M=.ok (f d e) M) (hk:kl (ds.flatMap fun d=>(its d).map (f d)) M) :
 ag (dj (dw t (sP u gw2 (bS ge)) ρ0) w [] M) kl:=by
 refine jb (ds:=ds) (fun i acc M'=>M'=M/\acc=(ds.take i).flatMap fun d=>(its d).map (f d)) (fun i acc M' h=>by rw [h.1];exact hw) ⟨rfl,by simp⟩ ?_ ?_
 ·rintro i d acc M' hd ⟨rfl,rfl⟩
  obtain ⟨ρ1,e1,w2,e2,e3,e4⟩:=hs d (N1 hd)
  have hi:i<ds.length:=(MH.mp hd).1
  simp only [dw,bo,jj,e1,sP]
  refine ⟨ρ1,rfl,?_⟩
  rw [e2]
  show ag (dj (dw u (bS ge) ρ1) w2 _ M') _
  have e5:(ds.take (i+1)).flatMap (fun d=>(its d).map (f d))=(ds.take i).flatMap (fun d=>(its d).map (f d))++(its d).map (f d):=by
   rw [Ou,hd];simp
  have l1:=pj (fun d=>(its d).map (f d)) n (ds.take (i+1)) (fun d hd=>by simpa using hn d (NT hd))
  rw [e5] at l1
  simp only [NG,MQ,N8] at l1
  refine wd (f d) ?_ e3 e4 ⟨rfl,e5.symm⟩
  have:(min (i+1) ds.length)*n<=ds.length*n:=Nat.mul_le_mul_right _ (Nat.min_le_right _ _)
  omega
 ·rintro acc M' ⟨rfl,rfl⟩
  simpa using hk
noncomputable def v7 (w:Nat)(l:List (List Nat)):List (List Nat):=l.flatMap fun s=>(List.range w).map fun x=>s++[x]
noncomputable def dR (w:Nat):Nat->List (List Nat)
 |0=>[[]]
 |p+1=>v7 w (dR w p)
noncomputable def bL (m:aV):List (List Nat):=dR m.words m.places
noncomputable def iH (m:aV)(s:List Nat):Prop:=s.length=m.places/\∀x∈s,x<m.words
theorem tG {w p:Nat}:∀s∈dR w p,s.length=p/\∀x∈s,x<w:=by
 induction p with
 |zero=>intro s hs;simp [dR] at hs;subst hs;simp
 | succ p ih =>
   intro s hs
   simp only [dR,v7,List.mem_flatMap,List.mem_map,List.mem_range] at hs
   obtain ⟨t,ht,x,hx,rfl⟩:=hs
   obtain ⟨h1,h2⟩:=ih t ht
   refine ⟨by simp [h1],fun y hy=>?_⟩
   rcases NC.mp hy with z|z
   ·exact h2 y z
   ·simp at z;omega
theorem pB {m:aV}:∀s∈bL m,iH m s:=tG
theorem jH {w:Nat}(hw:w<=4):∀p≤2,(dR w p).length<=4^p
 |0,_=>by simp [dR]
 | p + 1, hp => by
   have:=jH hw p (by omega)
   have l:=pj (fun s:List Nat=>(List.range w).map fun x=>s++[x]) 4 (dR w p) (fun d hd=>by simpa using hw)
   simp only [dR,v7]
   calc _<=(dR w p).length*4:=l
    _<=4^p*4:=Nat.mul_le_mul_right _ this
    _=4^(p+1):=by rw [Nat.pow_succ]
theorem tD {m:aV}(hm:a9 m):(bL m).length<=16:=by
 have h:=jH hm.w4 m.places hm.p2
 have h1:=hm.p1
 have h2:=hm.p2
 have:m.places=1\/m.places=2:=by omega
 rcases this with e|e<;>rw [e] at h<;>unfold bL<;>rw [e]<;>omega
noncomputable def dZ:aW->List Nat->Nat
 |.turn a t _,s=>t.getD (s.getD a 0) 0
 |.join a o t _,s=>(t.getD (s.getD a 0) []).getD (s.getD o 0) 0
 |.move _ o _,s=>s.getD o 0
 |.put _ x _,_=>x
noncomputable def aW.at':aW->Nat
 |.turn a _ _=>a
 |.join a _ _ _=>a
 |.move a _ _=>a
 |.put a _ _=>a
noncomputable def gE (d:aW)(s:List Nat):List Nat:=s.take d.at'++[dZ d s]++s.drop (d.at'+1)
theorem getD_mem {α:Type}{l:List α}{i:Nat}{d:α}(h:i<l.length):l.getD i d∈l:=by
 rw [NU,Nc h];exact Ox h
theorem vE {m:aV}{d:aW}{s:List Nat}(hd:bY m.words m.places d)(hs:iH m s):dZ d s<m.words:=by
 obtain ⟨hl,hx⟩:=hs
 cases d with
 | turn a t c =>
   obtain ⟨h1,h2,h3⟩:=hd
   have:=hx _ (getD_mem (d:=0) (show a<s.length by omega))
   exact h2.2 _ (getD_mem (by rw [h2.1];exact this))
 | join a o t c =>
   obtain ⟨h1,h2,h3,h4⟩:=hd
   have a1:=hx _ (getD_mem (d:=0) (show a<s.length by omega))
   have a2:=hx _ (getD_mem (d:=0) (show o<s.length by omega))
   have a3:=h3.2 _ (getD_mem (d:=[]) (show s.getD a 0<t.length by rw [h3.1];exact a1))
   exact a3.2 _ (getD_mem (by rw [a3.1];exact a2))
 |move a o c=>exact hx _ (getD_mem (by obtain ⟨h1,h2,h3⟩:=hd;omega))
 |put a x c=>exact hd.2.1
theorem CT {w p:Nat}{d:aW}(hd:bY w p d):d.at'<p:=by cases d<;>exact hd.1
theorem yL {m:aV}{d:aW}{s:List Nat}(hd:bY m.words m.places d)(hs:iH m s):iH m (gE d s):=by
 have h1:=CT hd
 have h2:=vE hd hs
 obtain ⟨hl,hx⟩:=hs
 refine ⟨by simp [gE];omega,fun x hm=>?_⟩
 simp only [gE,List.mem_append,List.mem_singleton] at hm
 rcases hm with (z|z)|z
 ·exact hx x (NT z)
 ·omega
 ·exact hx x (OH z)
noncomputable def a7 (m:aV)(r:List Nat):Prop:=r.length<=40/\∀i∈r,i<m.deeds.length
noncomputable def eJ (m:aV)(i:Nat):aW:=m.deeds.getD i (.put 0 0 1)
noncomputable def cK (m:aV):List Nat->List Nat->List Nat
 |[],s=>s
 |i::r,s=>cK m r (gE (eJ m i) s)
noncomputable def cP (m:aV):List Nat->List Nat->List (List Nat)
 |[],s=>[s]
 |i::r,s=>s::cP m r (gE (eJ m i) s)
theorem nK {m:aV}(hm:a9 m){i:Nat}(hi:i<m.deeds.length):bY m.words m.places (eJ m i):=hm.ok _ (getD_mem hi)
theorem pq {m:aV}(hm:a9 m):∀{r:List Nat}{s:List Nat},(∀i∈r,i<m.deeds.length)->iH m s->iH m (cK m r s)
 |[],s,_,h=>h
 |i::r,s,hr,h=>pq (r:=r) hm (fun j hj=>hr j (MV _ hj)) (yL (nK hm (hr i Ni)) h)
theorem pX {m:aV}:∀(r:List Nat) (i:Nat) (s:List Nat),cP m (r++[i]) s=cP m r s++[gE (eJ m i) (cK m r s)]
 |[],i,s=>rfl
 |j::r,i,s=>by simp [cP,cK,pX r i]
theorem mZ {m:aV}:∀(r s:List Nat),(cP m r s).length=r.length+1
 |[],s=>rfl
 |i::r,s=>by simp [cP,mZ r]
theorem pY {m:aV}:∀(r s:List Nat),(cP m r s)[r.length]?=some (cK m r s)
 |[],s=>rfl
 |i::r,s=>by simp [cP,cK,pY r]
theorem mH {m:aV}(r s:List Nat):((bI (cP m r s).length (-1)).bind fun j=>Option.map aH (cP m r s)[j]?)=some (aH (cK m r s)):=by
 rw [mZ,EG (by omega)]
 show Option.map aH (cP m r s)[r.length+1-1]?=_
 rw [Nat.add_sub_cancel,pY]
 rfl
theorem zK {s:List Nat}{i:Nat}(hi:i<s.length):(bI (s.map nD).length (i:Int)).bind (fun j=>(s.map nD)[j]?)=some (nD (s.getD i 0)):=by
 rw [fE (by simpa using hi)]
 simp [NU,hi]
noncomputable def av (r:List Nat):D:=.lst (r.map nD)
noncomputable def fH (m:aV)(r:List Nat):Nat:=(r.map fun i=>(eJ m i).cost).sum
theorem AO {m:aV}{i:Nat}(hi:i<m.deeds.length):((bI (m.deeds.map aW.d).length (i:Int)).bind fun j=>(m.deeds.map aW.d)[j]?)=some (eJ m i).d:=by
 rw [fE (by simpa using hi)]
 simp [eJ,NU,hi]
theorem Cf {m:aV}{M:Mem}:cH m.d (.int 2) M=some (.tup (m.deeds.map aW.d)):=rfl
theorem sO {m:aV}{M:Mem}{i:Nat}(hi:i<m.deeds.length):cH (.tup (m.deeds.map aW.d)) (nD i) M=some (eJ m i).d:=AO hi
theorem qm {d:aW}{M:Mem}:cH d.d (.int (-1)) M=some (nD d.cost):=by cases d<;>rfl
theorem j5 {s:List Nat}{M:Mem}{i:Nat}(hi:i<s.length):cH (aH s) (nD i) M=some (nD (s.getD i 0)):=zK hi
theorem HJ {t:List (List Nat)}{M:Mem}{i:Nat}(hi:i<t.length):cH (.tup (t.map aH)) (nD i) M=some (aH (t.getD i [])):=by
 show (bI (t.map aH).length (i:Int)).bind (fun j=>(t.map aH)[j]?)=_
 rw [fE (by simpa using hi)]
 simp [NU,hi]
noncomputable def bq (M:Mem)(x:D)(r:List Nat):Prop:=x=.lst (r.map nD)\/∃q,x=.cell q/\M[q]?=some (r.map nD)
theorem bq.l {M:Mem}{r:List Nat}:bq M (.lst (r.map nD)) r:=.inl rfl
theorem bq.c {M:Mem}{q:Nat}{r:List Nat}(h:M[q]?=some (r.map nD)):bq M (.cell q) r:=.inr ⟨q,rfl,h⟩
theorem bq.sub {M M':Mem}{x:D}{r:List Nat}(h:bq M x r)(s:Sub M M'):bq M' x r:=h.elim .inl fun ⟨q,e,g⟩=>.inr ⟨q,e,s.get g⟩
theorem bq.seq {M:Mem}{x:D}{r:List Nat}(h:bq M x r):bG M x=some (r.map nD):=by
 rcases h with rfl|⟨q,rfl,e⟩
 ·rfl
 ·exact e
theorem bq.is {M:Mem}{x:D}{r:List Nat}(h:bq M x r):cX x=true/\dO x=true/\dF .list x=some true:=by
 rcases h with rfl|⟨q,rfl,e⟩<;>exact ⟨rfl,rfl,rfl⟩
theorem bq.len {M:Mem}{x:D}{r:List Nat}{k:D->Mem->Prop}(h:bq M x r):ag (dA .len [x] M) k↔k (.int r.length) M:=by
 rcases h with rfl|⟨q,rfl,e⟩
 ·show k (.int (r.map nD).length) M↔_
  simp
 ·show ag (match M[q]? with|some xs=>_|none=>_) k↔_
  rw [e];simp
theorem bq.list {M:Mem}{x:D}{r:List Nat}{m:Bool}{k:D->Mem->Prop}(h:bq M x r):ag (dA (.list m) [x] M) k↔ag (bf m (r.map nD) M) k:=by
 rcases h with rfl|⟨q,rfl,e⟩
 ·exact NS
 ·show ag (match M[q]? with|some xs=>_|none=>_) k↔_
  rw [e]
theorem bq.non {M:Mem}{x:D}{r:List Nat}(h:bq M x r):iP x=false:=by
 rcases h with rfl|⟨q,rfl,e⟩<;>rfl
theorem bq.vw {M:Mem}{x:D}{r:List Nat}(h:bq M x r):view M x=.lst (r.map nD):=by
 rcases h with rfl|⟨q,rfl,e⟩
 ·rfl
 ·simp [view,e]
theorem sN (f:Nat->Nat):∀(r:List Nat),∃bs,intsOf (r.map fun i=>nD (f i))=some bs/\bs.sum=(((r.map f).sum:Nat):Int)
 |[]=>⟨[],rfl,rfl⟩
 | i :: r => by
   obtain ⟨bs,e1,e2⟩:=sN f r
   exact ⟨(f i:Int)::bs,by simp [intsOf,e1],by simp [e2]⟩
section
variable {P:Nat->Option Df}(h:HasM0 P){M:Mem}
include h
theorem rP (n:Nat){m:aV}(hm:a9 m):ak P (n+8) 13 [m.d] M=.ok .non M:=by
 refine aw (az h.need_machine rfl ?_)
 simp [g7,zW h.q n (ED hm) (by decide),ym hm]
theorem uq (h15:P 15=some ⟨1,6,cS⟩)(n:Nat){m:aV}(hm:a9 m):ak P (n+9) 15 [m.d] M=.ok (.lst ((bL m).map aH)) M:=by
 refine aw (az h15 rfl ?_)
 have w4:=hm.w4
 have p2:=hm.p2
 simp [cS,rP h n hm]
 simp [aV.d,eQ]
 refine ⟨by decide,by omega,?_⟩
 refine eK (ds:=(List.range m.places).map fun (k:Nat)=>D.int (k:Int)) (fun i Z M'=>M'=M/\∃a,Z=[some m.d,some (nD m.words),some (nD m.places),some (.tup (m.deeds.map aW.d)),some (.lst ((dR m.words i).map aH)),a]) (fun _ _ _ _=>rfl) ⟨rfl,none,by simp [aV.d,dR,aH]⟩ ?_ ?_
 ·rintro i d Z M' hd ⟨rfl,a,rfl⟩
  have hi:i<m.places:=by
   have:=(MH.mp hd).1
   simpa using this
  refine ⟨_,rfl,?_⟩
  simp [cX]
  refine we (ds:=(dR m.words i).map aH) (fun _=>(List.range m.words).map fun (k:Nat)=>D.int (k:Int)) (fun d e=>match d,e with|.tup x,e=>.tup (x++[e])|_,_=>.non) 4 (by simpa using fun _ _=>w4) ?_ rfl ?_ ?_
  ·have:=jH w4 i (by omega)
   have:(4:Nat)^i<=4^2:=Nat.pow_le_pow_right (by decide) (by omega)
   simp only [MQ]
   exact aT (by omega)
  ·intro d hd
   obtain ⟨s,hs,rfl⟩:=NB.mp hd
   have ⟨l1,_⟩:=tG s hs
   refine ⟨_,rfl,(fun _=>some ((List.range m.words).map fun (k:Nat)=>D.int (k:Int))),lL ?_,rfl,fun e he=>⟨_,rfl,aw ?_⟩⟩
   ·simp
    omega
   ·simp [aH,sz]
    omega
  ·have e0:((dR m.words i).map aH).flatMap (fun d=>((List.range m.words).map fun (k:Nat)=>D.int (k:Int)).map (fun e=>match d,e with|.tup x,e=>D.tup (x++[e])|_,_=>.non))=(dR m.words (i+1)).map aH:=by
    simp only [dR,v7,List.flatMap_map,List.map_flatMap,List.map_map]
    congr 1
    funext s
    simp [aH,OE]
   rw [e0]
   refine ⟨?_,rfl,rfl⟩
   have:=jH w4 (i+1) (by omega)
   have:(4:Nat)^(i+1)<=4^2:=Nat.pow_le_pow_right (by decide) (by omega)
   simp only [MQ]
   exact aT (by omega)
 ·rintro Z M' ⟨rfl,a,rfl⟩
  simp [bL]
theorem uo (n:Nat){m:aV}{i:Nat}(hi:i<m.deeds.length):ak P (n+2) 16 [m.d,nD i] M=.ok (.bl true) M:=by
 refine aw (az h.is_deed_number rfl ?_)
 simp [fR,aV.d,bI,ky h]
 omega
theorem vg (n:Nat){m:aV}{x:D}{r:List Nat}(hx:bq M x r)(hr:∀i∈r,i<m.deeds.length):ak P (n+3) 17 [m.d,x] M=.ok .non M:=by
 refine aw (az h.need_numbers rfl ?_)
 obtain ⟨i1,i2,i3⟩:=hx.is
 simp [gZ,i1,i2,i3]
 refine eK (ds:=dP 0 (r.map nD)) (fun i Z M'=>M'=M/\∃a b,Z=[some m.d,some x,a,b]) (fun _ _ _ e=>by rw [e.1,hx.seq];rfl) ⟨rfl,none,none,rfl⟩ ?_ ?_
 ·rintro i d Z M' hd ⟨rfl,a,b,rfl⟩
  rw [jE] at hd
  rw [Nv] at hd
  cases e:r[i]? with
  |none=>rw [e] at hd;cases hd
  | some x =>
    rw [e] at hd
    simp at hd
    subst hd
    refine ⟨_,rfl,?_⟩
    simp [uo h n (hr x (N1 e))]
 ·rintro Z M' ⟨rfl,a,b,rfl⟩
  simp
theorem kZ (n:Nat){m:aV}{x:D}{r:List Nat}(hx:bq M x r)(hm:a9 m)(hr:a7 m r):ak P (n+9) 18 [m.d,x] M=.ok .non M:=by
 have e:=vg h (n+5) (m:=m) hx hr.2
 refine aw (az h.need_row rfl ?_)
 simp [kO,rP h n hm,e]
 rw [hx.len]
 have:=hr.1
 simp
 omega
theorem kW (h47:P 47=some ⟨2,2,dC⟩)(n:Nat){m:aV}{x:D}{r:List Nat}(hx:bq M x r)(hl:r.length<=100000)(hr:∀i∈r,i<m.deeds.length):ak P (n+1) 47 [m.d,x] M=.ok (nD (fH m r)) M:=by
 refine aw (az h47 rfl ?_)
 simp [dC,hx.is]
 refine ir (ds:=r.map nD) (fun d=>match d with|.int i=>nD (eJ m i.toNat).cost|_=>.non) (aT (by simp;omega)) hx.seq ?_ ?_
 ·intro d hd
  obtain ⟨x,hx,rfl⟩:=NB.mp hd
  refine ⟨_,rfl,aw ?_⟩
  simp [-i7,Cf,sO (hr x hx),qm]
 ·obtain ⟨bs,e1,e2⟩:=sN (fun i=>(eJ m i).cost) r
  refine ⟨?_,bs,?_,?_,rfl⟩
  ·simp
   exact aT (by omega)
  ·simpa [OE] using e1
  ·exact e2
theorem vj (h19:P 19=some ⟨2,2,lS⟩)(h47:P 47=some ⟨2,2,dC⟩)(n:Nat){m:aV}{x:D}{r:List Nat}(hx:bq M x r)(hm:a9 m)(hr:a7 m r):ak P (n+10) 19 [m.d,x] M=.ok (nD (fH m r)) M:=by
 refine aw (az h19 rfl ?_)
 simp [lS,kZ h n hx hm hr,kW h h47 (n+8) hx (MR hr.1 (by decide)) hr.2]
theorem DL (h19:P 19=some ⟨2,2,lS⟩)(h47:P 47=some ⟨2,2,dC⟩)(n:Nat){m:aV}{r:List Nat}(hm:a9 m)(hr:a7 m r):ak P (n+10) 19 [m.d,av r] M=.ok (nD (fH m r)) M:=vj h h19 h47 n .l hm hr
end
section
variable {P:Nat->Option Df}(h:HasM P){M:Mem}
include h
theorem xq (n:Nat){m:aV}{a c:Nat}{t s:List Nat}(hd:bY m.words m.places (.turn a t c))(hs:iH m s):ak P (n+1) 20 [(aW.turn a t c).d,aH s] M=.ok (nD (dZ (.turn a t c) s)) M:=by
 obtain ⟨h1,h2,h3⟩:=hd
 have a1:a<s.length:=by rw [hs.1];exact h1
 have a2:s.getD a 0<t.length:=by rw [h2.1];exact hs.2 _ (getD_mem a1)
 refine aw (az h.turned rfl ?_)
 simp [-i7,-List.getD_eq_getElem?_getD,nv,aW.d,eQ,j5 a1,j5 a2,dZ]
theorem xx (n:Nat){m:aV}{a o c:Nat}{t:List (List Nat)}{s:List Nat}(hd:bY m.words m.places (.join a o t c))(hs:iH m s):ak P (n+1) 21 [(aW.join a o t c).d,aH s] M=.ok (nD (dZ (.join a o t c) s)) M:=by
 obtain ⟨h1,h2,h3,h4⟩:=hd
 have a1:a<s.length:=by rw [hs.1];exact h1
 have a2:o<s.length:=by rw [hs.1];exact h2
 have a3:s.getD a 0<t.length:=by rw [h3.1];exact hs.2 _ (getD_mem a1)
 have a4:s.getD o 0<(t.getD (s.getD a 0) []).length:=by rw [(h3.2 _ (getD_mem a3)).1];exact hs.2 _ (getD_mem a2)
 refine aw (az h.joined rfl ?_)
 simp [-i7,-List.getD_eq_getElem?_getD,nB,aW.d,eQ,j5 a1,j5 a2,HJ a3,j5 a4,dZ]
theorem zU (n:Nat){m:aV}{a o c:Nat}{s:List Nat}(hd:bY m.words m.places (.move a o c))(hs:iH m s):ak P (n+1) 22 [(aW.move a o c).d,aH s] M=.ok (nD (dZ (.move a o c) s)) M:=by
 obtain ⟨h1,h2,h3⟩:=hd
 have a2:o<s.length:=by rw [hs.1];exact h2
 refine aw (az h.moved rfl ?_)
 simp [-i7,-List.getD_eq_getElem?_getD,pC,aW.d,eQ,j5 a2,dZ]
theorem zT (n:Nat){a x c:Nat}{s:List Nat}:ak P (n+1) 23 [(aW.put a x c).d,aH s] M=.ok (nD (dZ (.put a x c) s)) M:=by
 refine aw (az h.put_in rfl ?_)
 simp [nz,aW.d,eQ,dZ]
end
theorem Lx:cu.lookup (Str.ofString "turn")=some 20:=by decide +kernel
theorem Lw:cu.lookup (Str.ofString "join")=some 21:=by decide +kernel
theorem Lv:cu.lookup (Str.ofString "move")=some 22:=by decide +kernel
theorem Lu:cu.lookup (Str.ofString "put")=some 23:=by decide +kernel
theorem FT {s:List Nat}{M:Mem}{k:D->Mem->Prop}{a:Nat}(ha:a<=s.length):ag (fP false (aH s) .non (.int a) M) k↔k (aH (s.take a)) M:=by
 simp only [fP,aH,aJ,cut]
 rw [if_neg (by omega)]
 simp
 rw [Nat.min_eq_left (by simpa using ha)]
theorem DN {s:List Nat}{M:Mem}{k:D->Mem->Prop}{a:Nat}(ha:a<=s.length):ag (fP false (aH s) (.int a) .non M) k↔k (aH (s.drop a)) M:=by
 simp only [fP,aH,aJ,cut]
 rw [if_neg (by omega)]
 simp
 rw [Nat.min_eq_left (by simpa using ha),N4 (by simp)]
section
variable {P:Nat->Option Df}(h:HasM P){M:Mem}
include h
theorem DK (n:Nat){m:aV}{d:aW}{s:List Nat}(hm:a9 m)(hd:bY m.words m.places d)(hs:iH m s):ak P (n+2) 24 [d.d,aH s] M=.ok (aH (gE d s)) M:=by
 have a0:=CT hd
 have l0:=hs.1
 have p2:=hm.p2
 have key:∀f,ak P (n+1) f [d.d,aH s] M=.ok (nD (dZ d s)) M->cH d.d (.int 1) M=some (nD d.at')->(∀k:D->Mem->Prop,(∃y,cH d.d (.int 0) M=some (.str y)/\cu.lookup y=some f))->ak P (n+2) 24 [d.d,aH s] M=.ok (aH (gE d s)) M:=fun f e1 e2 e3=>by
  obtain ⟨y,e3,e4⟩:=e3 fun _ _=>True
  refine aw (az h.done rfl ?_)
  simp only [tJ,aX,nQ,HU,CJ,cM,fV,d7,eD,jG,mv,jF,bj,cv,EN]
  simp [-i7,e1,e2,e3,e4,dn]
  rw [FT (by omega),e1]
  have e5:(d.at':Int)+1=((d.at'+1:Nat):Int):=by omega
  rw [e5]
  simp only [bU,aH,zd]
  refine ⟨by decide,?_,?_⟩
  ·simp
   exact aT (by omega)
  ·rw [show D.tup (s.map nD)=aH s from rfl,DN (by omega)]
   simp only [aH,zd]
   refine ⟨?_,?_,trivial⟩
   ·simp
    exact aT (by omega)
   ·simp [gE]
 cases d with
 |turn a t c=>exact key 20 (xq h n hd hs) rfl fun _=>⟨_,rfl,Lx⟩
 |join a o t c=>exact key 21 (xx h n hd hs) rfl fun _=>⟨_,rfl,Lw⟩
 |move a o c=>exact key 22 (zU h n hd hs) rfl fun _=>⟨_,rfl,Lv⟩
 |put a x c=>exact key 23 (zT h n) rfl fun _=>⟨_,rfl,Lu⟩
theorem tS (n:Nat){m:aV}{x:D}{r s:List Nat}(hx:bq M x r)(hm:a9 m)(hrl:r.length<=100000)(hr:∀i∈r,i<m.deeds.length)(hs:iH m s):ak P (n+3) 25 [m.d,x,aH s] M=.ok (.cell M.length) (M++[(cP m r s).map aH]):=by
 refine aw (az h.all_standing rfl ?_)
 simp [g9,hx.is]
 refine ⟨by decide,?_⟩
 refine eK (ds:=r.map nD) (fun i Z M'=>M'=M++[(cP m (r.take i) s).map aH]/\∃a,Z=[some m.d,some x,some (aH s),some (.cell M.length),a]) (fun _ _ _ e=>by rw [e.1];exact (hx.sub Sub.app).seq) ⟨by simp [cP],none,rfl⟩ ?_ ?_
 ·rintro i d Z M' hd ⟨rfl,a,rfl⟩
  rw [Nv] at hd
  cases e:r[i]? with
  |none=>rw [e] at hd;cases hd
  | some x =>
    rw [e] at hd
    simp at hd
    subst hd
    have hx:=hr x (N1 e)
    have hi:i<r.length:=(MH.mp e).1
    refine ⟨_,rfl,?_⟩
    have hse:iH m (cK m (r.take i) s):=pq hm (fun j hj=>hr j (NT hj)) hs
    have hl:=mZ (m:=m) (r.take i) s
    have hl2:(r.take i).length=i:=by simp;omega
    simp [-i7,Cf,sO hx,mH,DK h n hm (nK hm hx) hse]
    refine ⟨?_,?_⟩
    ·rw [hl,hl2]
     exact Nat.lt_of_le_of_lt (show i+1<=100001 by omega) (by decide)
    ·rw [Ou,e]
     simp [pX]
 ·rintro Z M' ⟨rfl,a,rfl⟩
  simp
noncomputable def dB (m:aV)(r:List Nat):D:=.tup ((bL m).map fun s=>aH (cK m r s))
theorem k9 (h15:P 15=some ⟨1,6,cS⟩)(h46:P 46=some ⟨2,2,eY⟩)(n:Nat){m:aV}{x:D}{r:List Nat}(hx:bq M x r)(hm:a9 m)(hrl:r.length<=100000)(hr:∀i∈r,i<m.deeds.length):ak P (n+10) 46 [m.d,x] M=.ok (dB m r) (M++(bL m).map fun s=>(cP m r s).map aH):=by
 refine aw (az h46 rfl ?_)
 simp [eY,uq h.toHasM0 h15 n hm]
 refine ⟨rfl,?_⟩
 have bl:=tD hm
 refine comp_map (ds:=(bL m).map aH) (fun i acc M'=>acc=((bL m).take i).map (fun s=>aH (cK m r s))/\M'=M++((bL m).take i).map fun s=>(cP m r s).map aH) (aT (by simp;omega)) (fun _ _ _ _=>rfl) (by simp) ?_ ?_
 ·rintro i d acc M' hd _ ⟨rfl,eM⟩
  rw [Nv] at hd
  cases e:(bL m)[i]? with
  |none=>rw [e] at hd;cases hd
  | some s =>
    rw [e] at hd
    have hd:aH s=d:=MO hd
    subst hd
    have hs:=pB s (N1 e)
    refine ⟨_,rfl,?_⟩
    have st:=tS h (n+6) (M:=M') (by rw [eM];exact hx.sub Sub.app) hm hrl hr hs
    simp [st,mH]
    rw [eM,Ou,Ou]
    simp [e]
 ·rintro acc M' _ ⟨rfl,rfl⟩
  simp
  exact ⟨aT (by omega),by simp [dB,N4]⟩
theorem xy (h15:P 15=some ⟨1,6,cS⟩)(h46:P 46=some ⟨2,2,eY⟩)(n:Nat){m:aV}{r:List Nat}(hm:a9 m)(hr:a7 m r):ak P (n+10) 46 [m.d,av r] M=.ok (dB m r) (M++(bL m).map fun s=>(cP m r s).map aH):=k9 h h15 h46 n .l hm (MR hr.1 (by decide)) hr.2
theorem la (h15:P 15=some ⟨1,6,cS⟩)(h27:P 27=some ⟨2,2,fF⟩)(h46:P 46=some ⟨2,2,eY⟩)(n:Nat){m:aV}{x:D}{r:List Nat}(hx:bq M x r)(hm:a9 m)(hr:a7 m r):ak P (n+11) 27 [m.d,x] M=.ok (dB m r) (M++(bL m).map fun s=>(cP m r s).map aH):=by
 refine aw (az h27 rfl ?_)
 simp [fF,kZ h.toHasM0 (n+1) hx hm hr,k9 h h15 h46 n hx hm (MR hr.1 (by decide)) hr.2]
theorem FR (h15:P 15=some ⟨1,6,cS⟩)(h27:P 27=some ⟨2,2,fF⟩)(h46:P 46=some ⟨2,2,eY⟩)(n:Nat){m:aV}{r:List Nat}(hm:a9 m)(hr:a7 m r):ak P (n+11) 27 [m.d,av r] M=.ok (dB m r) (M++(bL m).map fun s=>(cP m r s).map aH):=la h h15 h27 h46 n .l hm hr
end
end LD
namespace LD
open PySem
@[simp] theorem sG {j:Nat}{M:Mem}{k:D->Mem->Prop}:ag (dA .len [.cell j] M) k↔∃ds,M[j]?=some ds/\k (.int ds.length) M:=by
 show ag (match M[j]? with|some xs=>_|none=>_) k↔_
 cases M[j]?<;>simp
structure aS (M:Mem) (p B:Nat):Prop where
 ex:∃(c:Nat) (cells:List Int) (at_ st:Int),M[p]?=some [.cell c,.int at_,.int st]/\M[c]?=some (cells.map D.int)/\c<p/\0<=at_/\at_<=B/\0<=st
structure bp (p:Nat) (M M':Mem):Prop where
 len:M.length<=M'.length
 at':∀k,k<M.length->k≠p->M'[k]?=M[k]?
theorem bp.refl {p:Nat}{M:Mem}:bp p M M:=⟨MN _,fun _ _ _=>rfl⟩
theorem bp.trans {p:Nat}{M M1 M2:Mem}(a:bp p M M1)(b:bp p M1 M2):bp p M M2:=⟨MR a.len b.len,fun k hk n=>(b.at' k (M9 hk a.len) n).trans (a.at' k hk n)⟩
theorem bp.set {p:Nat}{M:Mem}{ds:List D}:bp p M (M.set p ds):=⟨by simp,fun k _ n=>MW (NV n)⟩
theorem bp.app {p:Nat}{M X:Mem}:bp p M (M++X):=⟨by simp,fun k hk _=>Nh hk⟩
theorem bp.get {p k:Nat}{M M':Mem}{ds:List D}(h:bp p M M')(e:M[k]?=some ds)(n:k≠p):M'[k]?=some ds:=by rw [h.at' k (MH.mp e).1 n];exact e
theorem aS.lt {M:Mem}{p B:Nat}(h:aS M p B):p<M.length:=by obtain ⟨_,_,_,_,e,_⟩:=h.ex;exact (MH.mp e).1
theorem aS.app {M X:Mem}{p B:Nat}(h:aS M p B):aS (M++X) p B:=by
 obtain ⟨c,cells,a,st,e1,e2,r⟩:=h.ex
 exact ⟨c,cells,a,st,by rw [Nh (MH.mp e1).1];exact e1,by rw [Nh (MH.mp e2).1];exact e2,r⟩
theorem aS.mono {M:Mem}{p B B':Nat}(h:aS M p B)(hb:B<=B'):aS M p B':=by
 obtain ⟨c,cells,a,st,e1,e2,e3,e4,e5,e6⟩:=h.ex
 exact ⟨c,cells,a,st,e1,e2,e3,e4,by omega,e6⟩
theorem aS.setq {M:Mem}{p q B:Nat}{ds:List D}(h:aS M p B)(hq:p<q):aS (M.set q ds) p B:=by
 obtain ⟨c,cells,a,st,e1,e2,e3,e4,e5,e6⟩:=h.ex
 exact ⟨c,cells,a,st,by rw [MW (by omega)];exact e1,by rw [MW (by omega)];exact e2,e3,e4,e5,e6⟩
theorem bp.setq {p q:Nat}{M M':Mem}{ds:List D}(h:bp p M M')(hq:M.length<=q):bp p M (M'.set q ds):=⟨by simpa using h.len,fun k hk n=>by rw [MW (by omega)];exact h.at' k hk n⟩
theorem yi {a b A B:Int}(h1:0<=a)(h2:a<=A)(h3:0<=b)(h4:b<=B):0<=a*b/\a*b<=A*B:=
 ⟨Int.mul_nonneg h1 h3,Int.mul_le_mul h2 h4 h3 (Int.le_trans h1 h2)⟩
noncomputable def jX:List Int:=[2147483629,2147483587,2147483579,2147483563,2147483549,2147483543,2147483497,2147483489,2147483477,2147483423,2147483399,2147483353,2147483323]
noncomputable def fg:List D:=jX.map D.int
theorem xJ:∀q∈jX,0<q/\q<2147483648:=by decide
theorem m9 (j:Int)(M:Mem):∃q:Int,cH (.lst fg) (.int (j % 13)) M=some (.int q)/\0<q/\q<2147483648:=by
 have h1:0<=j % 13:=N7 _ (by decide)
 have h2:j % 13<13:=NZ _ (by decide)
 generalize j % 13=i at h1 h2
 obtain ⟨k,rfl⟩:=Int.eq_ofNat_of_zero_le h1
 have hk:k<jX.length:=Int.ofNat_lt.mp h2
 refine ⟨jX[k],?_,xJ _ (Ox hk)⟩
 show (bI fg.length (k:Int)).bind (fun j=>fg[j]?)=_
 rw [fE (n:=fg.length) hk]
 show (jX.map D.int)[k]?=_
 rw [Nv,Nc hk];rfl
section
variable {P:Nat->Option Df}(h:HasP0 P){M:Mem}
include h
omit h in
theorem eZ {m:Bool}{a b:GE}{Z:Env}{x y:Int}(ha:a Z M=.ok (.int x) M)(hb:b Z M=.ok (.int y) M):ay m .add a b Z M=.ok (.int (x+y)) M:=by
 unfold ay;rw [ha];show (b Z M).bind _=_;rw [hb];rfl
omit h in
theorem nj {m:Bool}{a b:GE}{Z:Env}{x y:Int}(ha:a Z M=.ok (.int x) M)(hb:b Z M=.ok (.int y) M)(c:(-(2^64)<x/\x<2^64)\/(-(2^64)<y/\y<2^64)):ay m .mul a b Z M=.ok (.int (x*y)) M:=by
 unfold ay;rw [ha];show (b Z M).bind _=_;rw [hb];exact if_pos c
omit h in
theorem iB {m:Bool}{a b:GE}{Z:Env}{x y:Int}(ha:a Z M=.ok (.int x) M)(hb:b Z M=.ok (.int y) M)(c:0<y):ay m .mod a b Z M=.ok (.int (x % y)) M:=by
 unfold ay;rw [ha];show (b Z M).bind _=_;rw [hb];exact if_pos c
omit h in
theorem Av {m:Bool}{a b:GE}{Z:Env}{x y:Int}(ha:a Z M=.ok (.int x) M)(hb:b Z M=.ok (.int y) M)(c:0<=y/\y<=1000000)(d:x.natAbs<2^64):ay m .pow a b Z M=.ok (.int (x^y.toNat)) M:=by
 unfold ay;rw [ha];show (b Z M).bind _=_;rw [hb];exact if_pos ⟨c.1,c.2,d⟩
omit h in
theorem ng {a:GE}{Z:Env}{i:Nat}{x q:Int}(hi:Z[i]?.getD none=some (.lst fg))(ha:a Z M=.ok (.int x) M)(e:cH (.lst fg) (.int (x % 13)) M=some (.int q)):aE (aa i) (ay false .mod a (gI 13)) Z M=.ok (.int q) M:=by
 unfold aE;rw [ai hi];show (ay false .mod a _ Z M).bind _=_;rw [iB ha rfl (by decide)];show bK M _=_;rw [e];rfl
theorem xt (n:Nat){x a:Int}(h0:0<=a)(h1:a<=1000000):ag (ak P (n+1) 28 [.int x,.int a] M) fun d M'=>M'=M/\∃v:Int,d=.int v/\0<=v:=by
 refine az h.law_spread rfl ?_
 show ag (fK (ak P n) [some (.int x),some (.int a),none,none,none,none] M) _
 unfold fK
 refine bX (b:=decide ((1000000000000000000:Int)<=x)) rfl (fun e=>?_) fun e=>?_
 ·exact ⟨rfl,x,rfl,Int.le_trans (by decide) (of_decide_eq_true e)⟩
 clear e
 refine cj (dH rfl) (cj (dH rfl) ?_)
 show ag (af _ _ [some (.int x),some (.int a),some (.lst fg),none,none,none] M) _
 obtain ⟨q1,e1,p1,p2⟩:=m9 a M
 obtain ⟨q2,e2,p3,_⟩:=m9 (a+5) M
 obtain ⟨q3,e3,p5,_⟩:=m9 (a+7) M
 have sm:∀{z c:Int},0<=z->z<=c->c<2^64->z.natAbs<2^64:=fun z0 zc c0=>by omega
 have lt:∀{z c:Int},0<=z->z<=c->c<2^64->-(2^64)<z/\z<2^64:=fun z0 zc c0=>by omega
 have r1:=N7 x (show (1000000007:Int)≠0 by decide)
 have r2:=NZ x (show (0:Int)<1000000007 by decide)
 have r3:=N7 x (show (65537:Int)≠0 by decide)
 have r4:=NZ x (show (0:Int)<65537 by decide)
 obtain ⟨m1,m2⟩:=yi r1 (Int.le_of_lt r2) (show 0<=2*a+69069 by omega) (show 2*a+69069<=2069069 by omega)
 refine cj (dH (iB (Av (eZ (eZ (nj (iB (ai rfl) rfl (by decide)) (eZ (nj rfl (ai rfl) (.inl (by decide))) rfl) (.inl (lt r1 (Int.le_of_lt r2) (by decide)))) (nj (ai rfl) rfl (.inl (lt h0 h1 (by decide))))) rfl) rfl (by decide) (sm (c:=10000000000000000000) (by omega) (by omega) (by decide))) (ng rfl (ai rfl) e1) p1)) ?_
 generalize (x % 1000000007*(2*a+69069)+a*40503+977)^(3:Int).toNat=y1
 have b1:=N7 y1 (Int.ne_of_gt p1)
 have b2:=NZ y1 p1
 generalize y1 % q1=one at b1 b2
 show ag (af _ _ [some (.int x),some (.int a),some (.lst fg),some (.int one),none,none] M) _
 have b3:one<=2147483648:=Int.le_of_lt (Int.lt_trans b2 p2)
 obtain ⟨m3,m4⟩:=yi b1 b3 (show 0<=a+3 by omega) (show a+3<=1000003 by omega)
 refine cj (dH (iB (Av (eZ (eZ (nj (ai rfl) (eZ (ai rfl) rfl) (.inl (lt b1 b3 (by decide)))) (iB (ai rfl) rfl (by decide))) rfl) rfl (by decide) (sm (c:=10000000000000000000) (by omega) (by omega) (by decide))) (ng rfl (eZ (ai rfl) rfl) e2) p3)) ?_
 generalize (one*(a+3)+x % 65537+5)^(5:Int).toNat=y2
 have c1:=N7 y2 (Int.ne_of_gt p3)
 have c2:=NZ y2 p3
 generalize y2 % q2=two at c1 c2
 show ag (af _ _ [some (.int x),some (.int a),some (.lst fg),some (.int one),some (.int two),none] M) _
 have r5:=N7 one (show (1009:Int)≠0 by decide)
 have r6:=NZ one (show (0:Int)<1009 by decide)
 refine cj (dH (iB (Av (eZ (eZ (ai rfl) (iB (ai rfl) rfl (by decide))) (ai rfl)) rfl (by decide) (sm (c:=10000000000) (by omega) (by omega) (by decide))) (ng rfl (eZ (ai rfl) rfl) e3) p5)) ?_
 generalize (two+one % 1009+a)^(3:Int).toNat=y3
 have d1:=N7 y3 (Int.ne_of_gt p5)
 refine cZ (eZ (nj (eZ (nj (ai rfl) rfl (.inr (by decide))) (ai rfl)) rfl (.inr (by decide))) (ai rfl)) ⟨rfl,_,rfl,?_⟩
 exact Int.add_nonneg (Int.mul_nonneg (Int.add_nonneg (Int.mul_nonneg b1 (by decide)) c1) (by decide)) d1
omit h in
theorem LO:bI 3 2=some 2:=rfl
omit h in
theorem pe {l:List Int}{i:Int}(h0:0<=i)(h1:i<l.length):∃x,((bI l.length i).bind fun j=>Option.map D.int l[j]?)=some (.int x):=by
 obtain ⟨k,rfl⟩:=Int.eq_ofNat_of_zero_le h0
 have hk:k<l.length:=by omega
 refine ⟨l[k],?_⟩
 rw [fE hk]
 simp [hk]
noncomputable def ko:GS:=af (aK (.one 4) (ay false .mod (aE (aa 0) (gI 2)) (aa 1))) (af (dz (aa 0) (gI 2) (ay false .fdiv (aE (aa 0) (gI 2)) (aa 1))) (af (aM (aa 4)) aj))
noncomputable def ub (c:Call):GS:=af (dz (aa 0) (gI 1) (ay false .add (aa 2) (gI 1))) (af (dz (aa 0) (gI 2) (au 28 c (ae (aa 3) (ae (aa 2) ah)))) aj)
omit h in
theorem JI {m:Bool}{a b:GE}{Z:Env}{x y:Int}(ha:a Z M=.ok (.int x) M)(hb:b Z M=.ok (.int y) M)(c:0<y/\y<1073741824):ay m .fdiv a b Z M=.ok (.int (x / y)) M:=by
 unfold ay;rw [ha];show (b Z M).bind _=_;rw [hb];exact if_pos c
omit h in
theorem bQ {a b:GE}{Z:Env}{x y d:D}(ha:a Z M=.ok x M)(hb:b Z M=.ok y M)(e:cH x y M=some d):aE a b Z M=.ok d M:=by
 unfold aE;rw [ha];show (b Z M).bind _=_;rw [hb];show bK M _=_;rw [e];rfl
omit h in
theorem HE {p:Nat}{c0 c1 c2:D}(e:M[p]?=some [c0,c1,c2]):cH (.cell p) (.int 0) M=some c0/\cH (.cell p) (.int 1) M=some c1/\cH (.cell p) (.int 2) M=some c2:=by
 refine ⟨?_,?_,?_⟩<;>(show (M[p]?).bind _=_;rw [e];rfl)
omit h in
theorem jV {a b d:GE}{rest:GS}{Z:Env}{p i:Nat}{n:Int}{z:D}{ds:List D}{M':Mem}{kf:Fl->Mem->Prop}(hd:d Z M=.ok z M')(ha:a Z M'=.ok (.cell p) M')(hb:b Z M'=.ok (.int n) M')(e:M'[p]?=some ds)(hi:bI ds.length n=some i)(h:ag (rest Z (M'.set p (ds.set i z))) kf):ag (af (dz a b d) rest Z M) kf:=by
 simp only [aX]
 unfold dz
 rw [hd];show ag ((a Z M').bind _) _;rw [ha];show ag ((b Z M').bind _) _;rw [hb]
 show ag (match M'[p]? with|some ds=>(match bI ds.length n with|some j=>Res.ok (Fl.next Z) (M'.set p (ds.set j z))|none=>.bad)|none=>.bad) _
 rw [e]
 show ag (match bI ds.length n with|some j=>Res.ok (Fl.next Z) (M'.set p (ds.set j z))|none=>.bad) _
 rw [hi];exact h
omit h in
theorem HG {t:GT}{A B rest:GS}{Z:Env}{b:Bool}{kf:Fl->Mem->Prop}(ht:t Z M=.ok b M)(h1:b=true->ag (A Z M) (iK rest kf))(h2:b=false->ag (B Z M) (iK rest kf)):ag (af (aQ t A B) rest Z M) kf:=by
 simp only [aX,gm]
 rw [ht]
 cases b with
 |true=>exact h1 rfl
 |false=>exact h2 rfl
omit h in
theorem pP {M M1:Mem}{p c many B:Nat}{cells:List Int}{a st:Int}{x y:Option D}(e1:M1[p]?=some [.cell c,.int a,.int st])(e2:M1[c]?=some (cells.map D.int))(lt:c<p)(a0:0<=a)(aB:a<=(B+1:Nat))(s0:0<=st)(k:bp p M M1)
 (h0:0<many) (h1:many<=10000000):ag (ko [some (.cell p),some (nD many),x,y,none] M1) (nr fun d M'=>∃v:Nat,d=nD v/\v<many/\aS M' p (B+1)/\bp p M M'):=by
 have hp:p<M1.length:=(MH.mp e1).1
 have b0:(0:Int)<(many:Int):=Int.ofNat_lt.mpr h0
 have r1:=N7 st (Int.ne_of_gt b0)
 have r2:=NZ st b0
 unfold ko
 refine cj (dH (iB (bQ (ai rfl) rfl (HE e1).2.2) (ai rfl) b0)) (jV (JI (bQ (ai rfl) rfl (HE e1).2.2) (ai rfl) ⟨b0,by omega⟩) (ai rfl) rfl e1 (i:=2) rfl (cZ (ai rfl) ?_))
 obtain ⟨v,hv⟩:=Int.eq_ofNat_of_zero_le r1
 refine ⟨v,congrArg D.int hv,by omega,⟨c,cells,a,st / many,Nf hp,?_,lt,a0,aB,Int.ediv_nonneg s0 (Int.le_of_lt b0)⟩,k.trans bp.set⟩
 rw [MW (NR lt)];exact e2
theorem uf (n:Nat){p B many:Nat}(hp:aS M p B)(hB:B<=1000000)(h0:0<many)(h1:many<=10000000):ag (ak P (n+2) 31 [.cell p,nD many] M) fun d M'=>∃v:Nat,d=nD v/\v<many/\aS M' p (B+1)/\bp p M M':=by
 obtain ⟨c,cells,a,st,e1,e2,lt,a0,aB,s0⟩:=hp.ex
 have hpl:p<M.length:=(MH.mp e1).1
 obtain ⟨i0,i1,i2⟩:=HE e1
 refine az h.law_take rfl ?_
 show ag (af (aQ _ (af _ (af _ (af _ (ub (ak P (n+1)))))) _) ko [some (.cell p),some (nD many),none,none,none] M) _
 have mid:∀(x:Int),ag (ub (ak P (n+1)) [some (.cell p),some (nD many),some (.int a),some (.int x),none] M) (iK ko (nr fun d M'=>∃v:Nat,d=nD v/\v<many/\aS M' p (B+1)/\bp p M M')):=by
  intro x
  refine jV (eZ (ai rfl) rfl) (ai rfl) rfl e1 (i:=1) rfl ?_
  obtain ⟨_,_,es,rfl,v,rfl,v0⟩:=iL.mp (xt h n (M:=M.set p [.cell c,.int (a+1),.int st]) (x:=x) (a:=a) a0 (by omega))
  refine jV ((bw (aq (ai rfl) (aq (ai rfl) rfl))).trans es) (ai rfl) rfl (Nf hpl) (i:=2) rfl ?_
  have ne:=NR lt
  exact pP (c:=c) (cells:=cells) (a:=a+1) (st:=v) (Nf (by rw [List.length_set];exact hpl)) (by rw [MW ne,MW ne];exact e2) lt (by omega) (by omega) v0 (bp.set.trans bp.set) h0 h1
 have len:aR .len (ae (aE (aa 0) (gI 0)) ah) [some (.cell p),some (nD many),some (.int a),some (.int 0),none] M=.ok (.int (cells.length:Nat)) M:=by
  refine aw ?_
  simp only [fG]
  rw [aq (bQ (ai rfl) rfl i0) rfl,bU]
  exact sG.mpr ⟨_,e2,by rw [MQ],rfl⟩
 refine bX (b:=decide (st<(many:Int))) (cf (aw ?_)) (fun c1=>?_) fun c1=>?_
 ·simp only [ia]
  rw [bQ (ai rfl) rfl i2,bU,ai (x:=nD many) rfl,bU]
  exact ⟨_,rfl,rfl,rfl⟩
 ·refine cj (dH (bQ (ai rfl) rfl i1)) (cj (dH rfl) ?_)
  show ag (af _ _ [some (.cell p),some (nD many),some (.int a),some (.int 0),none] M) _
  have ixx:∀{i:Int}{x:D},((bI cells.length i).bind fun j=>Option.map D.int cells[j]?)=some x->cH (.cell c) (.int i) M=some x:=fun {i x} ex=>by
   show (M[c]?).bind _=_
   rw [e2]
   show ((bI (cells.map D.int).length i).bind fun j=>(cells.map D.int)[j]?)=_
   simp only [MQ,Nv];exact ex
  refine HG (b:=decide (a<(cells.length:Int))) (cf (aw ?_)) (fun c2=>?_) fun _=>?_
  ·simp only [ia]
   rw [ai (x:=.int a) rfl,bU,len,bU];exact ⟨_,rfl,rfl,rfl⟩
  ·obtain ⟨x,ex⟩:=pe a0 (of_decide_eq_true c2)
   exact cj (dH (bQ (bQ (ai rfl) rfl i0) (ai rfl) (ixx ex))) (mid x)
  ·refine bX (b:=decide ((0:Int)<(cells.length:Int))) (cf (aw ?_)) (fun c3=>?_) fun _=>mid 0
   ·simp only [ia,fV]
    rw [len,bU];exact ⟨_,rfl,rfl,rfl⟩
   ·have c4:=of_decide_eq_true c3
    obtain ⟨x,ex⟩:=pe (N7 (a*5+3) (Int.ne_of_gt c4)) (NZ _ c4)
    exact cj (dH (iB (bQ (bQ (ai rfl) rfl i0) (iB (eZ (nj (ai rfl) rfl (.inr (by decide))) rfl) len c4) (ixx ex)) (eZ (x:=100000000000000000) rfl (ai rfl)) (Int.lt_of_lt_of_le (by decide) (Int.le_add_of_nonneg_right a0)))) (mid _)
 ·exact pP e1 e2 lt a0 (by omega) s0 .refl h0 h1
end
end LD
namespace LD
open PySem
noncomputable def aW.withC:aW->Nat->aW
 |.turn a t _,c=>.turn a t c
 |.join a o t _,c=>.join a o t c
 |.move a o _,c=>.move a o c
 |.put a x _,c=>.put a x c
theorem zj {w p c:Nat}{d:aW}(h:bY w p d)(hc:fb c):bY w p (d.withC c):=by
 cases d with
 |turn=>exact ⟨h.1,h.2.1,hc⟩
 |join=>exact ⟨h.1,h.2.1,h.2.2.1,hc⟩
 |move=>exact ⟨h.1,h.2.1,hc⟩
 |put=>exact ⟨h.1,h.2.1,hc⟩
theorem Fb {w p:Nat}{d:aW}(h:bY w p d):fb d.cost:=by
 cases d with
 |turn=>exact h.2.2
 |join=>exact h.2.2.2
 |move=>exact h.2.2
 |put=>exact h.2.2
theorem Bm {d:aW}{c:Nat}{M:Mem}{k:D->Mem->Prop}(hk:k (d.withC c).d M):ag (fP false d.d .non (.int (-1)) M) fun x M=>ag (gY false .add x (.tup [nD c]) M) k:=by
 cases d<;>(simp [aW.d,fP,aJ,cut];exact ⟨by decide,hk⟩)
theorem zO (n:Nat)(d:aW):aA (n+3) d.d=true:=by
 have tp:∀(n:Nat) (l:List Nat),(l.map nD).all (aA n)=true:=fun n l=>by
  rw [MX];intro x hx;obtain ⟨i,_,rfl⟩:=NB.mp hx;cases n<;>rfl
 cases d with
 |turn a t c=>simp [aW.d,aA,aH,nD];decide +kernel
 |join a o t c=>simp [aW.d,aA,nD,aH];decide +kernel
 |move a o c=>simp [aW.d,aA,nD];decide +kernel
 |put a x c=>simp [aW.d,aA,nD];decide +kernel
theorem ne_nil {M:Mem}{q:Nat}{ds:List aW}(e:M[q]?=some (ds.map aW.d)):bx .ne (.cell q) (.lst []) M=some (!ds.isEmpty):=by
 have hp:(ds.map aW.d).all (aA 63)=true:=by
  rw [MX];intro x hx;obtain ⟨d,_,rfl⟩:=NB.mp hx;exact zO 60 d
 have hv:view M (.cell q)=.lst (ds.map aW.d):=by simp [view,e]
 have h1:aA 64 (.lst (ds.map aW.d))=true:=hp
 refine j9 (by rw [hv];exact h1) rfl ?_
 rw [hv]
 cases ds<;>rfl
@[simp] theorem Hj {m:Bool}{x:List D}{j:Int}{M:Mem}{k:D->Mem->Prop}:ag (gY m .mul (.tup x) (.int j) M) k↔(x.length*j.toNat<=sz/\-(2^63)<=j/\j<2^63)/\k (.tup (List.replicate j.toNat x).flatten) M:=nZ
@[simp] theorem Hk {m:Bool}{x:List D}{j:Int}{M:Mem}{k:D->Mem->Prop}:ag (gY m .mul (.lst x) (.int j) M) k↔(x.length*j.toNat<=sz/\-(2^63)<=j/\j<2^63)/\ag (bf m (List.replicate j.toNat x).flatten M) k:=nZ
theorem rR {xs:List D}{a:Nat}{M:Mem}{k:D->Mem->Prop}:ag (fP false (.lst xs) .non (.int a) M) k↔(xs.take a).length<=sz/\k (.lst (xs.take a)) M:=by
 have e:cut xs 0 (min a xs.length)=xs.take a:=by
  unfold cut
  rcases Nat.le_total a xs.length with h|h
  ·rw [Nat.min_eq_left h];simp
  ·rw [Nat.min_eq_right h];simp [N4 h]
 show ag (match aJ xs.length 0 D.non,aJ xs.length xs.length (.int a) with|some l,some h=>bf false (cut xs l h) M|_,_=>.bad) k↔_
 have e2:aJ xs.length xs.length (.int a)=some (min a xs.length):=by
  show some _=_
  rw [if_neg (by omega)];simp
 rw [e2]
 show ag (bf false (cut xs 0 (min a xs.length)) M) k↔_
 rw [e,cF]
theorem Ad {xs:List D}{a:Nat}{M:Mem}{k:D->Mem->Prop}:ag (fP false (.lst xs) (.int a) .non M) k↔(xs.drop a).length<=sz/\k (.lst (xs.drop a)) M:=by
 have e:cut xs (min a xs.length) xs.length=xs.drop a:=by
  unfold cut
  rcases Nat.le_total a xs.length with h|h
  ·rw [Nat.min_eq_left h,N4 (by simp)]
  ·rw [Nat.min_eq_right h];simp [List.drop_eq_nil_of_le h]
 show ag (match aJ xs.length 0 (.int a),aJ xs.length xs.length D.non with|some l,some h=>bf false (cut xs l h) M|_,_=>.bad) k↔_
 have e2:aJ xs.length 0 (.int a)=some (min a xs.length):=by
  show some _=_
  rw [if_neg (by omega)];simp
 rw [e2]
 show ag (bf false (cut xs (min a xs.length) xs.length) M) k↔_
 rw [e,cF]
theorem sZ {w:Nat}{ge:GE}{Z:Env}{M:Mem}{kl:List D->Mem->Prop}(f:Nat->Nat)(hw:w<=100)(hf:∀k,k<w->ge (some (.int (k:Int))::Z) M=.ok (nD (f k)) M)(hk:kl (((List.range w).map f).map nD) M) :
 ag (dj (dw (.one 0) (bS ge) (none::Z)) (fun _=>some ((List.range w).map fun (k:Nat)=>D.int (k:Int))) [] M) kl:=by
 refine ir (ds:=(List.range w).map fun (k:Nat)=>D.int (k:Int)) (fun d=>match d with|.int i=>nD (f i.toNat)|_=>.non) (aT (by simp;omega)) rfl (fun d hd=>?_) ?_
 ·obtain ⟨k,hk,rfl⟩:=NB.mp hd
  exact ⟨_,rfl,hf k (List.mem_range.mp hk)⟩
 ·simpa [OE] using hk
theorem ud {w:Nat}{f:Nat->Nat}(hf:∀k,k<w->f k<w):i5 w ((List.range w).map f):=⟨by simp,fun x hx=>by
 obtain ⟨k,hk,rfl⟩:=NB.mp hx
 exact hf k (List.mem_range.mp hk)⟩
section
variable {P:Nat->Option Df}(h:HasP0 P){M:Mem}
include h
theorem DM (n:Nat){p B:Nat}(hp:aS M p B):ag (ak P (n+1) 30 [.cell p] M) fun d M'=>d=.cell p/\aS M' p B/\bp p M M':=by
 obtain ⟨c,cells,a,st,e1,e2,lt,a0,aB,s0⟩:=hp.ex
 have ne:c≠p:=Nz lt
 have hpl:p<M.length:=(MH.mp e1).1
 refine az h.law_anew rfl ?_
 simp [jP,e1,LO]
 refine ⟨⟨c,cells,a,0,by simp [hpl],?_,lt,a0,aB,by omega⟩,bp.set⟩
 rw [MW (NV ne)];exact e2
theorem tk (n:Nat){p B many:Nat}{k:D->Mem->Prop}(hp:aS M p B)(hB:B<=1000000)(h0:0<many)(h1:many<=10000000)(hk:∀(v:Nat) (M':Mem),v<many->aS M' p (B+1)->bp p M M'->k (nD v) M'):ag (ak P (n+2) 31 [.cell p,nD many] M) k:=
 aO (uf h n hp hB h0 h1) fun d M' ⟨v,e,hv,hp',hk'⟩=>by subst e;exact hk v M' hv hp' hk'
end
theorem bd {B c k m:Nat}(h:B<=c)(e:c+k<=m):B+k<=m:=MR (Nat.add_le_add_right h k) e
theorem vQ {B k m:Nat}(e:k<=m):B+k<=B+m:=Nat.add_le_add_left e B
theorem qW {xs:List D}{v:Nat}{M:Mem}(h:v<xs.length):cH (.lst xs) (nD v) M=some xs[v]:=by
 show (bI xs.length (v:Int)).bind (fun j=>xs[j]?)=_
 rw [fE h]
 simp [h]
theorem vO {Z:Env}{M:Mem}{j v c:Nat}(h:Z[j]?.getD none=some (nD v)):(aC (aU .lt (aa j) (gC (.int (c:Int)))):GT) Z M=.ok (decide (v<c)) M:=by
 refine lL ?_
 simp only [hG,ia,cM,fV]
 refine ⟨_,h,_,rfl,_,rfl,?_,trivial⟩
 simp
theorem h9 {Z:Env}{M:Mem}{j v c:Nat}(h:Z[j]?.getD none=some (nD v)):(aC (aU .eq (aa j) (gC (.int (c:Int)))):GT) Z M=.ok ((v:Int)==(c:Int)) M:=by
 refine lL ?_
 simp only [hG,ia,cM,fV]
 exact ⟨_,h,_,rfl,_,rfl,rfl,trivial⟩
section
variable {Z:Env}{M:Mem}{g a:GE}{rest:GS}{kf:Fl->Mem->Prop}
section
variable {P:Nat->Option Df}(hp_:HasP0 P)(n:Nat){i j p B many:Nat}(hj:Z[j]?.getD none=some (.cell p))(hg:g Z M=.ok (nD many) M)(hp:aS M p B)(hB:B<=1000000)(h0:0<many)(h1:many<=10000000)
include hp_ hj hg hp hB h0 h1
theorem eV:ag (au 31 (ak P (n+2)) (ae (aa j) (ae g ah)) Z M) fun d M'=>∃v:Nat,d=nD v/\v<many/\aS M' p (B+1)/\bp p M M':=by
 rw [bw (aq (ai hj) (aq hg rfl))]
 exact uf hp_ n hp hB h0 h1
theorem eR (hk:∀(v:Nat) (M':Mem),v<many->aS M' p (B+1)->bp p M M'->ag (rest (Z.set i (some (nD v))) M') kf):ag (af (aK (.one i) (au 31 (ak P (n+2)) (ae (aa j) (ae g ah)))) rest Z M) kf:=by
 refine cm (eV hp_ n hj hg hp hB h0 h1) ?_
 rintro x M' ⟨v,rfl,a,b,c⟩
 exact hk v M' a b c
end
end
section
variable {Z:Env}{M:Mem}{k:D->Mem->Prop}
theorem bA {e:GE}{K:Fl->Mem->Prop}(h:ag (e Z M) fun x M=>K (.ret x) M):ag (af (aM e) aj Z M) K:=by
 simp only [aX,eD]
 exact h
theorem yj {e:GE}{j v w:Nat}(he:e Z M=.ok (nD v) M)(hj:Z[j]?.getD none=some (nD w))(hw:0<w):ay false .mod e (aa j) Z M=.ok (nD (v % w)) M:=by
 unfold ay
 rw [he]
 show (aa j Z M).bind _=_
 rw [ai hj]
 show (if (0:Int)<(w:Int) then Res.ok (D.int ((v:Int) % (w:Int))) M else .bad)=_
 rw [if_pos (by omega)]
 rfl
theorem ja {e f:GE}{v w:Nat}(he:e Z M=.ok (nD v) M)(hf:f Z M=.ok (nD w) M):ay false .add e f Z M=.ok (nD (v+w)) M:=by
 unfold ay
 rw [he]
 show (f Z M).bind _=_
 rw [hf]
 rfl
theorem FO {e:GE}{v c:Nat}(he:e Z M=.ok (nD v) M)(hc:c<=v):ay false .sub e (gC (.int (c:Int))) Z M=.ok (nD (v-c)) M:=by
 unfold ay
 rw [he]
 show Res.ok (D.int ((v:Int)-(c:Int))) M=_
 rw [<- Int.ofNat_sub hc]
end
section
variable {P:Nat->Option Df}(h:HasP P){M:Mem}
include h
theorem xr (n:Nat){p B w:Nat}(hp:aS M p B)(hB:B<=900000)(w2:2<=w)(w4:w<=4):ag (ak P (n+3) 32 [.cell p,nD w] M) fun d M'=>∃t,d=aH t/\i5 w t/\aS M' p (B+7)/\bp p M M':=by
 have w0:0<w:=M9 (by decide) w2
 have wM:w<=10000000:=MR w4 (Oi rfl)
 refine az h.law_tab rfl ?_
 show ag (iW (ak P (n+2)) [some (.cell p),some (nD w),none,none,none,none] M) _
 unfold iW
 refine eR h n (many:=6) rfl rfl hp (MR hB (by decide)) (by decide) (by decide) fun kind M1 hk p1 k1=>?_
 refine eR h n (many:=w) rfl rfl p1 (bd (k:=1) hB (by decide)) w0 wM fun word M2 hw p2 k2=>?_
 refine eR h n (many:=w) rfl rfl p2 (bd (k:=2) hB (by decide)) w0 wM fun other M3 ho p3 k3=>?_
 have K3:=(k1.trans k2).trans k3
 have fin:∀(l:List Nat) (M':Mem),i5 w l->aS M' p (B+7)->bp p M M'->(l.map nD).length<=sz/\∃t,D.tup (l.map nD)=aH t/\i5 w t/\aS M' p (B+7)/\bp p M M':=fun l M' hl hp' hk'=>⟨aT (by rw [MQ,hl.1];omega),l,rfl,hl,hp',hk'⟩
 have p7:aS M3 p (B+7):=p3.mono (vQ (k:=3) (by decide))
 show ag (af _ _ [some (.cell p),some (nD w),some (nD kind),some (nD word),some (nD other),none] M3) _
 refine bX (vO (c:=2) rfl) (fun _=>?_) fun _=>?_
 ·simp only [aX,eD,fG,bj,cv,j8,f9,cM]
  refine ⟨_,rfl,_,rfl,⟨by omega,by omega⟩,?_⟩
  refine comp_map (ds:=(List.range w).map fun (k:Nat)=>D.int (k:Int)) (fun i acc M'=>∃t:List Nat,acc=t.map nD/\(∀x∈t,x<w)/\aS M' p (B+3+i)/\bp p M M') (aT (by simp;omega)) (fun _ _ _ _=>rfl) ⟨[],rfl,(fun _ hx=>nomatch hx),p3,K3⟩ ?_ ?_
  ·rintro i d acc M' hd _ ⟨t,rfl,ht,hp',hk'⟩
   have hi:i<w:=by
    have:=(MH.mp hd).1
    simpa using this
   refine ⟨_,rfl,aO (eV h n (many:=w) rfl rfl hp' (by omega) w0 wM) ?_⟩
   rintro _ M4 ⟨v,rfl,hv,p4,k4⟩
   refine ⟨t++[v],by rw [Od];rfl,fun x hx=>?_,p4,hk'.trans k4⟩
   rcases NC.mp hx with z|z
   ·exact ht x z
   ·rw [NY.mp z];exact hv
  ·rintro acc M' hl ⟨t,rfl,ht,hp',hk'⟩
   simp only [MQ,NM] at hl hp'
   exact cF.mpr (fin t M' ⟨hl,ht⟩ (hp'.mono (by omega)) hk')
 refine bX (h9 (c:=2) rfl) (fun _=>?_) fun _=>?_
 ·simp only [aX,eD,fG,bj,cv,j8,f9,cM]
  refine ⟨_,rfl,_,rfl,⟨by omega,by omega⟩,?_⟩
  exact sZ (fun k=>(k+1+word) % w) (by omega) (fun k hk=>yj (ja (ja (ai rfl) rfl) (ai rfl)) rfl w0) (cF.mpr (fin _ M3 (ud fun k _=>Nat.mod_lt _ w0) p7 K3))
 refine bX (h9 (c:=3) rfl) (fun _=>?_) fun _=>?_
 ·simp only [aX,eD,fG,bj,cv,j8,f9,cM]
  refine ⟨_,rfl,_,rfl,⟨by omega,by omega⟩,?_⟩
  refine sZ (fun k=>if k=word then other else k) (by omega) (fun k hk=>?_) (cF.mpr (fin _ M3 (ud fun k hk=>by split<;>assumption) p7 K3))
  have e:(aC (aU .eq (aa 0) (aa 4)):GT) [some (.int (k:Int)),some (.cell p),some (nD w),some (nD kind),some (nD word),some (nD other),none] M3=.ok ((k:Int)==(word:Int)) M3:=rfl
  by_cases ck:k=word
  ·rw [if_pos ck]
   exact mi (k:=true) (e.trans (by rw [ck,beq_self_eq_true])) (fun _=>rfl) (fun z=>nomatch z)
  ·rw [if_neg ck]
   exact mi (k:=false) (e.trans (by rw [NA.mpr (by omega)])) (fun z=>nomatch z) (fun _=>rfl)
 refine bX (h9 (c:=4) rfl) (fun _=>bA ?_) fun _=>?_
 ·simp only [jG,jF,bj,cv,cM]
  refine ⟨_,rfl,aT (n:=1) (by decide),_,rfl,Hj.mpr ⟨⟨aT (by simp;omega),by omega,by omega⟩,List.replicate w word,?_,⟨List.length_replicate,fun x hx=>by rw [List.eq_of_mem_replicate hx];exact hw⟩,p7,K3⟩⟩
  simp [aH,nD]
 ·simp only [aX,nQ,EM,cM,F0,eD,fG,bj,cv,d7]
  simp
  refine ⟨by omega,aT (by omega),word,fE hw,other,fE ho,((List.range w).set word other).set other word,?_,⟨by simp,fun x hx=>?_⟩,p7.app,K3.trans bp.app⟩
  ·simp [aH,nD,List.map_set]
  ·rcases List.mem_or_eq_of_mem_set hx with z|rfl
   ·rcases List.mem_or_eq_of_mem_set z with y|rfl
    ·exact List.mem_range.mp y
    ·exact ho
   ·exact hw
theorem zZ (n:Nat){p B w pl:Nat}(hp:aS M p B)(hB:B<=800000)(w2:2<=w)(w4:w<=4)(p1:1<=pl)(p2:pl<=2):ag (ak P (n+4) 33 [.cell p,nD w,nD pl] M) fun d M'=>∃e:aW,d=e.d/\bY w pl e/\aS M' p (B+40)/\bp p M M':=by
 have pM:pl<=10000000:=MR p2 (Oi rfl)
 refine az h.law_deed rfl ?_
 show ag (ic (ak P (n+3)) [some (.cell p),some (nD w),some (nD pl),none,none,none,none] M) _
 unfold ic
 refine eR h (n+1) (many:=8) rfl rfl hp (MR hB (by decide)) (by decide) (by decide) fun kind M1 hk q1 k1=>?_
 refine cm (k:=fun d M'=>∃v:Nat,d=nD (1+v)/\v<3/\aS M' p (B+2)/\bp p M1 M') ?_ ?_
 ·rw [jG]
  simp only [fV]
  refine aO (eV h (n+1) (many:=3) rfl rfl q1 (bd (k:=1) hB (by decide)) (by decide) (by decide)) ?_
  rintro _ M2 ⟨v,rfl,hv,q,kk⟩
  exact oE.mpr ⟨v,by show D.int (1+(v:Int))=D.int ((1+v:Nat):Int);rw [Int.natCast_add];rfl,hv,q,kk⟩
 rintro _ M2 ⟨price,rfl,hc,q2,k2⟩
 refine eR h (n+1) (many:=pl) rfl rfl q2 (bd (k:=2) hB (by decide)) p1 pM fun at_ M3 ha q3 k3=>?_
 refine eR h (n+1) (many:=pl) rfl rfl q3 (bd (k:=3) hB (by decide)) p1 pM fun other M4 ho q4 k4=>?_
 have K4:=((k1.trans k2).trans k3).trans k4
 have co:fb (1+price):=⟨by omega,by omega⟩
 have q40:aS M4 p (B+40):=q4.mono (vQ (k:=4) (by decide))
 show ag (af _ _ [some (.cell p),some (nD w),some (nD pl),some (nD kind),some (nD (1+price)),some (nD at_),some (nD other)] M4) _
 refine bX (vO (c:=3) rfl) (fun _=>bA ?_) fun _=>?_
 ·simp only [jF,bj,cv,fV,cM,iq]
  refine ⟨_,rfl,_,rfl,_,rfl,aO (xr h n q4 (bd (k:=4) hB (by decide)) w2 w4) fun d M' ⟨t,e,ht,hp',hk'⟩=>⟨_,rfl,aT (n:=4) (by decide),.turn at_ t (1+price),?_,⟨ha,ht,co⟩,hp'.mono (vQ (k:=11) (by decide)),K4.trans hk'⟩⟩
  subst e;rfl
 refine bX (vO (c:=5) rfl) (fun _=>bA ?_) fun _=>?_
 ·obtain ⟨o,eo,ho'⟩:∃o:Nat,jq (aC (aU .eq (aa 3) (gI 3))) (ay false .mod (ay false .add (aa 5) (gI 1)) (aa 2)) (aa 6) [some (.cell p),some (nD w),some (nD pl),some (nD kind),some (nD (1+price)),some (nD at_),some (nD other)] M4=.ok (nD o) M4/\o<pl:=by
   have e:(aC (aU .eq (aa 3) (gI 3)):GT) [some (.cell p),some (nD w),some (nD pl),some (nD kind),some (nD (1+price)),some (nD at_),some (nD other)] M4=.ok ((kind:Int)==3) M4:=h9 (c:=3) rfl
   cases q:(kind:Int)==3 with
   |true=>rw [q] at e;exact ⟨(at_+1) % pl,mi e (fun _=>yj (w:=pl) (ja (v:=at_) (w:=1) (ai rfl) rfl) rfl p1) (fun z=>nomatch z),Nat.mod_lt _ p1⟩
   |false=>rw [q] at e;exact ⟨other,mi e (fun z=>nomatch z) (fun _=>ai rfl),ho⟩
  simp only [jF,bj,cv,fV,cM]
  refine ⟨_,rfl,?_⟩
  rw [eo,bU]
  exact ⟨_,rfl,aT (n:=4) (by decide),.move at_ o (1+price),rfl,⟨ha,ho',co⟩,q40,K4⟩
 refine bX (h9 (c:=5) rfl) (fun _=>bA ?_) fun _=>?_
 ·simp only [jF,bj,cv,fV]
  show ag (ak P (n+3) 31 [.cell p,nD w] M4) _
  refine tk h (n+1) q4 (bd (k:=4) hB (by decide)) (M9 (by decide) w2) (MR w4 (Oi rfl)) fun v M5 hv q5 k5=>?_
  exact ⟨aT (n:=4) (by decide),.put at_ v (1+price),rfl,⟨ha,hv,co⟩,q5.mono (vQ (k:=5) (by decide)),K4.trans k5⟩
 ·simp only [aX,eD,jF,bj,cv,fV,fG,j8,f9,cM]
  refine ⟨_,rfl,_,rfl,_,rfl,_,rfl,⟨by omega,by omega⟩,?_⟩
  refine comp_map (ds:=(List.range w).map fun (k:Nat)=>D.int (k:Int)) (fun i acc M'=>∃t:List (List Nat),acc=t.map aH/\(∀x∈t,i5 w x)/\aS M' p (B+4+i*7)/\bp p M M') (aT (by simp;omega)) (fun _ _ _ _=>rfl) ⟨[],rfl,(fun _ hx=>nomatch hx),q4,K4⟩ ?_ ?_
  ·rintro i d acc M' hd _ ⟨t,rfl,ht,hp',hk'⟩
   have hi:i<w:=by
    have:=(MH.mp hd).1
    simpa using this
   refine ⟨_,rfl,?_⟩
   rw [bw (aq (ai rfl) (aq (ai rfl) rfl))]
   refine aO (xr h n hp' (by omega) w2 w4) ?_
   rintro _ M4 ⟨v,rfl,hv,p4,k4⟩
   refine ⟨t++[v],by rw [Od];rfl,fun x hx=>?_,p4.mono (by omega),hk'.trans k4⟩
   rcases NC.mp hx with z|z
   ·exact ht x z
   ·rw [NY.mp z];exact hv
  ·rintro acc M' hl ⟨t,rfl,ht,hp',hk'⟩
   simp only [MQ,NM] at hl hp'
   exact cF.mpr ⟨aT (by rw [MQ];omega),_,rfl,aT (n:=5) (by decide),.join at_ other t (1+price),rfl,⟨ha,ho,⟨hl,ht⟩,co⟩,hp'.mono (by omega),hk'⟩
theorem vh (n:Nat){p B W Pl mo:Nat}(hp:aS M p B)(hB:B<=700000)(W2:2<=W)(W4:W<=4)(P1:1<=Pl)(P2:Pl<=2)(m1:1<=mo)(m6:mo<=6):ag (ak P (n+5) 34 [.cell p,nD W,nD Pl,nD mo] M) fun d M'=>∃m:aV,d=m.d/\a9 m/\m.words<=W/\m.places<=Pl/\m.deeds.length<=mo/\aS M' p (B+300)/\bp p M M':=by
 refine az h.law_machine rfl ?_
 show ag (fq (ak P (n+4)) [some (.cell p),some (nD W),some (nD Pl),some (nD mo),none,none,none,none] M) _
 unfold fq
 have plus:∀{Z:Env}{M:Mem}{g:GE}{B c many:Nat}{rest:GS}{K:Fl->Mem->Prop}{i:Nat},Z[0]?.getD none=some (.cell p)->g Z M=.ok (nD many) M->aS M p B->B<=1000000->0<many->many<=10000000->(∀(v:Nat) (M':Mem),v<many->aS M' p (B+1)->bp p M M'->ag (rest (Z.set i (some (nD (c+v)))) M') K)->ag (af (aK (.one i) (ay false .add (gC (.int (c:Int))) (au 31 (ak P (n+4)) (ae (aa 0) (ae g ah))))) rest Z M) K:=by
  intro Z M g B c many rest K i e0 eg hp hB h0 h1 hk
  refine cm (k:=fun d M'=>∃v:Nat,d=nD (c+v)/\v<many/\aS M' p (B+1)/\bp p M M') ?_ ?_
  ·rw [jG]
   simp only [fV]
   refine aO (eV h (n+2) (many:=many) e0 eg hp hB h0 h1) ?_
   rintro _ M2 ⟨v,rfl,hv,q,kk⟩
   exact oE.mpr ⟨v,by show D.int ((c:Int)+(v:Int))=D.int ((c+v:Nat):Int);rw [Int.natCast_add],hv,q,kk⟩
  ·rintro _ M' ⟨v,rfl,a,b,c⟩
   exact hk v M' a b c
 refine plus (c:=2) (many:=W-1) rfl (FO (c:=1) (ai rfl) (by omega)) hp (MR hB (by decide)) (by omega) (by omega) fun w M1 hw q1 k1=>?_
 refine plus (c:=1) (many:=Pl) rfl (ai rfl) q1 (bd (k:=1) hB (by decide)) P1 (MR P2 (Oi rfl)) fun pl M2 hpl q2 k2=>?_
 have pl2:p<M2.length:=q2.lt
 have K2:=k1.trans k2
 have ML:M.length<=M2.length:=K2.len
 have w2:2<=2+w:=Of _ _
 have w4:2+w<=4:=by omega
 have l1:1<=1+pl:=Of _ _
 have l2:1+pl<=2:=by omega
 generalize hW:2+w=w' at w2 w4
 generalize hP:1+pl=p' at l1 l2
 refine cm (k:=fun d M'=>d=.cell M2.length/\M'=M2++[[]]) ?_ ?_
 ·simp only [CI,cv]
  exact l9.mpr ⟨Nat.zero_le _,rfl,rfl⟩
 rintro _ _ ⟨rfl,rfl⟩
 show ag (af _ _ [some (.cell p),some (nD w'),some (nD p'),some (nD mo),some (.cell M2.length),none,none,none] (M2++[[]])) _
 simp only [aX,jT,f9,jG,fV]
 refine aO (eV h (n+2) (many:=mo) rfl rfl q2.app (bd (k:=2) hB (by decide)) m1 (MR m6 (Oi rfl))) ?_
 rintro _ M3 ⟨many,rfl,hmany,q3,k3⟩
 have e3:M3[M2.length]?=some []:=k3.get (List.getElem?_concat_length) (by omega)
 have K3:bp p M M3:=K2.trans (bp.app.trans k3)
 generalize hq:M2.length=q at *
 refine oE.mpr ⟨_,rfl,⟨by omega,by omega⟩,?_⟩
 rw [show (1+(many:Int)).toNat=1+many by omega]
 refine eK (ds:=(List.range (1+many)).map fun (k:Nat)=>D.int (k:Int)) (fun i Z M'=>∃ds:List aW,M'[q]?=some (ds.map aW.d)/\ds.length=i/\(∀d∈ds,bY w' p' d)/\aS M' p (B+3+i*45)/\bp p M M'/\∃a b c,Z=[some (.cell p),some (nD w'),some (nD p'),some (nD mo),some (.cell q),a,b,c])
  (fun _ _ _ _=>rfl) ⟨[],e3,rfl,(fun _ hd=>nomatch hd),q3,K3,none,none,none,rfl⟩ ?_ ?_
 ·rintro i d Z M' hd ⟨ds,e4,hl,hds,q4,K4,a,b,c,rfl⟩
  have hi:i<1+many:=by
   have:=(MH.mp hd).1
   simpa using this
  have hi6:i<=5:=by omega
  have hB4:B+3+i*45<=700228:=by omega
  have hqM:M.length<=q:=ML
  have hpq:p<q:=pl2
  refine ⟨_,rfl,?_⟩
  refine eR h (n+2) (many:=5) rfl rfl q4 (MR hB4 (by decide)) (by decide) (by decide) fun again M5 ha q5 k5=>?_
  have e5:=k5.get e4 (NR hpq)
  refine cm (k:=fun d M'=>∃e:aW,d=e.d/\bY w' p' e/\aS M' p (B+3+i*45+41)/\bp p M5 M') ?_ ?_
  ·rw [bw (aq (ai rfl) (aq (ai rfl) (aq (ai rfl) rfl)))]
   exact aO (zZ h n (w:=w') (pl:=p') q5 (bd (k:=1) hB4 (by decide)) w2 w4 l1 l2) fun d M' ⟨e,a,b,c,d⟩=>⟨e,a,b,c,d⟩
  rintro _ M6 ⟨e,rfl,he,q6,k6⟩
  have e6:=k6.get e5 (NR hpq)
  have K6:=(K4.trans k5).trans k6
  have hsm:(ds.map aW.d).length<sz:=Nat.lt_of_le_of_lt (show (ds.map aW.d).length<=50 by rw [MQ,hl];omega) (by decide)
  have fin:∀(e:aW) (M'':Mem) (x5 x6:Option D),bY w' p' e->M''[q]?=some (ds.map aW.d)->aS M'' p (B+3+(i+1)*45)->bp p M M''->
   ag (af (iA (aa 4) (aa 7)) aj [some (.cell p),some (nD w'),some (nD p'),some (nD mo),some (.cell q),x5,x6,some e.d] M'') fun fl M'=>∃ρ',fl=.next ρ'/\∃ds:List aW,M'[q]?=some (ds.map aW.d)/\ds.length=i+1/\(∀d∈ds,bY w' p' d)/\aS M' p (B+3+(i+1)*45)/\bp p M M'/\∃a b c,ρ'=[some (.cell p),some (nD w'),some (nD p'),some (nD mo),some (.cell q),a,b,c]:=by
   intro e M'' x5 x6 he e7 q7 K7
   simp only [aX,F4,cM]
   refine ⟨_,rfl,_,rfl,q,ds.map aW.d,rfl,e7,hsm,_,rfl,ds++[e],?_,by rw [NG,hl];rfl,fun d hd=>?_,q7.setq hpq,K7.setq hqM,_,_,_,rfl⟩
   ·rw [Nf (MH.mp e7).1,Od];rfl
   ·rcases NC.mp hd with z|z
    ·exact hds d z
    ·rw [NY.mp z];exact he
  show ag (af _ _ [some (.cell p),some (nD w'),some (nD p'),some (nD mo),some (.cell q),some d,some (nD again),some e.d] M6) _
  have en:(aC (aU .ne (aa 4) (bE false ah)):GT) [some (.cell p),some (nD w'),some (nD p'),some (nD mo),some (.cell q),some d,some (nD again),some e.d] M6=.ok (!ds.isEmpty) M6:=by
   refine cf ?_
   unfold aU
   show (bK M6 (bx .ne (.cell q) (.lst []) M6)).bind _=_
   rw [ne_nil e6];rfl
  refine bX (pE (h9 (c:=0) rfl) en) (fun cc=>?_) fun _=>fin e M6 _ _ he e6 (q6.mono (by omega)) K6
  have hpos:0<ds.length:=by
   rw [MM] at cc
   cases ds with
   |nil=>exact absurd cc.2 (by decide)
   |cons _ _=>exact Nat.succ_pos _
  simp only [aX,nQ,jG,mv,CJ,jF,bj,cv,JN,fV]
  have el:aR .len (ae (aa 4) ah) [some (.cell p),some (nD w'),some (nD p'),some (nD mo),some (.cell q),some d,some (nD again),some e.d] M6=.ok (nD ds.length) M6:=by
   refine aw ?_
   simp only [fG,bj,cv,cM]
   exact ⟨_,rfl,sG.mpr ⟨_,e6,by rw [MQ],rfl⟩⟩
  show ag (au 31 (ak P (n+4)) (ae (aa 0) (ae (aR .len (ae (aa 4) ah)) ah)) [some (.cell p),some (nD w'),some (nD p'),some (nD mo),some (.cell q),some d,some (nD again),some e.d] M6) _
  refine aO (eV h (n+2) (many:=ds.length) rfl el q6 (bd (k:=41) hB4 (by decide)) hpos (by omega)) ?_
  rintro _ M7 ⟨v,rfl,hv,q7,k7⟩
  have e7:=k7.get e6 (NR hpq)
  refine ⟨(ds.getD v e).d,?_,1,rfl,rfl,rfl,?_⟩
  ·show (M7[q]?).bind (fun ds=>(bI ds.length (v:Int)).bind fun j=>ds[j]?)=_
   rw [e7]
   show (bI (ds.map aW.d).length (v:Int)).bind (fun j=>(ds.map aW.d)[j]?)=_
   rw [fE (by rw [MQ];exact hv)]
   simp [NU,hv]
  ·refine aO (Bm (d:=ds.getD v e) (c:=e.cost) (k:=fun x M'=>ag (af (iA (aa 4) (aa 7)) aj [some (.cell p),some (nD w'),some (nD p'),some (nD mo),some (.cell q),some d,some (nD again),some x] M') fun fl M'=>∃ρ',fl=.next ρ'/\∃ds:List aW,M'[q]?=some (ds.map aW.d)/\ds.length=i+1/\(∀d∈ds,bY w' p' d)/\aS M' p (B+3+(i+1)*45)/\bp p M M'/\∃a b c,ρ'=[some (.cell p),some (nD w'),some (nD p'),some (nD mo),some (.cell q),a,b,c]) ?_) fun x1 M3 hx=>⟨1,rfl,nD e.cost,qm,aT (n:=1) (by decide),hx⟩
   exact fin _ M7 _ _ (zj (hds _ (getD_mem hv)) (Fb he)) e7 (q7.mono (by omega)) (K6.trans k7)
 ·rintro Z M' ⟨ds,e4,hl,hds,q4,K4,a,b,c,rfl⟩
  simp only [MQ,NM] at hl q4
  refine bA ?_
  simp only [jF,bj,cv,fG,cM]
  refine ⟨_,rfl,_,rfl,_,rfl,vc.mpr ⟨_,e4,aT (n:=3) (by decide),⟨w',p',ds⟩,rfl,⟨w2,w4,l1,l2,?_,?_,hds⟩,?_,?_,?_,q4.mono (by omega),K4⟩⟩
  ·show 1<=ds.length;omega
  ·show ds.length<=6;omega
  ·show w'<=W;omega
  ·show p'<=Pl;omega
  ·show ds.length<=mo;omega
omit h in
theorem uN {g:GE}{Z:Env}{l:List aW}(e:g Z M=.ok (.tup (l.map aW.d)) M):aR .len (ae g ah) Z M=.ok (nD l.length) M:=by
 refine aw ?_
 simp only [fG]
 rw [aq e rfl,bU]
 exact ⟨congrArg (fun (n:Nat)=>D.int n) (MQ _),rfl⟩
theorem DF (h35:P 35=some ⟨3,6,gK⟩)(n:Nat){p B mo:Nat}{m:aV}(hm:a9 m)(hp:aS M p B)(hB:B<=700000)(hmo:mo<=40):ag (ak P (n+3) 35 [.cell p,m.d,nD mo] M) fun d M'=>∃r:List Nat,d=.lst (r.map nD)/\a7 m r/\r.length<=mo/\aS M' p (B+50)/\bp p M M':=by
 refine az h35 rfl ?_
 show ag (gK (ak P (n+2)) [some (.cell p),some m.d,some (nD mo),none,none,none] M) _
 unfold gK
 refine eR h n (many:=4) rfl rfl hp (by omega) (by decide) (by decide) fun kind M1 _ q1 k1=>?_
 refine cm (k:=fun d M'=>∃v:Nat,d=nD v/\v<=mo/\aS M' p (B+2)/\bp p M M') ?_ ?_
 ·show ag (jq _ _ _ [some (.cell p),some m.d,some (nD mo),some (nD kind),none,none] M1) _
  have t0:(aC (aU .eq (aa 3) (gI 0)):GT) [some (.cell p),some m.d,some (nD mo),some (nD kind),none,none] M1=.ok ((kind:Int)==((0:Nat):Int)) M1:=h9 rfl
  rw [v9,t0,bU]
  split
  ·exact ⟨mo,rfl,MN _,q1.mono (by omega),k1⟩
  ·refine aO (eV h n (many:=mo+1) rfl rfl q1 (by omega) (Nat.succ_pos _) (by omega)) fun d M' ⟨v,e,hv,a,b⟩=>⟨v,e,Nat.le_of_lt_succ hv,a,k1.trans b⟩
 intro x M2 hx
 show ag (af _ _ [some (.cell p),some m.d,some (nD mo),some (nD kind),some x,none] M2) _
 obtain ⟨many,ex,hmany,q2,k2⟩:=hx
 rw [ex];clear ex
 simp only [aX,nQ,j8,f9,cM]
 have m40:many<=40:=MR hmany hmo
 refine ⟨_,rfl,_,rfl,⟨Int.le_trans (by decide) (Int.natCast_nonneg _),Int.lt_of_le_of_lt (Int.ofNat_le.mpr m40) (by decide)⟩,?_⟩
 rw [N6]
 refine comp_map (ds:=(List.range many).map fun (k:Nat)=>D.int (k:Int)) (fun i acc M'=>∃t:List Nat,acc=t.map nD/\(∀x∈t,x<m.deeds.length)/\aS M' p (B+2+i)/\bp p M M') (aT (by rw [MQ,NM];omega)) (fun _ _ _ _=>rfl) ⟨[],rfl,(fun _ z=>nomatch z),q2,k2⟩ ?_ ?_
 ·rintro i d acc M' hd _ ⟨t,rfl,ht,hp',hk'⟩
  have hi:i<many:=by
   have:=(MH.mp hd).1
   rwa [MQ,NM] at this
  refine ⟨_,rfl,?_⟩
  refine aO (eV h n (many:=m.deeds.length) rfl (uN (bQ (ai rfl) rfl Cf)) hp' (by omega) hm.d1 (by have:=hm.d6;omega)) ?_
  rintro _ M4 ⟨v,rfl,hv,p4,k4⟩
  refine ⟨t++[v],by rw [Od];rfl,fun x hx=>?_,p4,hk'.trans k4⟩
  rcases NC.mp hx with z|z
  ·exact ht x z
  ·rw [NY.mp z];exact hv
 ·rintro acc M' hl ⟨t,rfl,ht,hp',hk'⟩
  rw [MQ,MQ,NM] at hl
  rw [MQ,NM] at hp'
  have q3:=hp'.mono (show B+2+many<=B+50 by omega)
  have k3:=hk'
  have hl:t.length<=many:=Nat.le_of_eq hl
  refine cF.mpr ⟨aT (by rw [MQ];omega),?_⟩
  show ag (af _ _ [some (.cell p),some m.d,some (nD mo),some (nD kind),some (nD many),some (.lst (t.map nD))] M') _
  refine bX (h9 (v:=kind) (c:=1) rfl) (fun _=>?_) fun _=>cZ (ai rfl) ⟨t,rfl,⟨by omega,ht⟩,by omega,q3,k3⟩
  refine cm (k:=fun d M4=>M4=M'/\d=.lst ((((List.replicate many (t.take 2)).flatten).take many).map nD)) ?_ ?_
  ·have l2:((t.map nD).take 2).length<=2:=by rw [N8];exact Nat.min_le_left _ _
   simp only [mv,jG,cM,fV]
   refine ⟨_,rfl,rfl,rfl,(rR (a:=2)).mpr ⟨aT (by omega),_,rfl,Hk.mpr ⟨⟨?_,by omega,by omega⟩,cF.mpr ⟨?_,?_⟩⟩⟩⟩
   ·exact MR (Nat.mul_le_mul l2 (show many<=40 by omega)) (by decide)
   ·rw [N6,List.length_flatten,List.map_replicate,List.sum_replicate_nat]
    exact MR (Nat.mul_le_mul (show many<=40 by omega) l2) (by decide)
   ·refine ⟨_,rfl,rfl,rfl,rR.mpr ⟨aT (by rw [N8];exact MR (Nat.min_le_left _ _) (by omega)),rfl,?_⟩⟩
    rw [N6,OQ,List.map_flatten,List.map_replicate,OQ]
  rintro _ _ ⟨rfl,rfl⟩
  have lm:(((List.replicate many (t.take 2)).flatten).take many).length<=many:=by rw [N8];exact Nat.min_le_left _ _
  refine xE.mpr (d7.mpr (cZ (ai rfl) ⟨_,rfl,⟨by omega,fun i hi=>?_⟩,by omega,q3,k3⟩))
  obtain ⟨l,hl1,hl2⟩:=List.mem_flatten.mp (NT hi)
  rw [(List.mem_replicate.mp hl1).2] at hl2
  exact ht i (NT hl2)
end
end LD
namespace LD
open PySem
theorem DP {xs:List D}{a b:Nat}{M:Mem}{k:D->Mem->Prop}:ag (fP false (.frz xs) (.int a) (.int b) M) k↔(cut xs (min a xs.length) (min b xs.length)).length<=sz/\k (.lst (cut xs (min a xs.length) (min b xs.length))) M:=by
 show ag (match aJ xs.length 0 (.int a),aJ xs.length xs.length (.int b) with|some l,some h=>bf false (cut xs l h) M|_,_=>.bad) k↔_
 have e1:aJ xs.length 0 (.int a)=some (min a xs.length):=by
  show some _=_
  rw [if_neg (by omega)];simp
 have e2:aJ xs.length xs.length (.int b)=some (min b xs.length):=by
  show some _=_
  rw [if_neg (by omega)];simp
 rw [e1,e2]
 exact cF
theorem Ac {xs:List D}{b:Nat}{M:Mem}{k:D->Mem->Prop}:ag (fP false (.frz xs) .non (.int b) M) k↔(cut xs 0 (min b xs.length)).length<=sz/\k (.lst (cut xs 0 (min b xs.length))) M:=by
 show ag (match aJ xs.length 0 D.non,aJ xs.length xs.length (.int b) with|some l,some h=>bf false (cut xs l h) M|_,_=>.bad) k↔_
 have e2:aJ xs.length xs.length (.int b)=some (min b xs.length):=by
  show some _=_
  rw [if_neg (by omega)];simp
 rw [e2]
 exact cF
theorem uW {α β:Type}(f:α->β)(l:List α)(a b:Nat):cut (l.map f) a b=(cut l a b).map f:=by simp [cut,OQ,List.map_drop]
theorem pw {α:Type}(l:List α)(a b:Nat):(cut l a b).length<=l.length:=by simp [cut];omega
section
variable {P:Nat->Option Df}(h:HasP0 P){M:Mem}
include h
theorem DH (n:Nat){ns:List Int}(hn:ns.length<=63):ag (ak P (n+1) 29 [.frz (ns.map D.int)] []) fun d M'=>d=.cell 1/\aS M' 1 0:=by
 refine az h.law_open rfl ?_
 simp [jO,dn]
 refine (Ac (b:=12)).mpr ⟨?_,?_⟩
 ·exact aT (MR (pw _ _ _) (by simp;omega))
 simp only [AQ,l9]
 refine ⟨aT (MR (pw _ _ _) (by simp;omega)),(DP (a:=12) (b:=63)).mpr ⟨aT (MR (pw _ _ _) (by simp;omega)),⟨rfl,rfl⟩,?_⟩⟩
 rw [uW,uW]
 simp only [MQ,List.length_nil,OR]
 have e63:min 63 ns.length=ns.length:=by omega
 rw [e63]
 refine eK (ds:=dP 0 ((cut ns (min 12 ns.length) ns.length).map D.int)) (fun i Z M'=>∃l:List Int,M'=[l.map D.int]/\l.length=min 12 ns.length/\∃a b,Z=[some (.frz (ns.map D.int)),some (.cell 0),a,b]) (fun _ _ _ _=>rfl) ⟨cut ns 0 (min 12 ns.length),rfl,by simp [cut],none,none,rfl⟩ ?_ ?_
 ·rintro i d Z M' hd ⟨l,rfl,hl,a,b,rfl⟩
  rw [jE,Nv] at hd
  cases e:(cut ns (min 12 ns.length) ns.length)[i]? with
  |none=>rw [e] at hd;cases hd
  | some x =>
    rw [e] at hd
    have hd:D.tup [.int ((0+i:Nat):Int),.int x]=d:=MO hd
    subst hd
    have hi:=(MH.mp e).1
    have hlen:12<ns.length:=by
     by_cases c:12<ns.length
     ·exact c
     ·have:min 12 ns.length=ns.length:=by omega
      rw [this] at hi
      simp [cut] at hi
    have l12:l.length=12:=by omega
    have r1:=N7 (i:Int) (show (12:Int)≠0 by decide)
    have r2:=NZ (i:Int) (show (0:Int)<12 by decide)
    obtain ⟨y,ey⟩:=pe (l:=l) r1 (by rw [l12];exact r2)
    obtain ⟨k,ek⟩:∃k:Nat,(i:Int) % 12=(k:Int):=⟨((i:Int) % 12).toNat,by omega⟩
    refine ⟨_,rfl,?_⟩
    simp
    rw [ek] at ey ⊢
    have hk:k<l.length:=by omega
    refine ⟨_,ey,?_⟩
    simp only [oE]
    refine ⟨l.map D.int,rfl,k,?_,l.set k (y+x),?_,by simp [hl]⟩
    ·simpa using fE hk
    ·simp [List.map_set]
 ·rintro Z M' ⟨l,rfl,hl,a,b,rfl⟩
  simp
  exact ⟨by decide,⟨0,l,0,0,rfl,rfl,by decide,by decide,by decide,by decide⟩⟩
end
end LD
namespace LD
open PySem
theorem ji (n:Nat)(l:List Nat):aA (n+1) (aH l)=true:=by
 show (l.map nD).all (aA n)=true
 rw [MX];intro x hx;obtain ⟨i,_,rfl⟩:=NB.mp hx;cases n<;>rfl
end LD
namespace LD
open PySem
structure HasB (P:Nat->Option Df):Prop where
 after:P 41=some ⟨2,4,tL⟩
 begins:P 42=some ⟨1,1,qL⟩
structure HasS0 (P:Nat->Option Df):Prop where
 same:P 40=some ⟨2,2,cb⟩
structure HasS (P:Nat->Option Df):Prop extends HasB P,HasS0 P
theorem pG:∀ds:List D,gP ds ds=ds.map fun d=>.tup [d,d]
 |[]=>rfl
 |d::r=>by simp [gP,pG r]
theorem kB {ds:List D}{M:Mem}:bx .notin (.bl false) (.lst (ds.map fun _=>.bl true)) M=some true:=by
 show ((bG M (.lst (ds.map fun _=>.bl true))).bind (lG (view M (.bl false)))).map (!·)=_
 show (lG (.bl false) (ds.map fun _=>.bl true)).map (!·)=_
 unfold lG
 rw [if_pos]
 ·have:(ds.map fun _=>D.bl true).any (fun y=>fz y (.bl false))=false:=by
   rw [List.any_eq_false];intro x hx;obtain ⟨_,_,rfl⟩:=NB.mp hx;exact Ng
  rw [this];rfl
 ·simp [aA]
theorem tU {ds:List D}{M:Mem}:(bG M (.lst (ds.map fun _=>.bl true))).bind ((Option.map fun x=>!x)∘lG (view M (.bl false)))=some true:=kB (ds:=ds) (M:=M)
theorem JM {i:Nat}{M:Mem}:lM M (.int (i:Int)) (.int (i:Int))=some true:=by
 show some ((i:Int)==(i:Int))=some true
 simp
@[simp] theorem Ly {m:Bool}{ds:List D}{M:Mem}{k:D->Mem->Prop}:ag (dA (.list m) [.tup ds] M) k↔ag (bf m ds M) k:=NS
noncomputable def rT (c:Call):GS:=af (aQ (aC (aU .ne (aR .len (ae (aa 0) ah)) (aR .len (ae (aa 1) ah)))) rF aj) (af (aM (aU .notin HN (b7 false 2 (.tup [0,1]) (mn (aa 0) (aa 1)) (bS (au 40 c (ae (aa 0) (ae (aa 1) ah))))))) aj)
section
variable {P:Nat->Option Df}(h:HasS0 P){M:Mem}
include h
theorem kY (n:Nat)(i:Nat):ak P (n+1) 40 [nD i,nD i] M=.ok (.bl true) M:=by
 refine aw (az h.same rfl ?_)
 show ag (cb (ak P n) [some (nD i),some (nD i)] M) _
 unfold cb
 exact bD rfl (bD rfl (j3 rfl (v:=.bl ((i:Int)==(i:Int))) rfl ⟨by simp,rfl⟩))
theorem pW (n:Nat){x y:D}{ds:List D}{Z:Env}{kl:List D->Mem->Prop}(hx:bG M x=some ds)(hy:bG M y=some ds)(hz:ds.length<=sz)(hs:∀d∈ds,ak P n 40 [d,d] M=.ok (.bl true) M)(hk:kl (ds.map fun _=>.bl true) M) :
 ag (dj (dw (.tup [0,1]) (bS (au 40 (ak P n) (ae (aa 0) (ae (aa 1) ah)))) (none::none::Z)) (km x y) [] M) kl:=by
 refine ir (ds:=ds.map fun d=>.tup [d,d]) (fun _=>.bl true) (by simpa using hz) ?_ ?_ ?_
 ·simp [km,hx,hy,pG]
 ·intro d hd
  obtain ⟨e,he,rfl⟩:=NB.mp hd
  refine ⟨_,rfl,?_⟩
  refine aw ?_
  simp
  rw [hs e he]
  exact ⟨rfl,rfl⟩
 ·simpa [OE] using hk
theorem Ae (n:Nat){x y:D}{ds:List D}(hx:bG M x=some ds)(hy:bG M y=some ds)(lx:dA .len [x] M=.ok (.int ds.length) M)(ly:dA .len [y] M=.ok (.int ds.length) M)(sx:cX x=true)(sy:cX y=true)(hz:ds.length<=sz)(hs:∀d∈ds,ak P n 40 [d,d] M=.ok (.bl true) M) :
 ag (rT (ak P n) [some x,some y] M) (nr fun d M'=>d=.bl true/\M'=M):=by
 simp [rT,lx,ly,sx,sy]
 exact pW h n hx hy hz hs ⟨by simpa using hz,kB,rfl⟩
theorem pS (n:Nat){ds:List D}(hz:ds.length<=sz)(hs:∀d∈ds,ak P n 40 [d,d] M=.ok (.bl true) M):ak P (n+1) 40 [.tup ds,.tup ds] M=.ok (.bl true) M:=by
 refine aw (az h.same rfl ?_)
 show ag (cb (ak P n) [some (.tup ds),some (.tup ds)] M) _
 unfold cb
 exact bD rfl (bD rfl (bD rfl (bD rfl (bD rfl (Ae h n rfl rfl rfl rfl rfl rfl hz hs)))))
theorem xu (n:Nat){x y:D}{r:List Nat}(hx:bq M x r)(hy:bq M y r)(hz:r.length<=100000):ak P (n+2) 40 [x,y] M=.ok (.bl true) M:=by
 refine aw (az h.same rfl ?_)
 have hs:∀d∈r.map nD,ak P (n+1) 40 [d,d] M=.ok (.bl true) M:=fun d hd=>by obtain ⟨i,_,rfl⟩:=NB.mp hd;exact kY h n i
 have e1:=hx.seq
 have e2:=hy.seq
 have lx:∀k:D->Mem->Prop,ag (dA .len [x] M) k↔k (.int r.length) M:=fun k=>hx.len
 have ly:∀k:D->Mem->Prop,ag (dA .len [y] M) k↔k (.int r.length) M:=fun k=>hy.len
 have ix:∀t,dF t x=some (t==.list):=by
  intro t;rcases hx with rfl|⟨q,rfl,_⟩<;>rfl
 have iy:∀t,dF t y=some (t==.list):=by
  intro t;rcases hy with rfl|⟨q,rfl,_⟩<;>rfl
 have sx:=hx.is.1
 have sy:=hy.is.1
 have ny:=hy.non
 have c1:bx .isN y .non M=some false:=by
  show some (iP y)=_
  rw [ny]
 simp [cb,c1,ix,iy,lx,ly,sx,sy]
 exact ⟨by rfl,by rfl,pW h (n+1) e1 e2 (aT (by simp;omega)) hs ⟨aT (by simp;omega),kB,rfl⟩⟩
theorem mG (n:Nat){s:List Nat}(hz:s.length<=100):ak P (n+2) 40 [aH s,aH s] M=.ok (.bl true) M:=
 pS h (n+1) (aT (by simp;omega)) fun d hd=>by obtain ⟨i,_,rfl⟩:=NB.mp hd;exact kY h n i
end
end LD
namespace LD
open PySem
section
variable {Z:Env}{M:Mem}{a b d:GE}{k:D->Mem->Prop}{kw:Walk->Mem->Prop}{kf:Fl->Mem->Prop}
@[simp] theorem My:ag (ml a b d Z M) kw↔ag (a Z M) fun x M=>ag (b Z M) fun y M=>ag (d Z M) fun z M=>(cX x&&cX y&&cX z)=true/\kw (nJ x y z) M:=by
 simp only [ml,bo];refine iff_of_eq ?_;congr 1;funext x M;congr 1;funext y M;congr 1;funext z M;split<;>simp_all
@[simp] theorem Mq {m:Bool}{xs:List D}:ag (Al m (.lst xs) M) k↔ag (bf m xs.reverse M) k:=NS
@[simp] theorem Mp {m:Bool}{xs:List D}:ag (Al m (.tup xs) M) k↔k (.tup xs.reverse) M:=NS
theorem EH {t:cy}{w:Walk}{gb:GS}{ds:List D}(I:Nat->Env->Mem->Prop)(R:D->Mem->Prop)(hw:∀i Z M,I i Z M->w M=some ds)(hwR:∀d M,R d M->w M=some ds)(h0:I 0 Z M)
 (hs:∀i d Z M,ds[i]?=some d->I i Z M->∃ρ1,bN t d Z=some ρ1/\ag (gb ρ1 M) fun fl M=>(∃ρ',fl=.next ρ'/\I (i+1) ρ' M)\/∃d,fl=.ret d/\R d M) (hk:∀Z M,I ds.length Z M->kf (.next Z) M) (hr:∀d M,R d M->kf (.ret d) M) :
 ag (dj (gk t gb) w (.next Z) M) kf:=by
 refine jb (fun i fl M=>(∃Z,fl=.next Z/\I i Z M)\/∃d,fl=.ret d/\R d M) (fun i fl M h=>h.elim (fun ⟨Z,_,h⟩=>hw i Z M h) fun ⟨d,_,h⟩=>hwR d M h) (.inl ⟨Z,rfl,h0⟩) ?_ ?_
 ·rintro i d fl M hd (⟨Z,rfl,hI⟩|⟨d',rfl,hR⟩)
  ·obtain ⟨ρ1,e,h⟩:=hs i d Z M hd hI
   simp only [gk,bo,jj,e]
   exact ⟨ρ1,rfl,h⟩
  ·exact .inr ⟨d',rfl,hR⟩
 ·rintro fl M (⟨Z,rfl,hI⟩|⟨d,rfl,hR⟩)
  ·exact hk Z M hI
  ·exact hr d M hR
end
theorem Iv (i j:Nat):fz (nD i) (nD j)=decide (i=j):=by
 show ((i:Int)==(j:Int))=_
 rw [OB];simp;omega
theorem oB:∀l r:List Nat,iE (l.map nD) (r.map nD)=decide (l=r)
 |[],[]=>rfl
 |[],_::_=>rfl
 |_::_,[]=>rfl
 | i :: l, j :: r => by
   show (fz (nD i) (nD j)&&iE (l.map nD) (r.map nD))=_
   rw [Iv,oB l r,OB];simp
theorem tB (l r:List Nat):fz (aH l) (aH r)=decide (l=r):=oB l r
theorem m7 (n:Nat)(l:List Nat):aA (n+1) (.lst (l.map nD))=true:=by
 show (l.map nD).all (aA n)=true
 rw [MX];intro x hx;obtain ⟨i,_,rfl⟩:=NB.mp hx;cases n<;>rfl
theorem tm {l r:List Nat}{M:Mem}:bx .ne (aH l) (aH r) M=some (!decide (l=r)):=j9 (ji 63 l) (ji 63 r) (tB l r)
theorem Bt {l r:List Nat}{M:Mem}:bx .eq (aH l) (aH r) M=some (decide (l=r)):=ka (ji 63 l) (ji 63 r) (tB l r)
theorem yZ {l r:List Nat}{M:Mem}:bx .ne (.lst (l.map nD)) (.lst (r.map nD)) M=some (!decide (l=r)):=j9 (m7 63 l) (m7 63 r) (oB l r)
noncomputable def ends (m:aV)(r:List Nat):List (List Nat):=(bL m).map (cK m r)
theorem qy (m:aV)(r:List Nat):dB m r=.tup ((ends m r).map aH):=by simp [dB,ends,OE]
noncomputable def bP (m:aV)(a b:List Nat):Option (List Nat):=(bL m).find? fun s=>!decide (cK m a s=cK m b s)
noncomputable def fx:Option (List Nat)->D
 |some s=>aH s
 |none=>.non
theorem mT {α:Type}(f g e:α->D):∀l:List α,fc (l.map f) (l.map g) (l.map e)=l.map fun s=>.tup [f s,g s,e s]
 |[]=>rfl
 |a::l=>by simp [fc,mT f g e l]
theorem xW {m:aV}{a b:List Nat}{i:Nat}{s:List Nat}(hi:(bL m)[i]?=some s)(h:∀t∈(bL m).take i,cK m a t=cK m b t)(hs:cK m a s≠cK m b s):bP m a b=some s:=by
 have e:bL m=(bL m).take i++s::(bL m).drop (i+1):=by
  obtain ⟨h1,h2⟩:=MH.mp hi
  rw [<- h2,<- List.drop_eq_getElem_cons h1,List.take_append_drop]
 unfold bP
 rw [e,List.find?_append]
 have:((bL m).take i).find? (fun s=>!decide (cK m a s=cK m b s))=none:=by
  rw [List.find?_eq_none];intro t ht;simp [h t ht]
 rw [this]
 simp [List.find?_cons,hs]
theorem xV {m:aV}{a b:List Nat}(h:∀t∈bL m,cK m a t=cK m b t):bP m a b=none:=by
 unfold bP
 rw [List.find?_eq_none];intro t ht;simp [h t ht]
structure pF (P:Nat->Option Df):Prop where
 h15:P 15=some ⟨1,6,cS⟩
 h27:P 27=some ⟨2,2,fF⟩
 h46:P 46=some ⟨2,2,eY⟩
 parted:P 48=some ⟨3,8,nA⟩
section
variable {P:Nat->Option Df}{M:Mem}
theorem rO (h:HasM P)(ha:pF P)(n:Nat){m:aV}{x y:D}{a b:List Nat}(hx:bq M x a)(hy:bq M y b)(hm:a9 m)(h1:a7 m a)(h2:a7 m b):ag (ak P (n+12) 48 [m.d,x,y] M) fun d M'=>d=fx (bP m a b)/\Sub M M':=by
 have b1:=la h ha.h15 ha.h27 ha.h46 n hx hm h1
 have b2:=la h ha.h15 ha.h27 ha.h46 n (hy.sub (Sub.app (X:=(bL m).map fun s=>(cP m a s).map aH))) hm h2
 generalize hM2:(M++(bL m).map fun s=>(cP m a s).map aH)++((bL m).map fun s=>(cP m b s).map aH)=M2 at b2
 have S2:Sub M M2:=by subst hM2;rw [List.append_assoc];exact Sub.app
 have bb:=uq h.toHasM0 ha.h15 (n+2) (M:=M2) hm
 refine az ha.parted rfl ?_
 simp [nA,b1,b2,bb,cX]
 refine ⟨⟨rfl,rfl⟩,?_⟩
 refine EH (ds:=(bL m).map fun s=>.tup [aH s,aH (cK m a s),aH (cK m b s)]) (fun i Z M'=>(∀t∈(bL m).take i,cK m a t=cK m b t)/\Sub M M'/\∃x5 x6 x7,Z=[some m.d,some x,some y,some (dB m a),some (dB m b),x5,x6,x7]) (fun d M'=>d=fx (bP m a b)/\Sub M M') ?_ ?_ ⟨by simp,S2,none,none,none,rfl⟩ ?_ ?_ ?_
 ·rintro i Z M' _
  simp [nJ,bG,dB,mT]
 ·rintro d M' _
  simp [nJ,bG,dB,mT]
 ·rintro i d Z M' hd ⟨hp,S',x5,x6,x7,rfl⟩
  rw [Nv] at hd
  cases e:(bL m)[i]? with
  |none=>rw [e] at hd;cases hd
  | some s =>
    rw [e] at hd
    cases MO hd
    refine ⟨_,rfl,?_⟩
    by_cases c:cK m a s=cK m b s
    ·simp [tm,c]
     refine ⟨?_,S'⟩
     intro t ht
     rw [Ou,e] at ht
     rcases NC.mp ht with z|z
     ·exact hp t z
     ·simp at z;subst z;exact c
    ·simp [tm,c]
     exact ⟨by rw [xW e hp c];rfl,S'⟩
 ·rintro Z M' ⟨hp,S',x5,x6,x7,rfl⟩
  simp at hp ⊢
  exact ⟨by rw [xV (by simpa [N4] using hp)];rfl,S'⟩
 ·rintro d M' ⟨rfl,S'⟩
  simp [S']
theorem pT (h:HasM P)(ha:pF P)(n:Nat){m:aV}{a b:List Nat}(hm:a9 m)(h1:a7 m a)(h2:a7 m b):ag (ak P (n+12) 48 [m.d,av a,av b] M) fun d M'=>d=fx (bP m a b)/\Sub M M':=rO h ha n .l .l hm h1 h2
end
end LD
namespace LD
open PySem
structure wC (P:Nat->Option Df):Prop where
 init:P 129=some ⟨3,3,eP⟩
 row:P 130=some ⟨1,1,iX⟩
 cost:P 131=some ⟨1,1,ig⟩
 beh:P 132=some ⟨1,1,eC⟩
 put:P 133=some ⟨3,3,iY⟩
 out:P 134=some ⟨2,2,iZ⟩
 back:P 135=some ⟨1,1,eL⟩
 change:P 136=some ⟨2,2,fM⟩
 give:P 137=some ⟨2,3,ie⟩
 summed:P 47=some ⟨2,2,dC⟩
structure ba (M:Mem) (k e:Nat) (m:aV) (r:List Nat) (hs:List (List Nat)):Prop where
 ob:M[k]?=some [.int 40,m.d,av r,.cell e]
 er:M[e]?=some (hs.map av)
theorem ba.ne {M:Mem}{k e:Nat}{m:aV}{r:List Nat}{hs:List (List Nat)}(h:ba M k e m r hs):e≠k:=fun z=>by
 have a:=h.ob
 rw [<- z,h.er] at a
 cases hs with
 |nil=>cases a
 |cons x l=>cases a
structure d9 (l:List Nat) (M M':Mem):Prop where
 len:M.length<=M'.length
 at':∀k,k<M.length->k∉l->M'[k]?=M[k]?
theorem d9.refl {l:List Nat}{M:Mem}:d9 l M M:=⟨MN _,fun _ _ _=>rfl⟩
theorem d9.trans {l:List Nat}{M M1 M2:Mem}(a:d9 l M M1)(b:d9 l M1 M2):d9 l M M2:=⟨MR a.len b.len,fun k hk n=>(b.at' k (M9 hk a.len) n).trans (a.at' k hk n)⟩
theorem d9.of {l:List Nat}{M M':Mem}(a:Sub M M'):d9 l M M':=⟨a.len,fun k hk _=>a.at' k hk⟩
theorem d9.set {l:List Nat}{M:Mem}{k:Nat}{ds:List D}(h:k∈l):d9 l M (M.set k ds):=⟨by simp,fun j _ n=>MW fun e=>n (by rw [<- e];exact h)⟩
theorem n8 {M:Mem}{k:Nat}{ds:List D}(e:M[k]?=some ds):k<M.length:=(MH.mp e).1
section
variable {Z:Env}{M M':Mem}{a v:GE}{s:GA}{k i:Nat}{es:List D}{nm:Str}{kf:Fl->Mem->Prop}{rest:GS}
theorem EI {d:D}(ob:M[k]?=some (.int 40::es))(hi:(bT 40).findIdx? (·==nm)=some i)(he:es[i]?=some d):sR M (aG k) nm=some d:=by
 unfold sR aG
 rw [if_pos (Of _ _),Ob,ob]
 show ((bT 40).findIdx? (·==nm)).bind _=_
 rw [hi]
 exact he
theorem dG {d:D}(ha:a Z M=.ok (.fn (aG k)) M)(ob:M[k]?=some (.int 40::es))(hi:(bT 40).findIdx? (·==nm)=some i)(he:es[i]?=some d):bR nm a Z M=.ok d M:=by
 unfold bR
 rw [ha]
 show bK M (sR M (aG k) nm)=_
 rw [EI ob hi he]
 rfl
theorem DU {z:D}(hv:v Z M=.ok z M')(ha:a Z M'=.ok (.fn (aG k)) M')(ob:M'[k]?=some (.int 40::es))(hi:(bT 40).findIdx? (·==nm)=some i)(hl:i<es.length)(h:ag (rest Z (M'.set k (.int 40::es.set i z))) kf):ag (af (hU nm a v) rest Z M) kf:=by
 have e:kL M' (aG k) nm z=some (M'.set k (.int 40::es.set i z)):=by
  unfold kL aG
  rw [if_pos (Of _ _),Ob,ob]
  show ((bT 40).findIdx? (·==nm)).bind _=_
  rw [hi]
  exact if_pos hl
 simp only [aX]
 unfold hU
 rw [hv]
 show ag ((a Z M').bind _) _
 rw [ha]
 show ag (match kL M' (aG k) nm z with|some M'=>Res.ok (Fl.next Z) M'|none=>.bad) _
 rw [e]
 exact h
theorem mW {z:D}(hv:v Z M=.ok z M')(ha:a Z M'=.ok (.fn (aG k)) M')(ob:M'[k]?=some (.int 40::es))(hi:(bT 40).findIdx? (·==nm)=some es.length)(h:ag (rest Z (M'.set k (.int 40::(es++[z])))) kf):ag (af (hU nm a v) rest Z M) kf:=by
 have e:kL M' (aG k) nm z=some (M'.set k (.int 40::(es++[z]))):=by
  unfold kL aG
  rw [if_pos (Of _ _),Ob,ob]
  show ((bT 40).findIdx? (·==nm)).bind _=_
  rw [hi]
  show (if es.length<es.length then _ else if es.length=es.length then _ else none)=_
  rw [if_neg (NX _),if_pos rfl]
 simp only [aX]
 unfold hU
 rw [hv]
 show ag ((a Z M').bind _) _
 rw [ha]
 show ag (match kL M' (aG k) nm z with|some M'=>Res.ok (Fl.next Z) M'|none=>.bad) _
 rw [e]
 exact h
theorem cW {f:Nat}{c:Call}{ds:List D}(ha:a Z M=.ok (.fn (aG k)) M)(ob:M[k]?=some (.int 40::es))(hs:s Z M=.ok ds M'):bM 40 f c a s Z M=c f (.fn (aG k)::ds) M':=by
 have e:eG M (aG k)=some 40:=by
  unfold eG aG
  rw [if_pos (Of _ _),Ob,ob]
  rfl
 unfold bM
 rw [ha]
 show (if eG M (aG k)=some 40 then (s Z M).bind _ else .bad)=_
 rw [if_pos e,hs]
 rfl
theorem uM {f:Nat}{c:Call}{ds:List D}{kd:D->Mem->Prop}(hs:s Z M=.ok ds M)(h:ag (c f (.fn (aG M.length)::ds) (M++[[.int 40]])) fun r M'=>r=.non/\kd (.fn (aG M.length)) M'):ag (kJ 40 f c s Z M) kd:=by
 obtain ⟨r,M',e,rfl,q⟩:=iL.mp h
 unfold kJ
 rw [hs]
 show ag ((c f (.fn (aG M.length)::ds) (M++[[.int 40]])).bind _) kd
 rw [e]
 exact q
theorem pop_at {ds:List D}{y:D}(ha:a Z M=.ok (.cell k) M)(hk:M[k]?=some (ds++[y])):pf a Z M=.ok y (M.set k ds):=by
 unfold pf
 rw [ha]
 show (match M[k]? with|some ds=>(match ds[ds.length-1]? with|some y=>Res.ok y (M.set k ds.dropLast)|none=>.bad)|none=>.bad)=_
 rw [hk]
 show (match (ds++[y])[(ds++[y]).length-1]? with|some z=>Res.ok z (M.set k (ds++[y]).dropLast)|none=>.bad)=_
 have:(ds++[y])[(ds++[y]).length-1]?=some y:=by simp
 rw [this,List.dropLast_concat]
theorem IB {b:GE}{ds:List D}{z:D}(ha:a Z M=.ok (.cell k) M)(hb:b Z M=.ok z M)(hk:M[k]?=some ds)(hz:ds.length<sz)(h:ag (rest Z (M.set k (ds++[z]))) kf):ag (af (iA a b) rest Z M) kf:=by
 simp only [aX]
 unfold iA
 rw [ha]
 show ag ((b Z M).bind _) _
 rw [hb]
 show ag (match M[k]? with|some ds=>(if ds.length<sz then Res.ok (Fl.next Z) (M.set k (ds++[z])) else .bad)|none=>.bad) _
 rw [hk]
 show ag (if ds.length<sz then _ else _) _
 rw [if_pos hz]
 exact h
theorem kc {f:tR}{ds:List D}(es:s Z M=.ok ds M):aR f s Z M=dA f ds M:=by
 unfold aR
 rw [es]
 rfl
theorem Br {f:Nat}{c:Call}{xs:List D}(e:s Z M=.ok xs M):dg f c s Z M=c f xs M:=by
 unfold dg;rw [e]
theorem Fg {j:Nat}{kd:D->Mem->Prop}(h:ag (a Z M) kd)(hk:∀x M',kd x M'->ag (rest (Z.set j (some x)) M') kf):ag (af (hV (.one j) a) rest Z M) kf:=by
 obtain ⟨x,M',e,q⟩:=iL.mp h
 simp only [aX]
 unfold hV
 rw [e]
 exact hk x M' q
theorem gG {o:iJ}{b:GE}{x y:D}{w:Bool}(h1:a Z M=.ok x M)(h2:b Z M=.ok y M)(h3:bx o x y M=some w):aU o a b Z M=.ok (.bl w) M:=by
 unfold aU
 rw [h1]
 show (b Z M).bind _=_
 rw [h2]
 show (bK M (bx o x y M)).bind _=_
 rw [h3]
 rfl
theorem lZ {hi:GE}{xs:List D}{j:Nat}(ea:a Z M=.ok (.lst xs) M)(eh:hi Z M=.ok (.int (j:Int)) M)(hz:xs.length<=1000):dq false false true a gN hi Z M=.ok (.lst (xs.take j)) M:=by
 refine aw ?_
 rw [mv,ea]
 show ag (hi Z M) _
 rw [eh]
 exact ⟨rfl,rfl,rR.mpr ⟨aT (by simp;omega),rfl,rfl⟩⟩
theorem l4 {lo:GE}{xs:List D}{j:Nat}(ea:a Z M=.ok (.lst xs) M)(eh:lo Z M=.ok (.int (j:Int)) M)(hz:xs.length<=1000):dq false true false a lo gN Z M=.ok (.lst (xs.drop j)) M:=by
 refine aw ?_
 rw [mv,ea]
 show ag (lo Z M) _
 rw [eh]
 exact ⟨rfl,rfl,Ad.mpr ⟨aT (by simp;omega),rfl,rfl⟩⟩
end
section
variable {P:Nat->Option Df}(h:HasM P)(ho:wC P)(ha:pF P){M:Mem}{k e:Nat}{m:aV}{r:List Nat}{hs:List (List Nat)}
include h ho
theorem ui (n:Nat){x:D}(hx:bq M x r)(hm:a9 m)(hr:a7 m r):ak P (n+10) 129 [.fn (aG M.length),m.d,x] (M++[[.int 40]])=.ok .non (M++[[.int 40,m.d,av r,.cell (M.length+1)],[]]):=by
 have hx':bq (M++[[.int 40]]) x r:=hx.sub Sub.app
 refine aw (az ho.init rfl ?_)
 show ag (eP (ak P (n+9)) [some (.fn (aG M.length)),some m.d,some x] (M++[[.int 40]])) _
 unfold eP
 refine cj (ρ':=[some (.fn (aG M.length)),some m.d,some x]) ?_ ?_
 ·show u9 _ _ (ak P (n+9) 18 [m.d,x] (M++[[.int 40]]))=_
  rw [kZ h.toHasM0 n hx' hm hr]
  rfl
 refine mW (k:=M.length) (es:=[]) (ai rfl) (ai rfl) (by simp) (by decide) ?_
 have e1:(M++[[D.int 40]]).set M.length (.int 40::([]++[m.d]))=M++[[.int 40,m.d]]:=by simp
 rw [e1]
 have hx2:bq (M++[[.int 40,m.d]]) x r:=hx.sub Sub.app
 have el:aR (.list false) (ae (aa 2) ah) [some (.fn (aG M.length)),some m.d,some x] (M++[[.int 40,m.d]])=.ok (av r) (M++[[.int 40,m.d]]):=by
  refine aw ?_
  rw [fG]
  show ag (dA (.list false) [x] _) _
  rw [hx2.list,cF]
  exact ⟨aT (by have:=hr.1;simp;omega),rfl,rfl⟩
 refine mW (k:=M.length) (es:=[m.d]) el (ai rfl) (by simp) (show _=some 1 by decide) ?_
 have e2:(M++[[D.int 40,m.d]]).set M.length (.int 40::([m.d]++[av r]))=M++[[.int 40,m.d,av r]]:=by simp
 rw [e2]
 refine mW (k:=M.length) (es:=[m.d,av r]) (z:=.cell (M.length+1)) (M':=M++[[.int 40,m.d,av r]]++[[]]) ?_ (ai rfl) (by simp) (show _=some 2 by decide) ?_
 ·show (if 0<=sz then (if true=true then Res.ok (D.cell (M++[[.int 40,m.d,av r]]).length) (M++[[.int 40,m.d,av r]]++[[]]) else Res.ok (.lst []) (M++[[.int 40,m.d,av r]])) else Res.bad)=_
  rw [if_pos (Nat.zero_le _)]
  simp
 ·show D.non=.non/\_=_
  simp
theorem oO (n:Nat)(hr:r.length<=40)(s:ba M k e m r hs):ak P (n+1) 130 [.fn (aG k)] M=.ok (.cell M.length) (M++[r.map nD]):=by
 refine aw (az ho.row rfl ?_)
 show ag (iX (ak P n) [some (.fn (aG k))] M) _
 unfold iX
 refine bA ?_
 rw [kc (aq (dG (i:=1) (ai rfl) s.ob (by decide) rfl) rfl)]
 exact (bq.l (M:=M) (r:=r)).list.mpr (l9.mpr ⟨aT (by simp;omega),rfl,rfl⟩)
theorem rL (n:Nat)(hr:a7 m r)(s:ba M k e m r hs):ak P (n+2) 131 [.fn (aG k)] M=.ok (nD (fH m r)) M:=by
 refine aw (az ho.cost rfl ?_)
 show ag (ig (ak P (n+1)) [some (.fn (aG k))] M) _
 unfold ig
 refine cZ ((bw (aq (dG (i:=0) (ai rfl) s.ob (by decide) rfl) (aq (dG (i:=1) (ai rfl) s.ob (by decide) rfl) rfl))).trans (kW h.toHasM0 ho.summed n .l (MR hr.1 (by decide)) hr.2)) ⟨rfl,rfl⟩
include ha
theorem uj (n:Nat)(hm:a9 m)(hr:a7 m r)(s:ba M k e m r hs):ak P (n+11) 132 [.fn (aG k)] M=.ok (dB m r) (M++(bL m).map fun s=>(cP m r s).map aH):=by
 refine aw (az ho.beh rfl ?_)
 show ag (eC (ak P (n+10)) [some (.fn (aG k))] M) _
 unfold eC
 refine bA ?_
 rw [bw (aq (dG (i:=0) (ai rfl) s.ob (by decide) rfl) (aq (dG (i:=1) (ai rfl) s.ob (by decide) rfl) rfl)),xy h ha.h15 ha.h46 n hm hr]
 exact ⟨rfl,rfl⟩
theorem um (n:Nat){r':List Nat}(hm:a9 m)(hr:a7 m r)(hr':a7 m r')(s:ba M k e m r hs):ag (ak P (n+13) 137 [.fn (aG k),av r'] M) fun d M'=>d=fx (bP m r r')/\ba M' k e m r' hs/\d9 [k] M M':=by
 refine az ho.give rfl ?_
 show ag (ie (ak P (n+12)) [some (.fn (aG k)),some (av r'),none] M) _
 unfold ie
 have q:=pT h ha n (M:=M) hm hr hr'
 refine Fg (kd:=fun d M'=>d=fx (bP m r r')/\Sub M M') ?_ ?_
 ·rw [Br (aq (dG (i:=0) (ai rfl) s.ob (by decide) rfl) (aq (dG (i:=1) (ai rfl) s.ob (by decide) rfl) (aq (ai rfl) rfl)))]
  exact q
 ·rintro x M1 ⟨rfl,S1⟩
  refine DU (k:=k) (i:=1) (es:=[m.d,av r,.cell e]) (ai rfl) (ai rfl) (S1.get s.ob) (by decide) (show 1<3 by decide) ?_
  refine bA ?_
  rw [ai rfl]
  refine ⟨rfl,⟨?_,?_⟩,(d9.of S1).trans (d9.set (by simp))⟩
  ·rw [Nf (n8 (S1.get s.ob))]
   rfl
  ·rw [MW (NV s.ne)]
   exact S1.get s.er
theorem pU (n:Nat){r':List Nat}(hm:a9 m)(hr:a7 m r)(hr':a7 m r')(hz:hs.length<=1000)(s:ba M k e m r hs):ag (ak P (n+14) 136 [.fn (aG k),av r'] M) fun d M'=>d=fx (bP m r r')/\ba M' k e m r' (hs++[r])/\d9 [k,e] M M':=by
 refine az ho.change rfl ?_
 show ag (fM (ak P (n+13)) [some (.fn (aG k)),some (av r')] M) _
 unfold fM
 refine IB (k:=e) (dG (i:=2) (ai rfl) s.ob (by decide) rfl) (dG (i:=1) (ai rfl) s.ob (by decide) rfl) s.er (M9 (by simp;omega:_<2000) (aT (by decide))) ?_
 have s1:ba (M.set e (hs.map av++[av r])) k e m r (hs++[r]):=by
  refine ⟨?_,?_⟩
  ·rw [MW s.ne]
   exact s.ob
  ·rw [Nf (n8 s.er)]
   simp
 refine bA ?_
 rw [cW (ai rfl) s1.ob (aq (ai rfl) rfl)]
 refine aO (um h ho ha n hm hr hr' s1) ?_
 rintro d M' ⟨rfl,s2,k2⟩
 exact ⟨rfl,s2,(d9.set (by simp)).trans ⟨k2.len,fun j hj hn=>k2.at' j hj fun z=>hn (by simp at z;simp [z])⟩⟩
theorem DC (n:Nat){p i:Nat}(hm:a9 m)(hr:a7 m r)(hp:p<=r.length)(hl:r.length<40)(hi:i<m.deeds.length)(hz:hs.length<=1000)(s:ba M k e m r hs) :
 ag (ak P (n+15) 133 [.fn (aG k),nD p,nD i] M) fun d M'=>d=fx (bP m r (r.take p++[i]++r.drop p))/\ba M' k e m (r.take p++[i]++r.drop p) (hs++[r])/\d9 [k,e] M M':=by
 refine az ho.put rfl ?_
 show ag (iY (ak P (n+14)) [some (.fn (aG k)),some (nD p),some (nD i)] M) _
 unfold iY
 have fm:bR "machine" (aa 0) [some (.fn (aG k)),some (nD p),some (nD i)] M=.ok m.d M:=dG (i:=0) (ai rfl) s.ob (by decide) rfl
 have fs:bR "standing" (aa 0) [some (.fn (aG k)),some (nD p),some (nD i)] M=.ok (av r) M:=dG (i:=1) (ai rfl) s.ob (by decide) rfl
 have fl:aR .len (ae (bR "standing" (aa 0)) ah) [some (.fn (aG k)),some (nD p),some (nD i)] M=.ok (.int r.length) M:=by
  rw [kc (aq fs rfl)]
  exact aw ((bq.l (M:=M) (r:=r)).len.mpr ⟨rfl,rfl⟩)
 refine bD (jl (b:=true) (cf ?_)) (bD (jl (b:=true) (cf ?_)) (bD (cf (gG fl rfl ?_)) ?_))
 ·rw [bw (aq (ai rfl) (aq rfl (aq fl rfl))),ky h.toHasM0 (n+13)]
  have a:decide ((0:Int)<=(p:Int))=true:=decide_eq_true (by omega)
  have b:decide ((p:Int)<=(r.length:Int))=true:=decide_eq_true (by omega)
  rw [a,b];rfl
 ·rw [bw (aq fm (aq (ai rfl) rfl)),uo h.toHasM0 (n+12) hi]
 ·show some (decide ((40:Int)<=(r.length:Int)))=_
  rw [decide_eq_false (by omega)]
 ·refine bA ?_
  have e1:=lZ (M:=M) (hi:=aa 1) (j:=p) fs (ai rfl) (by simp;omega)
  have e2:=l4 (M:=M) (lo:=aa 1) (j:=p) fs (ai rfl) (by simp;omega)
  have e3:=iu (iu e1 (gy (s:=ae (aa 2) ah) (xs:=[nD i]) (aq (ai (j:=2) rfl) rfl) (by simp)) (by simp;omega)) e2 (by simp;omega)
  rw [cW (ai rfl) s.ob (aq e3 rfl)]
  have er:D.lst ((r.map nD).take p++[nD i]++(r.map nD).drop p)=av (r.take p++[i]++r.drop p):=by simp [av,OQ,List.map_drop]
  rw [er]
  have hr':a7 m (r.take p++[i]++r.drop p):=by
   refine ⟨by simp;omega,fun j hj=>?_⟩
   rcases NC.mp hj with z|z
   ·rcases NC.mp z with z|z
    ·exact hr.2 j (NT z)
    ·simp at z;omega
   ·exact hr.2 j (OH z)
  exact pU h ho ha n hm hr hr' hz s
theorem DD (n:Nat){p:Nat}(hm:a9 m)(hr:a7 m r)(hp:p<r.length)(hz:hs.length<=1000)(s:ba M k e m r hs) :
 ag (ak P (n+15) 134 [.fn (aG k),nD p] M) fun d M'=>d=fx (bP m r (r.take p++r.drop (p+1)))/\ba M' k e m (r.take p++r.drop (p+1)) (hs++[r])/\d9 [k,e] M M':=by
 refine az ho.out rfl ?_
 show ag (iZ (ak P (n+14)) [some (.fn (aG k)),some (nD p)] M) _
 unfold iZ
 have l40:=hr.1
 have fs:bR "standing" (aa 0) [some (.fn (aG k)),some (nD p)] M=.ok (av r) M:=dG (i:=1) (ai rfl) s.ob (by decide) rfl
 have fl:aR .len (ae (bR "standing" (aa 0)) ah) [some (.fn (aG k)),some (nD p)] M=.ok (.int r.length) M:=by
  rw [kc (aq fs rfl)]
  exact aw ((bq.l (M:=M) (r:=r)).len.mpr ⟨rfl,rfl⟩)
 have fl1:ay false .sub (aR .len (ae (bR "standing" (aa 0)) ah)) (gI 1) [some (.fn (aG k)),some (nD p)] M=.ok (.int (r.length-1)) M:=by
  unfold ay;rw [fl];rfl
 refine bD (jl (b:=true) (cf ?_)) ?_
 ·rw [bw (aq (ai rfl) (aq rfl (aq fl1 rfl))),ky h.toHasM0 (n+13)]
  have a:decide ((0:Int)<=(p:Int))=true:=decide_eq_true (by omega)
  have b:decide ((p:Int)<=(r.length:Int)-1)=true:=decide_eq_true (by omega)
  rw [a,b];rfl
 ·refine bA ?_
  have e1:=lZ (M:=M) (hi:=aa 1) (j:=p) fs (ai rfl) (by simp;omega)
  have ep:ay false .add (aa 1) (gI 1) [some (.fn (aG k)),some (nD p)] M=.ok (.int ((p+1:Nat):Int)) M:=eZ (x:=(p:Int)) (y:=1) (ai rfl) rfl
  have e2:=l4 (M:=M) (j:=p+1) fs ep (by simp;omega)
  have e3:=iu e1 e2 (by simp;omega)
  rw [cW (ai rfl) s.ob (aq e3 rfl)]
  have er:D.lst ((r.map nD).take p++(r.map nD).drop (p+1))=av (r.take p++r.drop (p+1)):=by simp [av,OQ,List.map_drop]
  rw [er]
  have hr':a7 m (r.take p++r.drop (p+1)):=by
   refine ⟨by simp;omega,fun j hj=>?_⟩
   rcases NC.mp hj with z|z
   ·exact hr.2 j (NT z)
   ·exact hr.2 j (OH z)
  exact pU h ho ha n hm hr hr' hz s
theorem zS (n:Nat){r':List Nat}(hm:a9 m)(hr:a7 m r)(hr':a7 m r')(s:ba M k e m r (hs++[r'])) :
 ag (ak P (n+14) 135 [.fn (aG k)] M) fun d M'=>d=fx (bP m r r')/\ba M' k e m r' hs/\d9 [k,e] M M':=by
 refine az ho.back rfl ?_
 show ag (eL (ak P (n+13)) [some (.fn (aG k))] M) _
 unfold eL
 have fe:bR "earlier" (aa 0) [some (.fn (aG k))] M=.ok (.cell e) M:=dG (i:=2) (ai rfl) s.ob (by decide) rfl
 have er:=s.er
 rw [Od] at er
 refine bD (jl (b:=true) ?_) (bA ?_)
 ·unfold aC
  rw [fe]
  show bK M ((M[e]?).map fun ds=>!ds.isEmpty)=_
  rw [er]
  cases hs<;>rfl
 ·have s1:ba (M.set e (hs.map av)) k e m r hs:=by
   refine ⟨?_,?_⟩
   ·rw [MW s.ne]
    exact s.ob
   ·rw [Nf (n8 s.er)]
  have ea:ae (pf (bR "earlier" (aa 0))) ah [some (.fn (aG k))] M=.ok [av r'] (M.set e (hs.map av)):=by
   unfold ae
   rw [pop_at fe er]
   rfl
  rw [cW (ai rfl) s.ob ea]
  refine aO (um h ho ha n hm hr hr' s1) ?_
  rintro d M' ⟨rfl,s2,k2⟩
  exact ⟨rfl,s2,(d9.set (by simp)).trans ⟨k2.len,fun j hj hn=>k2.at' j hj fun z=>hn (by simp at z;simp [z])⟩⟩
end
end LD
namespace LD
open PySem
structure HasE0 (P:Nat->Option Df):Prop where
 change:P 138=some ⟨3,7,fL⟩
 do_:P 139=some ⟨2,2,d8⟩
 orders:P 141=some ⟨0,0,iF⟩
structure Mg (P:Nat->Option Df):Prop extends HasE0 P where
 price:P 89=some ⟨2,2,tK⟩
 parted:P 140=some ⟨3,6,qK⟩
 right:P 142=some ⟨4,6,oC⟩
noncomputable def u6 (m:aV)(hs:List (List Nat))(r:List Nat)(later:List (List Nat))(told:D):Prop:=
 (∃hs0 r0,hs=hs0++[r0]/\later=hs/\told=.tup [])
 \/(∃a,a<r.length/\later=hs++[r]++[r.take a++r.drop (a+1)]/\told=.tup [nD a])
 \/∃a i,a<=r.length/\r.length<40/\i<m.deeds.length/\later=hs++[r]++[r.take a++[i]++r.drop a]/\told=.tup [nD a,nD i]
theorem A7 {xs:List D}{y:D}{M:Mem}:cH (.lst (xs++[y])) (.int (-1)) M=some y:=by
 show (bI (xs++[y]).length (-1)).bind (fun j=>(xs++[y])[j]?)=_
 have:bI (xs++[y]).length (-1)=some xs.length:=by
  unfold bI
  rw [if_neg (by decide),if_pos (by simp;omega)]
  simp;omega
 rw [this]
 simp
section
variable {Z:Env}{M:Mem}{a:GE}
theorem bc:ah Z M=.ok [] M:=rfl
theorem uO {xs:List D}{y:D}(e:a Z M=.ok (.lst (xs++[y])) M):aE a (du (gI 1)) Z M=.ok y M:=bQ e rfl A7
theorem pb {xs:List D}(e:a Z M=.ok (.lst xs) M):aR .len (ae a ah) Z M=.ok (nD xs.length) M:=by
 rw [kc (aq e rfl)]
 rfl
theorem gi {s:GA}{xs:List D}(es:s Z M=.ok xs M)(hl:xs.length<=100):cJ s Z M=.ok (.tup xs) M:=by
 unfold cJ
 rw [es]
 show (if xs.length<=sz then Res.ok (D.tup xs) M else .bad)=_
 rw [if_pos (aT (by omega))]
end
section
variable {P:Nat->Option Df}(h:HasP0 P)(hq:HasE0 P){M:Mem}{m:aV}
include h hq
theorem vi (n:Nat){p B:Nat}{hs:List (List Nat)}{r:List Nat}(hm:a9 m)(hr:a7 m r)(hl:hs.length<=50)(hp:aS M p B)(hB:B<=700000):ag (ak P (n+3) 138 [.cell p,m.d,.lst ((hs++[r]).map av)] M) fun d M'=>∃later told,d=.tup [.lst (later.map av),told]/\u6 m hs r later told/\aS M' p (B+3)/\bp p M M':=by
 have l40:=hr.1
 have d6:=hm.d6
 refine az hq.change rfl ?_
 show ag (fL (ak P (n+2)) [some (.cell p),some m.d,some (.lst ((hs++[r]).map av)),none,none,none,none] M) _
 unfold fL
 refine eR h n (many:=4) rfl rfl hp (by omega) (by decide) (by decide) fun way M1 _ q1 k1=>?_
 show ag (af _ _ [some (.cell p),some m.d,some (.lst ((hs++[r]).map av)),some (nD way),none,none,none] M1) _
 rw [Od]
 refine cj (dH (uO (ai rfl))) ?_
 show ag (af _ _ [some (.cell p),some m.d,some (.lst (hs.map av++[av r])),some (nD way),some (av r),none,none] M1) _
 have lr:∀{M:Mem}{x y:Option D},aR .len (ae (aa 4) ah) [some (.cell p),some m.d,some (.lst (hs.map av++[av r])),some (nD way),some (av r),x,y] M=.ok (nD r.length) M:=fun {M x y}=>by
  rw [pb (xs:=r.map nD) (ai rfl),MQ]
 refine eR h n (many:=r.length+1) rfl (ja lr rfl) q1 (by omega) (by omega) (by omega) fun at_ M2 hat q2 k2=>?_
 refine eR h n (many:=m.deeds.length) rfl (uN (bQ (ai rfl) rfl Cf)) q2 (by omega) hm.d1 (by omega) fun i M3 hi q3 k3=>?_
 have kk:=(k1.trans k2).trans k3
 show ag (af _ _ [some (.cell p),some m.d,some (.lst (hs.map av++[av r])),some (nD way),some (av r),some (nD at_),some (nD i)] M3) _
 have ll:aR .len (ae (aa 2) ah) [some (.cell p),some m.d,some (.lst (hs.map av++[av r])),some (nD way),some (av r),some (nD at_),some (nD i)] M3=.ok (nD (hs.length+1)) M3:=by
  rw [pb (ai rfl)];simp
 refine bX (pE (h9 (c:=0) rfl) (cf (gG (w:=decide ((1:Int)<((hs.length+1:Nat):Int))) ll rfl rfl))) (fun hb=>?_) fun _=>?_
 ·rw [MM] at hb
  have h1:1<=hs.length:=by have:=of_decide_eq_true hb.2;omega
  obtain ⟨hs0,r0,e0⟩:∃hs0 r0,hs=hs0++[r0]:=⟨hs.dropLast,hs.getLast (fun z=>by rw [z] at h1;simp at h1),(List.dropLast_concat_getLast _).symm⟩
  refine bA ?_
  have es:dq false false true (aa 2) gN (du (gI 1)) [some (.cell p),some m.d,some (.lst (hs.map av++[av r])),some (nD way),some (av r),some (nD at_),some (nD i)] M3=.ok (.lst (hs.map av)) M3:=by
   refine aw ?_
   rw [mv,ai (x:=.lst (hs.map av++[av r])) rfl]
   refine ⟨rfl,rfl,?_⟩
   have e2:aJ (hs.map av++[av r]).length (hs.map av++[av r]).length (.int (-1))=some hs.length:=by
    show some _=_
    rw [if_pos (by decide)];congr 1;simp;omega
   show ag (match aJ (hs.map av++[av r]).length 0 D.non,aJ (hs.map av++[av r]).length (hs.map av++[av r]).length (.int (-1)) with|some l,some h=>bf false (cut (hs.map av++[av r]) l h) M3|_,_=>.bad) _
   rw [e2]
   show ag (bf false (cut (hs.map av++[av r]) 0 hs.length) M3) _
   have e3:cut (hs.map av++[av r]) 0 hs.length=hs.map av:=by
    unfold cut
    simp
   rw [e3,cF]
   exact ⟨aT (by simp;omega),rfl,rfl⟩
  rw [gi (aq es (aq (gi (xs:=[]) rfl (by simp)) rfl)) (by simp)]
  exact ⟨hs,_,rfl,.inl ⟨hs0,r0,e0,rfl,rfl⟩,q3,kk⟩
 refine bX (pE (B9 (h9 (c:=1) rfl) (cf (gG (w:=((r.length:Int)==40)) lr rfl rfl))) (cf (gG (ai (x:=av r) rfl) rfl (yZ (l:=r) (r:=[]))))) (fun hb=>?_) fun hb=>?_
 ·rw [MM] at hb
  have ne:r≠[]:=by have:=hb.2;simpa using this
  have lp:0<r.length:=List.length_pos_iff.mpr ne
  have lt:=Nat.mod_lt at_ lp
  refine cj (dH (x:=nD (at_ % r.length)) ?_) ?_
  ·exact iB (x:=(at_:Int)) (y:=(r.length:Int)) (ai rfl) lr (by omega)
  ·show ag (af _ _ [some (.cell p),some m.d,some (.lst (hs.map av++[av r])),some (nD way),some (av r),some (nD (at_ % r.length)),some (nD i)] M3) _
   generalize at_ % r.length=v at lt
   refine bA ?_
   have e1:=lZ (Z:=[some (.cell p),some m.d,some (.lst (hs.map av++[av r])),some (nD way),some (av r),some (nD v),some (nD i)]) (M:=M3) (a:=aa 4) (hi:=aa 5) (xs:=r.map nD) (j:=v) (ai rfl) (ai rfl) (by simp;omega)
   have e2:=l4 (Z:=[some (.cell p),some m.d,some (.lst (hs.map av++[av r])),some (nD way),some (av r),some (nD v),some (nD i)]) (M:=M3) (a:=aa 4) (lo:=ay false .add (aa 5) (gI 1)) (xs:=r.map nD) (j:=v+1) (ai rfl) (eZ (x:=(v:Int)) (y:=1) (ai rfl) rfl) (by simp;omega)
   have e3:=iu (a:=aa 2) (ai (x:=.lst (hs.map av++[av r])) rfl) (gy (aq (iu e1 e2 (by simp;omega)) bc) (by simp)) (by simp;omega)
   rw [gi (aq e3 (aq (gi (s:=ae (aa 5) ah) (aq (ai (x:=nD v) rfl) rfl) (by simp)) rfl)) (by simp)]
   refine ⟨hs++[r]++[r.take v++r.drop (v+1)],_,?_,.inr (.inl ⟨v,lt,rfl,rfl⟩),q3,kk⟩
   simp [av,OQ,List.map_drop]
 ·have l39:r.length<40:=by
   rcases Nat.lt_or_ge r.length 40 with z|z
   ·exact z
   ·have e:r.length=40:=by omega
    have e2:r≠[]:=fun y=>by rw [y] at e;simp at e
    rw [e] at hb
    simp [e2] at hb
  refine bA ?_
  have e1:=lZ (Z:=[some (.cell p),some m.d,some (.lst (hs.map av++[av r])),some (nD way),some (av r),some (nD at_),some (nD i)]) (M:=M3) (a:=aa 4) (hi:=aa 5) (xs:=r.map nD) (j:=at_) (ai rfl) (ai rfl) (by simp;omega)
  have e2:=l4 (Z:=[some (.cell p),some m.d,some (.lst (hs.map av++[av r])),some (nD way),some (av r),some (nD at_),some (nD i)]) (M:=M3) (a:=aa 4) (lo:=aa 5) (xs:=r.map nD) (j:=at_) (ai rfl) (ai rfl) (by simp;omega)
  have e0:=gy (Z:=[some (.cell p),some m.d,some (.lst (hs.map av++[av r])),some (nD way),some (av r),some (nD at_),some (nD i)]) (M:=M3) (s:=ae (aa 6) ah) (xs:=[nD i]) (aq (ai rfl) rfl) (by simp)
  have e3:=iu (a:=aa 2) (ai (x:=.lst (hs.map av++[av r])) rfl) (gy (aq (iu (iu e1 e0 (by simp;omega)) e2 (by simp;omega)) bc) (by simp)) (by simp;omega)
  rw [gi (aq e3 (aq (gi (s:=ae (aa 5) (ae (aa 6) ah)) (aq (ai (x:=nD at_) rfl) (aq (ai (x:=nD i) rfl) rfl)) (by simp)) rfl)) (by simp)]
  refine ⟨hs++[r]++[r.take at_++[i]++r.drop at_],_,?_,.inr (.inr ⟨at_,i,by omega,l39,hi,rfl,rfl⟩),q3,kk⟩
  simp [av,OQ,List.map_drop]
end
end LD
namespace LD
open PySem
section
variable {P:Nat->Option Df}(hb:HasS P)(hq:Mg P)(he:P 44=some ⟨2,5,tX⟩){M:Mem}
include hb hq he
theorem IS (n:Nat){m:aV}{a b:List Nat}(hm:a9 m):ak P (n+2) 40 [fx (bP m a b),fx (bP m a b)] M=.ok (.bl true) M:=by
 cases e:bP m a b with
 | none =>
   refine aw (az hb.same rfl ?_)
   simp [cb,bx,fx,iP]
 | some s =>
   have:=pB s (Om e)
   have p2:=hm.p2
   exact mG hb.toHasS0 n (by rw [this.1];omega)
end
noncomputable def nh (a b c:Int):D:=.lst [.int a,.int b,.int c]
noncomputable def GU:List D:=[nh 0 1 2,nh 0 2 1,nh 1 0 2,nh 1 2 0,nh 2 0 1,nh 2 1 0]
theorem xv {P:Nat->Option Df}(hq:HasE0 P)(n:Nat){M:Mem}:ak P (n+1) 141 [] M=.ok (.lst GU) M:=by
 refine aw (az hq.orders rfl ?_)
 show ag (iF (ak P n) [] M) _
 have l3:∀{Z:Env}{a b c:Int},bE false (ae (gC (.int a)) (ae (gC (.int b)) (ae (gC (.int c)) ah))) Z M=.ok (nh a b c) M:=fun {Z a b c}=>gy (aq rfl (aq rfl (aq rfl bc))) (by simp)
 exact cZ (gy (aq l3 (aq l3 (aq l3 (aq l3 (aq l3 (aq l3 bc)))))) (by simp)) ⟨rfl,rfl⟩
theorem rN {P:Nat->Option Df}(h:HasS0 P)(n:Nat){M:Mem}{m:aV}{r:List Nat}(hm:a9 m)(hr:∀i∈r,i<m.deeds.length):ak P (n+3) 40 [.tup ((ends m r).map aH),.tup ((ends m r).map aH)] M=.ok (.bl true) M:=by
 have bl:=tD hm
 have p2:=hm.p2
 refine pS h (n+2) (aT (by simp [LD.ends];omega)) fun d hd=>?_
 obtain ⟨s,hs,rfl⟩:=NB.mp hd
 obtain ⟨b,hb,rfl⟩:=NB.mp hs
 have:=pq hm hr (pB b hb)
 exact mG h n (by rw [this.1];omega)
section
variable {P:Nat->Option Df}(h:HasM P)(ho:wC P)(ha:pF P)(hq:HasE0 P){M:Mem}{k e:Nat}{m:aV}{r:List Nat}{hs:List (List Nat)}
include h ho ha hq
theorem FQ (n:Nat){later:List (List Nat)}{told:D}(hm:a9 m)(hr:a7 m r)(hh:∀x∈hs,a7 m x)(hz:hs.length<=1000)(c:u6 m hs r later told)(s:ba M k e m r hs) :
 ∃hs' r',later=hs'++[r']/\a7 m r'/\(∀x∈hs',a7 m x)/\hs'.length<=hs.length+1/\ag (ak P (n+16) 139 [.fn (aG k),told] M) fun d M'=>d=fx (bP m r r')/\ba M' k e m r' hs'/\d9 [k,e] M M':=by
 rcases c with ⟨hs0,r0,rfl,rfl,rfl⟩|⟨a,ha1,rfl,rfl⟩|⟨a,i,ha1,h40,hi,rfl,rfl⟩
 ·have hr0:=hh r0 (by simp)
  refine ⟨hs0,r0,rfl,hr0,fun x hx=>hh x (by simp [hx]),by simp;omega,?_⟩
  refine az hq.do_ rfl ?_
  show ag (d8 (ak P (n+15)) [some (.fn (aG k)),some (.tup [])] M) _
  unfold d8
  refine bD (cf (gG (w:=false) (iO rfl) rfl rfl)) (bA ?_)
  rw [v9,cf (b:=true) (gG (ai rfl) (gi (xs:=[]) rfl (by simp)) (ka rfl rfl rfl))]
  show ag (bM _ _ _ _ _ _ _) _
  rw [cW (ai rfl) s.ob bc]
  exact zS h ho ha (n+1) hm hr hr0 s
 ·have hr':a7 m (r.take a++r.drop (a+1)):=by
   have:=hr.1
   refine ⟨by simp;omega,fun j hj=>?_⟩
   rcases NC.mp hj with z|z
   ·exact hr.2 j (NT z)
   ·exact hr.2 j (OH z)
  refine ⟨hs++[r],_,rfl,hr',fun x hx=>(NC.mp hx).elim (hh x) fun z=>by simp at z;subst z;exact hr,by simp,?_⟩
  refine az hq.do_ rfl ?_
  show ag (d8 (ak P (n+15)) [some (.fn (aG k)),some (.tup [nD a])] M) _
  unfold d8
  refine bD (cf (gG (w:=false) (iO rfl) rfl rfl)) (bA ?_)
  rw [v9,cf (b:=false) (gG (ai rfl) (gi (xs:=[]) rfl (by simp)) (ka rfl rfl rfl))]
  show ag (bM _ _ _ _ _ _ _) _
  rw [cW (ai rfl) s.ob (aq (bQ (d:=nD a) (ai rfl) rfl rfl) bc)]
  exact DD h ho ha n hm hr ha1 hz s
 ·have hr':a7 m (r.take a++[i]++r.drop a):=by
   refine ⟨by simp;omega,fun j hj=>?_⟩
   rcases NC.mp hj with z|z
   ·rcases NC.mp z with z|z
    ·exact hr.2 j (NT z)
    ·simp at z;omega
   ·exact hr.2 j (OH z)
  refine ⟨hs++[r],_,rfl,hr',fun x hx=>(NC.mp hx).elim (hh x) fun z=>by simp at z;subst z;exact hr,by simp,?_⟩
  refine az hq.do_ rfl ?_
  show ag (d8 (ak P (n+15)) [some (.fn (aG k)),some (.tup [nD a,nD i])] M) _
  unfold d8
  refine sL (cf (gG (w:=true) (iO rfl) rfl rfl)) (bA ?_)
  rw [cW (ai rfl) s.ob (aq (bQ (d:=nD a) (ai rfl) rfl rfl) (aq (bQ (d:=nD i) (ai rfl) rfl rfl) bc))]
  exact DC h ho ha n hm hr ha1 h40 hi hz s
end
end LD
namespace LD
open PySem
theorem aS.of {M M':Mem}{p B:Nat}(h:aS M p B)(e:∀j,j<=p->M'[j]?=M[j]?):aS M' p B:=by
 obtain ⟨c,cells,a,s,e1,e2,hc,q⟩:=h.ex
 exact ⟨c,cells,a,s,(e p (MN _)).trans e1,(e c (Nat.le_of_lt hc)).trans e2,hc,q⟩
theorem Fh {Z:Env}{M:Mem}{a:GE}{t:cy}{rest:GS}{kd:D->Mem->Prop}{kf:Fl->Mem->Prop}(h:ag (a Z M) kd)(hk:∀x M',kd x M'->∃ρ1,bN t x Z=some ρ1/\ag (rest ρ1 M') kf):ag (af (aK t a) rest Z M) kf:=by
 obtain ⟨x,M',e,q⟩:=iL.mp h
 obtain ⟨ρ1,e1,q1⟩:=hk x M' q
 simp only [aX]
 unfold aK
 rw [e]
 show ag ((bK M' (bN t x Z)).bind _) _
 rw [e1]
 exact q1
theorem sH {Z:Env}{M:Mem}{j:Nat}{l:List (List Nat)}{x:List Nat}(e:Z[j]?.getD none=some (.lst ((l++[x]).map av))):aE (aa j) (du (gI 1)) Z M=.ok (av x) M:=by
 rw [Od] at e
 exact uO (ai e)
end LD
namespace LD
open PySem
theorem rh:∀ps:List (D×D),gP (ps.map (·.1)) (ps.map (·.2))=ps.map fun p=>.tup [p.1,p.2]
 |[]=>rfl
 |d::r=>congrArg (D.tup [d.1,d.2]::·) (rh r)
section
variable {P:Nat->Option Df}(h:HasS0 P){M:Mem}
include h
theorem vn (n:Nat){x y:D}{ps:List (D×D)}{Z:Env}{kl:List D->Mem->Prop}(hx:bG M x=some (ps.map (·.1)))(hy:bG M y=some (ps.map (·.2)))(hz:ps.length<=sz)(hs:∀p∈ps,ak P n 40 [p.1,p.2] M=.ok (.bl true) M)(hk:kl (ps.map fun _=>.bl true) M) :
 ag (dj (dw (.tup [0,1]) (bS (au 40 (ak P n) (ae (aa 0) (ae (aa 1) ah)))) (none::none::Z)) (km x y) [] M) kl:=by
 refine ir (ds:=ps.map fun p=>.tup [p.1,p.2]) (fun _=>.bl true) (by rw [MQ];exact hz) ?_ ?_ ?_
 ·unfold km;rw [hx,hy];exact congrArg some (rh ps)
 ·intro d hd
  obtain ⟨e,he,rfl⟩:=NB.mp hd
  exact ⟨_,rfl,(bw (aq (ai rfl) (aq (ai rfl) bc))).trans (hs e he)⟩
 ·rw [List.map_map];exact hk
theorem vf (n:Nat){p q:Nat}{ps:List (D×D)}(hp:M[p]?=some (ps.map (·.1)))(hq:M[q]?=some (ps.map (·.2)))(hz:ps.length<=1000)(hs:∀p∈ps,ak P n 40 [p.1,p.2] M=.ok (.bl true) M):ak P (n+1) 40 [.cell p,.cell q] M=.ok (.bl true) M:=by
 refine aw (az h.same rfl ?_)
 simp [cb,bx,dF,iP]
 refine ⟨rfl,rfl,_,hp,_,hq,?_,⟨rfl,rfl⟩,vn h n hp hq (aT (by omega)) hs ⟨aT (by simp;omega),?_,rfl⟩⟩
 ·simp only [MQ];exact JM
 ·rw [show (ps.map fun _=>D.bl true)=(ps.map (·.1)).map fun _=>D.bl true by rw [List.map_map];rfl]
  exact tU
end
theorem AD:∀t:Nat,t<6->∃xs:List Nat,GU[t]?=some (.lst (xs.map nD))/\xs.length=3/\(∀x∈xs,x<3)/\0∈xs/\1∈xs/\2∈xs
 |0,_=>⟨[0,1,2],rfl,rfl,by decide⟩
 |1,_=>⟨[0,2,1],rfl,rfl,by decide⟩
 |2,_=>⟨[1,0,2],rfl,rfl,by decide⟩
 |3,_=>⟨[1,2,0],rfl,rfl,by decide⟩
 |4,_=>⟨[2,0,1],rfl,rfl,by decide⟩
 |5,_=>⟨[2,1,0],rfl,rfl,by decide⟩
 |n+6,h=>by omega
theorem ba.sub {M M':Mem}{k e:Nat}{m:aV}{r:List Nat}{hs:List (List Nat)}(s:ba M k e m r hs)(S:Sub M M'):ba M' k e m r hs:=⟨S.get s.ob,S.get s.er⟩
structure lW (M:Mem) (f:Nat) (m:aV) (r:List Nat) (p:Nat->Prop):Prop where
 ex:∃x0 x1 x2,M[f]?=some [x0,x1,x2]/\(p 0->∃q,x0=.cell q/\f<q/\M[q]?=some (r.map nD))/\(p 1->x1=nD (fH m r))/\(p 2->x2=dB m r)
structure IL (P:Nat->Option Df):Prop where
 look:P 144=some ⟨2,4,ft⟩
 same:P 40=some ⟨2,2,cb⟩
section
variable {P:Nat->Option Df}(h:HasM P)(ho:wC P)(ha:pF P)(hq:HasE0 P)(hl:IL P){M:Mem}{k e:Nat}{m:aV}{r:List Nat}{hs:List (List Nat)}
include h ho ha hq hl
theorem uk (n:Nat){t:Nat}(hm:a9 m)(hr:a7 m r)(s:ba M k e m r hs):ag (ak P (n+13) 144 [.fn (aG k),nD t] M) fun d M'=>d=.cell M.length/\lW M' M.length m r (fun _=>True)/\Sub M M':=by
 have t6:t % 6<6:=Nat.mod_lt _ (by decide)
 obtain ⟨xs,ex,lx,x3,m0,m1,m2⟩:=AD (t % 6) t6
 refine az hl.look rfl ?_
 show ag (ft (ak P (n+12)) [some (.fn (aG k)),some (nD t),none,none] M) _
 unfold ft
 refine cm (k:=fun d M'=>d=.cell M.length/\M'=M++[[.non,.non,.non]]) ?_ ?_
 ·rw [CI,bj,fV,bj,fV,bj,fV,cv]
  exact l9.mpr ⟨aT (by decide),rfl,rfl⟩
 rintro _ _ ⟨rfl,rfl⟩
 have el:aE (au 141 (ak P (n+12)) ah) (ay false .mod (aa 1) (gI 6)) [some (.fn (aG k)),some (nD t),some (.cell M.length),none] (M++[[.non,.non,.non]])=.ok (.lst (xs.map nD)) (M++[[.non,.non,.non]]):=by
  obtain ⟨ht',e'⟩:=MH.mp ex
  exact bQ ((bw bc).trans (xv hq (n+11))) (iB (x:=(t:Int)) (y:=6) (ai rfl) rfl (by decide)) ((qW (v:=t % 6) ht').trans (congrArg some e'))
 rw [aX,jT,IV]
 show ag (aE (au 141 (ak P (n+12)) ah) (ay false .mod (aa 1) (gI 6)) [some (.fn (aG k)),some (nD t),some (.cell M.length),none] (M++[[.non,.non,.non]])) _
 rw [el]
 refine ⟨rfl,eK (ds:=xs.map nD) (fun i Z M'=>Sub M M'/\(∃b,Z=[some (.fn (aG k)),some (nD t),some (.cell M.length),b])/\lW M' M.length m r (fun j=>j∈xs.take i)) (fun _ _ _ _=>rfl) ⟨.app,⟨none,rfl⟩,⟨.non,.non,.non,by simp,fun z=>by simp at z,fun z=>by simp at z,fun z=>by simp at z⟩⟩ ?_ ?_⟩
 ·rintro i d Z M' hd ⟨S,⟨b,rfl⟩,⟨x0,x1,x2,ef,f0,f1,f2⟩⟩
  rw [Nv] at hd
  obtain ⟨v,hv,rfl⟩:=Nj.mp hd
  have v3:=x3 v (N1 hv)
  have tk:∀{j},j∈xs.take (i+1)->j=v\/j∈xs.take i:=fun {j} z=>by
   rw [Ou,hv] at z
   rcases NC.mp z with z|z
   ·exact .inr z
   ·exact .inl (by simpa using z)
  have s':ba M' k e m r hs:=s.sub S
  have lf:=n8 ef
  refine ⟨_,rfl,?_⟩
  rw [aX,gm]
  match v,v3 with
  | 0, _ =>
    have E:((M'++[r.map nD]).set M.length ([x0,x1,x2].set 0 (.cell M'.length)))[M.length]?=some [.cell M'.length,x1,x2]:=by rw [Nf (by simp;omega)];rfl
    refine jV (M':=M'++[r.map nD]) (z:=.cell M'.length) (p:=M.length) (i:=0) (n:=0) (ds:=[x0,x1,x2]) ((cW (ai rfl) s'.ob bc).trans (oO h ho (n+11) hr.1 s')) (ai rfl) rfl (Sub.app.get ef) rfl ?_
    refine ⟨_,rfl,(S.trans .app).setq (MN _),⟨_,rfl⟩,⟨_,_,_,E,fun _=>⟨M'.length,rfl,lf,?_⟩,fun z=>f1 ((tk z).resolve_left (by decide)),fun z=>f2 ((tk z).resolve_left (by decide))⟩⟩
    rw [MW (Nz lf)];simp
  | 1, _ =>
    have E:(M'.set M.length ([x0,x1,x2].set 1 (nD (fH m r))))[M.length]?=some [x0,nD (fH m r),x2]:=by rw [Nf lf];rfl
    show ag (af (aQ _ _ _) aj _ _) _
    rw [aX,gm]
    refine jV (M':=M') (z:=nD (fH m r)) (p:=M.length) (i:=1) (n:=1) (ds:=[x0,x1,x2]) ((cW (ai rfl) s'.ob bc).trans (rL h ho (n+10) hr s')) (ai rfl) rfl ef rfl ?_
    refine ⟨_,rfl,S.setq (MN _),⟨_,rfl⟩,⟨_,_,_,E,fun z=>?_,fun _=>rfl,fun z=>f2 ((tk z).resolve_left (by decide))⟩⟩
    obtain ⟨q,e1,e2,e3⟩:=f0 ((tk z).resolve_left (by decide))
    exact ⟨q,e1,e2,by rw [MW (Nz e2)];exact e3⟩
  | 2, _ =>
    have S2:Sub M' (M'++(bL m).map fun s=>(cP m r s).map aH):=.app
    have E:((M'++(bL m).map fun s=>(cP m r s).map aH).set M.length ([x0,x1,x2].set 2 (dB m r)))[M.length]?=some [x0,x1,dB m r]:=by rw [Nf (by simp;omega)];rfl
    show ag (af (aQ _ _ _) aj _ _) _
    rw [aX,gm]
    refine jV (M':=M'++(bL m).map fun s=>(cP m r s).map aH) (z:=dB m r) (p:=M.length) (i:=2) (n:=2) (ds:=[x0,x1,x2]) ((cW (ai rfl) s'.ob bc).trans (uj h ho ha (n+1) hm hr s')) (ai rfl) rfl (S2.get ef) rfl ?_
    refine ⟨_,rfl,(S.trans S2).setq (MN _),⟨_,rfl⟩,⟨_,_,_,E,fun z=>?_,fun z=>f1 ((tk z).resolve_left (by decide)),fun _=>rfl⟩⟩
    obtain ⟨q,e1,e2,e3⟩:=f0 ((tk z).resolve_left (by decide))
    exact ⟨q,e1,e2,by rw [MW (Nz e2)];exact S2.get e3⟩
 ·rintro Z M' ⟨S,⟨b,rfl⟩,⟨x0,x1,x2,ef,f0,f1,f2⟩⟩
  rw [MQ,<- lx,List.take_length] at *
  rw [d7]
  exact cZ (ai rfl) ⟨rfl,⟨x0,x1,x2,ef,fun _=>f0 m0,fun _=>f1 m1,fun _=>f2 m2⟩,S⟩
omit h ho ha hq in
theorem rM (n:Nat){f g:Nat}(hm:a9 m)(hr:a7 m r)(a:lW M f m r (fun _=>True))(b:lW M g m r (fun _=>True)):ak P (n+4) 40 [.cell f,.cell g] M=.ok (.bl true) M:=by
 obtain ⟨x0,x1,x2,e1,a0,a1,a2⟩:=a.ex
 obtain ⟨y0,y1,y2,e2,b0,b1,b2⟩:=b.ex
 obtain ⟨q,rfl,_,eq⟩:=a0 trivial
 obtain ⟨u,rfl,_,eu⟩:=b0 trivial
 obtain rfl:=a1 trivial;obtain rfl:=a2 trivial;obtain rfl:=b1 trivial;obtain rfl:=b2 trivial
 have l40:=hr.1
 refine vf ⟨hl.same⟩ (n+3) (ps:=[(.cell q,.cell u),(nD (fH m r),nD (fH m r)),(dB m r,dB m r)]) e1 e2 (by simp) fun p hp=>?_
 simp only [Np,Ov,or_false] at hp
 rcases hp with rfl|rfl|rfl
 ·exact xu ⟨hl.same⟩ (n+1) (.c eq) (.c eu) (by omega)
 ·exact kY ⟨hl.same⟩ (n+2) _
 ·show ak P (n+3) 40 [dB m r,dB m r] M=_
  rw [qy];exact rN ⟨hl.same⟩ n hm hr.2
end
end LD
namespace LD
open PySem
structure rf (P:Nat->Option Df):Prop where
 m:HasM P
 p:HasP P
 row:P 35=some ⟨3,6,gK⟩
 a:pF P
 o:wC P
 e:HasE0 P
 k:IL P
 cost:P 19=some ⟨2,2,lS⟩
 there:P 145=some ⟨1,1,dW⟩
 step:P 146=some ⟨6,8,dU⟩
 home:P 147=some ⟨4,5,ib⟩
 law:P 148=some ⟨1,11,mC⟩
theorem Bu {m:aV}{a b:List Nat}{M:Mem}(hm:a9 m):bx .eq (fx (bP m a b)) (fx (bP m a b)) M=some true:=by
 cases e:bP m a b with
 |none=>rfl
 |some s=>exact (Bt (M:=M) (l:=s) (r:=s)).trans (by simp)
theorem tu:∀l:List (List Nat),iE (l.map aH) (l.map aH)=true
 |[]=>rfl
 | a :: l => by
   show (fz (aH a) (aH a)&&iE (l.map aH) (l.map aH))=true
   rw [tu l,tB];simp
theorem Bs {m:aV}{r:List Nat}{M:Mem}:bx .ne (dB m r) (dB m r) M=some false:=by
 rw [qy]
 have p:aA 64 (.tup ((ends m r).map aH))=true:=by
  show ((ends m r).map aH).all (aA 63)=true
  rw [MX];intro x hx;obtain ⟨i,_,rfl⟩:=NB.mp hx;exact ji 62 i
 exact j9 (v:=true) p p (tu _)
theorem CN {x:D}{r:List Nat}{M:Mem}(h:bq M x r):bx .ne x (av r) M=some false/\bx .eq x (av r) M=some true:=by
 have p:=m7 63 r
 have q:fz (.lst (r.map nD)) (.lst (r.map nD))=true:=(oB r r).trans (by simp)
 exact ⟨j9 (v:=true) (by rw [h.vw];exact p) p (by rw [h.vw];exact q),ka (by rw [h.vw];exact p) p (by rw [h.vw];exact q)⟩
section
variable {P:Nat->Option Df}(h:rf P){M:Mem}{k e:Nat}{m:aV}{r:List Nat}{hs:List (List Nat)}
include h
theorem Ab (n:Nat)(s:ba M k e m r []):ak P (n+1) 135 [.fn (aG k)] M=.err (.exc 11 none) M:=by
 refine yK (Bq h.o.back rfl ?_)
 show ag (eL (ak P n) [some (.fn (aG k))] M) _
 unfold eL
 have fe:bR "earlier" (aa 0) [some (.fn (aG k))] M=.ok (.cell e) M:=dG (i:=2) (ai rfl) s.ob (by decide) rfl
 refine sL (jl (b:=false) ?_) ?_
 ·unfold aC
  rw [fe]
  show bK M ((M[e]?).map fun ds=>!ds.isEmpty)=_
  rw [s.er]
  rfl
 ·rw [aX,Af,bj,fV,cv]
  exact ⟨aT (by decide),rfl,rfl⟩
theorem zR (n:Nat)(s:ba M k e m r []):ak P (n+2) 145 [.fn (aG k)] M=.ok (.bl true) M:=by
 refine aw (az h.there rfl ?_)
 show ag (dW (ak P (n+1)) [some (.fn (aG k))] M) _
 unfold dW
 have em:ip 40 135 (ak P (n+1)) (aa 0) ah [some (.fn (aG k))] M=.err (.exc 11 none) M:=by
  have ec:eG M (aG k)=some 40:=by
   unfold eG aG
   rw [if_pos (Of _ _),Ob,s.ob]
   rfl
  have:ip 40 135 (ak P (n+1)) (aa 0) ah [some (.fn (aG k))] M=if eG M (aG k)=some 40 then ak P (n+1) 135 [.fn (aG k)] M else .bad:=rfl
  rw [this,if_pos ec]
  exact Ab h n s
 rw [aX,Ah,aX,F1,em]
 refine ⟨11,none,rfl,.inl rfl,?_⟩
 exact cZ rfl ⟨rfl,rfl⟩
theorem uh (n:Nat){told:D}{r':List Nat}{hs':List (List Nat)}{t:Nat}(hm:a9 m)(hr:a7 m r)(hh:∀x∈hs,a7 m x)(hz:hs.length<=1000)(c:u6 m hs r (hs'++[r']) told)(s:ba M k e m r hs) :
 a7 m r'/\(∀x∈hs',a7 m x)/\hs'.length<=hs.length+1/\ag (ak P (n+17) 146 [.fn (aG k),m.d,av r,told,av r',nD t] M) fun d M'=>d=.bl true/\ba M' k e m r' hs'/\d9 [k,e] M M':=by
 obtain ⟨hs2,r2,el,hr',hh',hl',ok⟩:=FQ h.m h.o h.a h.e n hm hr hh hz c s
 obtain ⟨rfl,e2⟩:=List.append_inj' el rfl
 cases e2
 refine ⟨hr',hh',hl',?_⟩
 have l1:=hr.1
 have l2:=hr'.1
 have ls:∀{Z:Env}{M:Mem}{j:Nat}{x:List Nat},x.length<=40->Z[j]?.getD none=some (av x)->aR (.list false) (ae (aa j) ah) Z M=.ok (av x) M:=fun {Z M j x} l e=>by
  rw [kc (aq (ai e) bc)]
  exact aw ((bq.l (M:=M) (r:=x)).list.mpr (cF.mpr ⟨aT (by simp;omega),rfl,rfl⟩))
 refine az h.step rfl ?_
 show ag (dU (ak P (n+16)) [some (.fn (aG k)),some m.d,some (av r),some told,some (av r'),some (nD t),none,none] M) _
 unfold dU
 refine cm (k:=fun d M'=>d=fx (bP m r r')/\ba M' k e m r' hs'/\d9 [k,e] M M') ?_ ?_
 ·rw [bw (aq (ai rfl) (aq (ai rfl) bc))]
  exact ok
 rintro _ M1 ⟨rfl,s1,k1⟩
 refine cm (k:=fun d M'=>d=.fn (aG M1.length)/\M'=M1++[[.int 40,m.d,av r',.cell (M1.length+1)],[]]) ?_ ?_
 ·refine uM (aq (ai (x:=m.d) rfl) (aq (ls l2 rfl) bc)) ?_
  rw [ui h.m h.o (n+6) (x:=av r') .l hm hr']
  exact ⟨rfl,rfl,rfl⟩
 rintro _ _ ⟨rfl,rfl⟩
 have S2:Sub M1 (M1++[[.int 40,m.d,av r',.cell (M1.length+1)],[]]):=.app
 have sa:ba (M1++[[.int 40,m.d,av r',.cell (M1.length+1)],[]]) M1.length (M1.length+1) m r' []:=⟨by simp,by simp⟩
 generalize M1++[[.int 40,m.d,av r',.cell (M1.length+1)],[]]=M2 at S2 sa
 refine j4 (R:=fun M'=>Sub M2 M') ?_ fun M3 S3=>?_
 ·rw [zL,nM,hG,iq,bj,bw (aq (ai (x:=.fn (aG k)) rfl) (aq (ai (x:=nD t) rfl) bc))]
  refine aO (uk h.m h.o h.a h.e h.k (n+3) hm hr' (s1.sub S2)) ?_
  rintro _ Ma ⟨rfl,f1,Sa⟩
  rw [bj,bw (aq (ai (x:=.fn (aG M1.length)) rfl) (aq (ja (v:=t) (w:=1) (ai rfl) rfl) bc))]
  refine aO (uk h.m h.o h.a h.e h.k (n+3) hm hr' (sa.sub Sa)) ?_
  rintro _ Mb ⟨rfl,f2,Sb⟩
  show ag (ak P (n+16) 40 [.cell M2.length,.cell Ma.length] Mb) _
  have f1':lW Mb M2.length m r' (fun _=>True):=by
   obtain ⟨x0,x1,x2,e1,a0,a1,a2⟩:=f1.ex
   exact ⟨x0,x1,x2,Sb.get e1,fun z=>let ⟨q,b1,b2,b3⟩:=a0 z;⟨q,b1,b2,Sb.get b3⟩,a1,a2⟩
  rw [rM h.k (n+12) hm hr' f1' f2]
  refine ⟨true,rfl,?_⟩
  show ag (aC (aU .ne _ _) _ Mb) _
  have sb:=(s1.sub S2).sub (Sa.trans Sb)
  rw [hG,ia,cW (ai (x:=.fn (aG k)) rfl) sb.ob bc,oO h.m h.o (n+15) l2 sb]
  exact ⟨false,(CN (.c (by simp))).1,false,rfl,rfl,(Sa.trans Sb).trans .app⟩
 refine j4 (R:=fun M'=>Sub M2 M') ?_ fun M4 S4=>?_
 ·have s3:=(s1.sub S2).sub S3
  rw [zL,hG,ia,cW (ai (x:=.fn (aG k)) rfl) s3.ob bc,rL h.m h.o (n+14) hr' s3,bU,bw (aq (ai (x:=m.d) rfl) (aq (ls l2 rfl) bc)),DL h.m.toHasM0 h.cost h.o.summed (n+6) hm hr']
  refine ⟨false,?_,false,rfl,?_⟩
  ·show some (!((fH m r':Int)==(fH m r':Int)))=_
   simp
  show ag (aC (aU .ne _ _) _ M3) _
  rw [hG,ia,cW (ai (x:=.fn (aG k)) rfl) s3.ob bc,uj h.m h.o h.a (n+5) hm hr' s3,bU,bw (aq (ai (x:=m.d) rfl) (aq (ls l2 rfl) bc)),FR h.m h.a.h15 h.a.h27 h.a.h46 (n+5) hm hr']
  exact ⟨false,Bs,false,rfl,rfl,(S3.trans .app).trans .app⟩
 refine bA ?_
 rw [ia,cM]
 refine ⟨_,rfl,?_⟩
 rw [bw (aq (ai (x:=m.d) rfl) (aq (ls l1 rfl) (aq (ls l2 rfl) bc)))]
 refine aO (pT h.m h.a (n+4) hm hr hr') ?_
 rintro _ M5 ⟨rfl,S5⟩
 have S:Sub M1 M5:=(S2.trans S4).trans S5
 exact ⟨true,Bu hm,rfl,s1.sub S,k1.trans (.of S)⟩
end
end LD
namespace LD
open PySem
noncomputable def uR (c:Call):GS:=(af (aK (.tup [9,10]) (au 138 c (ae (aa 1) (ae (aa 3) (ae (aa 7) ah))))) (af (aQ (bH (aC (au 146 c (ae (aa 5) (ae (aa 3) (ae (aE (aa 7) (du (gI 1))) (ae (aa 10) (ae (aE (aa 9) (du (gI 1))) (ae (au 31 c (ae (aa 1) (ae (gI 6) ah))) ah))))))))) rF aj) (af (aK (.one 7) (aa 9)) aj)))
noncomputable def u4 (c:Call):GS:=(af (aK (.one 7) (bE false (ae (aa 4) ah))) (af (dJ (.one 8) (cY (ay false .add (aE (bE false (ae (gI 8) (ae (gI 1) ah))) (aa 6)) (au 31 c (ae (aa 1) (ae (aE (bE false (ae (gI 8) (ae (gI 4) ah))) (aa 6)) ah))))) (af (aK (.tup [9,10]) (au 138 c (ae (aa 1) (ae (aa 3) (ae (aa 7) ah))))) (af (aQ (bH (aC (au 146 c (ae (aa 5) (ae (aa 3) (ae (aE (aa 7) (du (gI 1))) (ae (aa 10) (ae (aE (aa 9) (du (gI 1))) (ae (au 31 c (ae (aa 1) (ae (gI 6) ah))) ah))))))))) rF aj) (af (aK (.one 7) (aa 9)) aj)))) (af (aQ (bH (aC (au 147 c (ae (aa 5) (ae (aa 3) (ae (aa 7) (ae (au 31 c (ae (aa 1) (ae (gI 6) ah))) ah))))))) rF aj) aj)))
noncomputable def xb (c:Call):GS:=(af (aK (.one 3) (au 34 c (ae (au 30 c (ae (aa 1) ah)) (ae (gI 4) (ae (gI 2) (ae (gI 6) ah)))))) (af (aK (.one 4) (au 35 c (ae (aa 1) (ae (aa 3) (ae (gI 6) ah))))) (af (aK (.one 5) (kJ 40 129 c (ae (aa 3) (ae (aR (.list false) (ae (aa 4) ah)) ah)))) (af (dJ (.one 6) (cY (gI 2)) (af (aK (.one 7) (bE false (ae (aa 4) ah))) (af (dJ (.one 8) (cY (ay false .add (aE (bE false (ae (gI 8) (ae (gI 1) ah))) (aa 6)) (au 31 c (ae (aa 1) (ae (aE (bE false (ae (gI 8) (ae (gI 4) ah))) (aa 6)) ah))))) (af (aK (.tup [9,10]) (au 138 c (ae (aa 1) (ae (aa 3) (ae (aa 7) ah))))) (af (aQ (bH (aC (au 146 c (ae (aa 5) (ae (aa 3) (ae (aE (aa 7) (du (gI 1))) (ae (aa 10) (ae (aE (aa 9) (du (gI 1))) (ae (au 31 c (ae (aa 1) (ae (gI 6) ah))) ah))))))))) rF aj) (af (aK (.one 7) (aa 9)) aj)))) (af (aQ (bH (aC (au 147 c (ae (aa 5) (ae (aa 3) (ae (aa 7) (ae (au 31 c (ae (aa 1) (ae (gI 6) ah))) ah))))))) rF aj) aj)))) aj))))
theorem Dz {Z:Env}{M:Mem}{a:GE}{v w:Nat}(ha:a Z M=.ok (nD w) M)(hw:w=v+1):ay false .sub a (gI 1) Z M=.ok (nD v) M:=by
 unfold ay
 rw [ha]
 show Res.ok (D.int ((w:Int)-1)) M=_
 congr 2;omega
section
variable {P:Nat->Option Df}(h:rf P){M:Mem}{p B k e:Nat}{m:aV}{r:List Nat}{hs:List (List Nat)}
omit h in
theorem D3 {Z:Env}{M:Mem}{a b c:GE}{i j:Int}(ha:a Z M=.ok (.int i) M)(hb:b Z M=.ok (.int j) M)(hc:c Z M=.ok (.int (-1)) M)(h1:0<=i/\i<=1000)(h2:0<=j/\j<=1000):oo a b c Z M=.ok (fun _=>some ((List.range (i-j).toNat).map fun (k:Nat)=>D.int (i-(k:Int)))) M:=by
 unfold oo
 rw [ha];show (b Z M).bind _=_;rw [hb];show (c Z M).bind _=_;rw [hc]
 exact if_pos ⟨rfl,by omega,by omega,by omega,by omega⟩
include h
theorem DJ (n:Nat){t:Nat}(hm:a9 m)(hr:a7 m r)(hh:∀x∈hs,a7 m x)(hz:hs.length<=100)(s:ba M k e m r hs) :
 ag (ak P (n+18) 147 [.fn (aG k),m.d,.lst ((hs++[r]).map av),nD t] M) fun d M'=>d=.bl true/\d9 [k,e] M M'/\∀r0 tl,hs++[r]=r0::tl->ba M' k e m r0 []:=by
 refine az h.home rfl ?_
 show ag (ib (ak P (n+17)) [some (.fn (aG k)),some m.d,some (.lst ((hs++[r]).map av)),some (nD t),none] M) _
 unfold ib
 have el:ay false .sub (aR .len (ae (aa 2) ah)) (gI 1) [some (.fn (aG k)),some m.d,some (.lst ((hs++[r]).map av)),some (nD t),none] M=.ok (.int (hs.length:Int)) M:=by
  unfold ay
  rw [pb (ai rfl)]
  show Res.ok (D.int (((((hs++[r]).map av).length:Nat):Int)-1)) M=_
  congr 2;simp
 rw [aX,jT,D3 el rfl rfl ⟨by omega,by omega⟩ ⟨by decide,by decide⟩,bU]
 refine eK (ds:=(List.range ((hs.length:Int)-0).toNat).map fun (k:Nat)=>D.int ((hs.length:Int)-(k:Int))) (fun i Z M'=>∃hs1 r1 tl b,hs++[r]=hs1++r1::tl/\hs1.length+i=hs.length/\a7 m r1/\(∀x∈hs1,a7 m x)/\ba M' k e m r1 hs1/\d9 [k,e] M M'/\Z=[some (.fn (aG k)),some m.d,some (.lst ((hs++[r]).map av)),some (nD t),b]) (fun _ _ _ _=>rfl) ⟨hs,r,[],none,rfl,rfl,hr,hh,s,.refl,rfl⟩ ?_ ?_
 ·rintro i d Z M' hd ⟨hs1,r1,tl,b,e1,e2,hr1,hh1,s1,k1,rfl⟩
  have hi:=(MH.mp hd).1
  rw [MQ,NM] at hi
  rw [Nv,OL hi] at hd
  have ed:d=nD hs1.length:=by
   cases hd
   show D.int _=D.int _
   congr 1;omega
  subst ed
  obtain ⟨hs0,r0,rfl⟩:∃hs0 r0,hs1=hs0++[r0]:=⟨hs1.dropLast,hs1.getLast (fun z=>by rw [z] at e2;simp at e2;omega),(List.dropLast_concat_getLast _).symm⟩
  refine ⟨_,rfl,?_⟩
  have hl0:(hs0++[r0]).length=hs0.length+1:=by simp
  have i1:cH (.lst ((hs++[r]).map av)) (nD (hs0++[r0]).length) M'=some (av r1):=by
   rw [e1,qW (by simp)];simp
  have i2:cH (.lst ((hs++[r]).map av)) (nD hs0.length) M'=some (av r0):=by
   rw [e1,qW (by simp)];simp
  refine j4 (R:=fun M2=>ba M2 k e m r0 hs0/\d9 [k,e] M' M2) ?_ fun M2 ⟨s2,k2⟩=>?_
  ·rw [nM,hG,bw (aq (ai (x:=.fn (aG k)) rfl) (aq (ai (x:=m.d) rfl) (aq (bQ (ai rfl) (ai (x:=nD (hs0++[r0]).length) rfl) i1) (aq (gi (xs:=[]) bc (by simp)) (aq (bQ (d:=av r0) (ai rfl) (Dz (v:=hs0.length) (ai (x:=nD (hs0++[r0]).length) rfl) hl0) i2) (aq (ja (v:=t) (w:=(hs0++[r0]).length) (ai rfl) (ai rfl)) bc))))))]
   obtain ⟨_,_,_,ok⟩:=uh h n (told:=.tup []) (r':=r0) (hs':=hs0) (t:=t+(hs0++[r0]).length) hm hr1 hh1 (by omega) (.inl ⟨hs0,r0,rfl,rfl,rfl⟩) s1
   refine aO ok ?_
   rintro _ M2 ⟨rfl,s2,k2⟩
   exact ⟨true,rfl,rfl,s2,k2⟩
  ·exact ⟨_,rfl,hs0,r0,r1::tl,_,by rw [e1];simp,by omega,hh1 r0 (by simp),fun x hx=>hh1 x (by simp [hx]),s2,k1.trans k2,rfl⟩
 ·rintro Z M' ⟨hs1,r1,tl,b,e1,e2,hr1,hh1,s1,k1,rfl⟩
  rw [MQ,NM] at e2
  obtain rfl:hs1=[]:=Ow.mp (by omega)
  rw [d7]
  refine bA ?_
  have et:∀{M1:Mem},ba M1 k e m r1 []->au 145 (ak P (n+17)) (ae (aa 0) ah) [some (.fn (aG k)),some m.d,some (.lst ((hs++[r]).map av)),some (nD t),b] M1=.ok (.bl true) M1:=fun s=>(bw (aq (ai rfl) bc)).trans (zR h (n+15) s)
  have s2:ba (M'++[r1.map nD]) k e m r1 []:=s1.sub .app
  rw [qX,et s1,bU]
  refine ⟨true,rfl,?_⟩
  show ag (dv _ _ _ M') _
  rw [qX,ia,cW (ai (x:=.fn (aG k)) rfl) s1.ob bc,oO h.m h.o (n+16) hr1.1 s1,bU,bQ (d:=av r1) (ai rfl) (y:=nD 0) rfl (by rw [e1,qW (by simp)];rfl)]
  refine ⟨true,(CN (.c (by simp))).2,true,rfl,?_⟩
  show ag (au 145 _ _ _ (M'++[r1.map nD])) _
  rw [et s2]
  refine ⟨rfl,k1.trans (.of .app),fun r0 tl0 e0=>?_⟩
  rw [e1] at e0
  cases e0
  exact s2
omit h in
theorem u6.head {later:List (List Nat)}{told:D}{row:List Nat}{tl:List (List Nat)}(c:u6 m hs r later told)(e:hs++[r]=row::tl):∃tl',later=row::tl':=by
 rcases c with ⟨hs0,r0,rfl,rfl,rfl⟩|⟨a,ha1,rfl,rfl⟩|⟨a,i,ha1,h40,hi,rfl,rfl⟩
 ·cases hs0 with
  |nil=>cases e;exact ⟨[],rfl⟩
  |cons x l=>cases e;exact ⟨l++[r0],rfl⟩
 ·rw [e];exact ⟨_,rfl⟩
 ·rw [e];exact ⟨_,rfl⟩
end
structure fS (M:Mem) (p B k e:Nat) (m:aV) (r:List Nat) (hs:List (List Nat)):Prop where
 pen:aS M p B
 h1:p<k
 h2:p<e
 sh:ba M k e m r hs
section
variable {M M':Mem}{p B k e:Nat}{m:aV}{r:List Nat}{hs:List (List Nat)}
theorem fS.keep {B':Nat}(h:fS M p B k e m r hs)(s:bp p M M')(hp:aS M' p B'):fS M' p B' k e m r hs:=
 ⟨hp,h.h1,h.h2,s.get h.sh.ob (NR h.h1),s.get h.sh.er (NR h.h2)⟩
theorem fS.shop {r':List Nat}{hs':List (List Nat)}(h:fS M p B k e m r hs)(s:d9 [k,e] M M')(hp:ba M' k e m r' hs'):fS M' p B k e m r' hs':=
 ⟨h.pen.of fun j hj=>s.at' j (Nat.lt_of_le_of_lt hj h.pen.lt) (by have:=h.h1;have:=h.h2;simp;omega),h.h1,h.h2,hp⟩
end
section
variable {P:Nat->Option Df}(h:rf P){M:Mem}{p B k e:Nat}{m:aV}{r:List Nat}{hs:List (List Nat)}
include h
theorem FP {x0 x2 x4 x6 x8 x9 x10:Option D}(hm:a9 m)(hr:a7 m r)(hh:∀x∈hs,a7 m x)(hl:hs.length<=40)(hB:B<=600000)(st:fS M p B k e m r hs) :
 ag (uR (ak P 39) [x0,some (.cell p),x2,some m.d,x4,some (.fn (aG k)),x6,some (.lst ((hs++[r]).map av)),x8,x9,x10] M) fun fl M'=>∃r' hs' x9 x10,fl=.next [x0,some (.cell p),x2,some m.d,x4,some (.fn (aG k)),x6,some (.lst ((hs'++[r']).map av)),x8,x9,x10]
  /\fS M' p (B+4) k e m r' hs'/\a7 m r'/\(∀x∈hs',a7 m x)/\hs'.length<=hs.length+1/\∀row tl,hs++[r]=row::tl->∃tl',hs'++[r']=row::tl':=by
 unfold uR
 refine Fh (kd:=fun d M'=>∃later told,d=.tup [.lst (later.map av),told]/\u6 m hs r later told/\aS M' p (B+3)/\bp p M M') ?_ ?_
 ·rw [bw (aq (ai rfl) (aq (ai rfl) (aq (ai rfl) bc)))]
  exact vi h.p.toHasP0 h.e 36 hm hr (by omega) st.pen (by omega)
 rintro _ M1 ⟨later,told,rfl,cg,p1,k1⟩
 refine ⟨_,rfl,?_⟩
 have st1:=st.keep k1 p1
 obtain ⟨hs',r',el⟩:∃hs' r',later=hs'++[r']:=by
  rcases cg with ⟨hs0,r0,rfl,rfl,_⟩|⟨a,_,rfl,_⟩|⟨a,i,_,_,_,rfl,_⟩
  ·exact ⟨_,_,rfl⟩
  ·exact ⟨_,_,rfl⟩
  ·exact ⟨_,_,rfl⟩
 subst el
 refine j4 (R:=fun M'=>fS M' p (B+4) k e m r' hs'/\a7 m r'/\(∀x∈hs',a7 m x)/\hs'.length<=hs.length+1) ?_ fun M3 ⟨st3,hr',hh',hl'⟩=>?_
 ·rw [nM,hG,iq,bj,ai (x:=.fn (aG k)) rfl,bU,bj,ai (x:=m.d) rfl,bU,bj,sH (l:=hs) (x:=r) rfl,bU,bj,ai (x:=told) rfl,bU,bj,sH (l:=hs') (x:=r') rfl,bU,bj]
  refine aO (eV h.p.toHasP0 37 (many:=6) (p:=p) rfl rfl st1.pen (by omega) (by decide) (by decide)) ?_
  rintro _ M2 ⟨t,rfl,ht,p2,k2⟩
  have st2:=st1.keep k2 p2
  rw [cv]
  obtain ⟨a1,a2,a3,ok⟩:=uh h 22 (t:=t) hm hr hh (by omega) cg st2.sh
  refine aO ok ?_
  rintro _ M3 ⟨rfl,s3,k3⟩
  exact ⟨true,rfl,rfl,st2.shop k3 s3,a1,a2,a3⟩
 refine cj (dH (ai rfl)) ?_
 exact ⟨r',hs',_,_,rfl,st3,hr',hh',hl',fun row tl e=>cg.head e⟩
theorem By {x0 x2 x7 x8 x9 x10:Option D}{j:Nat}(hj:j<2)(hm:a9 m)(hr:a7 m r)(hB:B<=10000)(st:fS M p B k e m r []) :
 ag (u4 (ak P 39) [x0,some (.cell p),x2,some m.d,some (av r),some (.fn (aG k)),some (nD j),x7,x8,x9,x10] M) fun fl M'=>fS M' p (B+100) k e m r []/\∃y7 y8 y9 y10,fl=.next [x0,some (.cell p),x2,some m.d,some (av r),some (.fn (aG k)),some (nD j),y7,y8,y9,y10]:=by
 unfold u4
 refine cj (dH (gy (aq (ai (x:=av r) rfl) bc) (by simp))) ?_
 obtain ⟨c8,c4,b8,b4,i8,i4⟩:∃c8 c4:Nat,c8<=8/\(1<=c4/\c4<=8)/\(∀{M:Mem},cH (.lst [.int 8,.int 1]) (nD j) M=some (nD c8))/\∀{M:Mem},cH (.lst [.int 8,.int 4]) (nD j) M=some (nD c4):=by
  match j,hj with
  |0,_=>exact ⟨8,8,by decide,by decide,rfl,rfl⟩
  |1,_=>exact ⟨1,4,by decide,by decide,rfl,rfl⟩
 rw [aX,jT,f9,jG,bQ (gy (aq rfl (aq rfl bc)) (by simp)) (ai (x:=nD j) rfl) i8,bU]
 refine aO (eV h.p.toHasP0 37 (many:=c4) (p:=p) rfl (bQ (gy (aq rfl (aq rfl bc)) (by simp)) (ai (x:=nD j) rfl) i4) st.pen (by omega) (by omega) (by omega)) ?_
 rintro _ M1 ⟨v,rfl,hv,p1,k1⟩
 have st1:=st.keep k1 p1
 refine ⟨(c8:Int)+(v:Int),rfl,⟨by omega,by omega⟩,?_⟩
 refine eK (ds:=(List.range ((c8:Int)+(v:Int)).toNat).map fun (k:Nat)=>D.int (k:Int)) (fun i Z M'=>∃r1 hs y8 y9 y10,Z=[x0,some (.cell p),x2,some m.d,some (av r),some (.fn (aG k)),some (nD j),some (.lst ((hs++[r1]).map av)),y8,y9,y10]/\fS M' p (B+1+4*i) k e m r1 hs/\a7 m r1/\(∀x∈hs,a7 m x)/\hs.length<=i/\∃tl,hs++[r1]=r::tl) (fun _ _ _ _=>rfl) ⟨r,[],_,_,_,rfl,st1,hr,(fun _ z=>by cases z),Nat.zero_le _,[],rfl⟩ ?_ ?_
 ·rintro i d Z M' hd ⟨r1,hs,y8,y9,y10,rfl,st,hr1,hh,hl,tl,e1⟩
  have hi:i<16:=by
   have:=(MH.mp hd).1
   rw [MQ,NM] at this
   omega
  refine ⟨_,rfl,?_⟩
  refine aO (FP h hm hr1 hh (by omega) (by omega) st) ?_
  rintro fl M2 ⟨r2,hs2,z9,z10,rfl,st2,hr2,hh2,hl2,hd2⟩
  exact ⟨_,rfl,r2,hs2,_,_,_,rfl,st2,hr2,hh2,by omega,hd2 r tl e1⟩
 ·rintro Z M' ⟨r1,hs,y8,y9,y10,rfl,st,hr1,hh,hl,tl,e1⟩
  rw [MQ,NM] at hl st
  rw [d7]
  refine j4 (R:=fun M2=>fS M2 p (B+100) k e m r []) ?_ fun M2 st2=>⟨st2,_,_,_,_,rfl⟩
  rw [nM,hG,iq,bj,ai (x:=.fn (aG k)) rfl,bU,bj,ai (x:=m.d) rfl,bU,bj,ai (x:=.lst ((hs++[r1]).map av)) rfl,bU,bj]
  refine aO (eV h.p.toHasP0 37 (many:=6) (p:=p) rfl rfl st.pen (by omega) (by decide) (by decide)) ?_
  rintro _ M2 ⟨t,rfl,ht,p2,k2⟩
  have st2:=st.keep k2 p2
  rw [cv]
  refine aO (DJ h 21 (t:=t) hm hr1 hh (by omega) st2.sh) ?_
  rintro _ M3 ⟨rfl,k3,s3⟩
  have st3:=st2.shop k3 (s3 r tl e1)
  exact ⟨true,rfl,rfl,st3.pen.mono (by omega),st3.h1,st3.h2,st3.sh⟩
theorem w6 {x0 x2 x3 x4 x5 x6 x7 x8 x9 x10:Option D}(hB:B<=5000)(hp:aS M p B) :
 ag (xb (ak P 39) [x0,some (.cell p),x2,x3,x4,x5,x6,x7,x8,x9,x10] M) fun fl M'=>aS M' p (B+1000)/\∃y3 y4 y5 y6 y7 y8 y9 y10,fl=.next [x0,some (.cell p),x2,y3,y4,y5,y6,y7,y8,y9,y10]:=by
 unfold xb
 refine cm (k:=fun d M'=>∃m:aV,d=m.d/\a9 m/\aS M' p (B+300)) ?_ ?_
 ·rw [iq,bj,bw (aq (ai (x:=.cell p) rfl) bc)]
  refine aO (DM h.p.toHasP0 38 hp) ?_
  rintro _ M1 ⟨rfl,p1,k1⟩
  show ag (ak P 39 34 [.cell p,nD 4,nD 2,nD 6] M1) _
  refine aO (vh h.p 34 p1 (by omega) (by decide) (by decide) (by decide) (by decide) (by decide) (by decide)) ?_
  rintro d M2 ⟨m,e,hm,_,_,_,p2,_⟩
  exact ⟨m,e,hm,p2⟩
 rintro _ M1 ⟨m,rfl,hm,p1⟩
 refine cm (k:=fun d M'=>∃r:List Nat,d=av r/\a7 m r/\r.length<=6/\aS M' p (B+350)) ?_ ?_
 ·rw [bw (aq (ai (x:=.cell p) rfl) (aq (ai (x:=m.d) rfl) (aq (x:=nD 6) rfl bc)))]
  refine aO (DF h.p h.row 36 hm p1 (by omega) (by decide)) ?_
  rintro d M2 ⟨r,e,hr,h8,p2,_⟩
  exact ⟨r,e,hr,h8,p2⟩
 rintro _ M2 ⟨r,rfl,hr,h8,p2⟩
 have lp:=p2.lt
 refine cm (k:=fun d M'=>d=.fn (aG M2.length)/\M'=M2++[[.int 40,m.d,av r,.cell (M2.length+1)],[]]) ?_ ?_
 ·refine uM (ds:=[m.d,av r]) (aq (ai (x:=m.d) rfl) (aq ?_ bc)) ?_
  ·rw [kc (aq (ai (x:=av r) rfl) bc)]
   exact aw ((bq.l (M:=M2) (r:=r)).list.mpr (cF.mpr ⟨aT (by simp;omega),rfl,rfl⟩))
  rw [ui h.m h.o 29 (x:=av r) .l hm hr]
  exact ⟨rfl,rfl,rfl⟩
 rintro _ _ ⟨rfl,rfl⟩
 have st0:fS (M2++[[.int 40,m.d,av r,.cell (M2.length+1)],[]]) p (B+350) M2.length (M2.length+1) m r []:=⟨p2.app,lp,by omega,by simp,by simp⟩
 generalize M2++[[.int 40,m.d,av r,.cell (M2.length+1)],[]]=M3 at st0 ⊢
 generalize M2.length+1=e at st0 ⊢
 generalize M2.length=k at st0 ⊢
 rw [aX,jT,f9,fV]
 refine ⟨2,rfl,⟨by decide,by decide⟩,?_⟩
 refine eK (ds:=(List.range 2).map fun (k:Nat)=>D.int (k:Int)) (fun i Z M'=>fS M' p (B+350+100*i) k e m r []/\∃y6 y7 y8 y9 y10,Z=[x0,some (.cell p),x2,some m.d,some (av r),some (.fn (aG k)),y6,y7,y8,y9,y10]) (fun _ _ _ _=>rfl) ⟨st0,_,_,_,_,_,rfl⟩ ?_ ?_
 ·rintro i d Z M' hd ⟨st,y6,y7,y8,y9,y10,rfl⟩
  have hi:i<2:=(MH.mp hd).1
  rw [Nv,OL hi] at hd
  cases hd
  refine ⟨_,rfl,?_⟩
  refine aO (By h hi hm hr (by omega) st) ?_
  rintro fl M4 ⟨st4,z7,z8,z9,z10,rfl⟩
  exact ⟨_,rfl,⟨st4.pen.mono (by omega),st4.h1,st4.h2,st4.sh⟩,_,_,_,_,_,rfl⟩
 ·rintro Z M' ⟨st,y6,y7,y8,y9,y10,rfl⟩
  exact ⟨st.pen.mono (by simp),_,_,_,_,_,_,_,_,rfl⟩
omit h in
theorem JB (h:rf P)(ns:List Int)(hn:ns.length<=63):∃M,ak P 40 148 [.frz (ns.map D.int)] []=.ok (.bl true) M:=by
 have goal:ag (ak P 40 148 [.frz (ns.map D.int)] []) fun d _=>d=.bl true:=by
  refine az h.law rfl ?_
  show ag (mC (ak P 39) [some (.frz (ns.map D.int)),none,none,none,none,none,none,none,none,none,none] []) _
  unfold mC
  refine cm (k:=fun d M'=>d=.cell 1/\aS M' 1 0) ?_ ?_
  ·rw [bw (aq (ai rfl) bc)]
   exact DH h.p.toHasP0 38 hn
  rintro _ M1 ⟨rfl,p1⟩
  rw [aX,jT,f9]
  refine ⟨2,rfl,⟨by decide,by decide⟩,?_⟩
  refine eK (ds:=(List.range 2).map fun (k:Nat)=>D.int (k:Int)) (fun i Z M'=>aS M' 1 (1000*i)/\∃y2 y3 y4 y5 y6 y7 y8 y9 y10,Z=[some (.frz (ns.map D.int)),some (.cell 1),y2,y3,y4,y5,y6,y7,y8,y9,y10]) (fun _ _ _ _=>rfl) ⟨p1,_,_,_,_,_,_,_,_,_,rfl⟩ ?_ ?_
  ·rintro i d Z M' hd ⟨hp,y2,y3,y4,y5,y6,y7,y8,y9,y10,rfl⟩
   have hi:i<2:=(MH.mp hd).1
   refine ⟨_,rfl,?_⟩
   refine aO (w6 h (by omega) hp) ?_
   rintro fl M2 ⟨p2,z3,z4,z5,z6,z7,z8,z9,z10,rfl⟩
   exact ⟨_,rfl,p2.mono (by omega),_,_,_,_,_,_,_,_,_,rfl⟩
  ·rintro Z M' ⟨hp,y2,y3,y4,y5,y6,y7,y8,y9,y10,rfl⟩
   rw [d7]
   exact cZ rfl rfl
 obtain ⟨d,M,e,rfl⟩:=iL.mp goal
 exact ⟨M,e⟩
end
end LD
set_option maxHeartbeats 0
namespace K54
open PySem PySem.Spec PyProof.Rows L2 LD
noncomputable def top (i:Nat):Stmt:=PySem.Challenge.pw_leastdeeds_k54_whole_shops_as_made_anew.main.body.getD i (.Pass ⟨0,0,0,0⟩)
noncomputable def q0:Str×Tok:=("leastdeeds.wholes",319)
noncomputable def q1:Str×Tok:=("leastdeeds.machines",330)
noncomputable def q2:Str×Tok:=("leastdeeds.runs",515)
noncomputable def q3:Str×Tok:=("leastdeeds.alike",610)
noncomputable def q4:Str×Tok:=("leastdeeds.shop",626)
noncomputable def q5:Str×Tok:=("law_leastdeeds_k54_whole_shops_as_made_anew",729)
noncomputable def tb:List Ent:=[⟨0,"is_between",top 10,3,["thing","low","high"],120,q0,eX,false,none⟩,
 ⟨1,"is_word",top 18,2,["words","thing"],127,q1,jI,false,none⟩,
 ⟨2,"is_place",top 19,2,["places","thing"],134,q1,iV,false,none⟩,
 ⟨3,"is_cost",top 20,1,["thing"],141,q1,jJ,false,none⟩,
 ⟨4,"is_tuple_of",top 21,2,["long","thing"],148,q1,fJ,false,none⟩,
 ⟨5,"is_table",top 22,2,["words","thing"],153,q1,iU,false,none⟩,
 ⟨6,"is_double_table",top 23,2,["words","thing"],158,q1,dS,false,none⟩,
 ⟨7,"is_turn",top 24,3,["words","places","parts","at","table","price"],165,q1,fW,false,none⟩,
 ⟨8,"is_join",top 25,3,["words","places","parts","at","other","table","price"],172,q1,fY,false,none⟩,
 ⟨9,"is_move",top 26,3,["words","places","parts","at","other","price"],179,q1,fX,false,none⟩,
 ⟨10,"is_put",top 27,3,["words","places","parts","at","word","price"],186,q1,g8,false,none⟩,
 ⟨11,"is_deed",top 29,3,["words","places","thing","sort","is_sort"],194,q1,fZ,false,none⟩,
 ⟨12,"is_machine",top 30,1,["thing","words","places","deeds"],199,q1,eW,false,none⟩,
 ⟨13,"need_machine",top 31,1,["thing"],206,q1,g7,true,none⟩,
 ⟨15,"beginnings",top 32,1,["machine","words","places","deeds","starts","place"],211,q1,cS,true,none⟩,
 ⟨16,"is_deed_number",top 33,2,["machine","thing"],218,q1,fR,false,none⟩,
 ⟨17,"need_numbers",top 34,2,["machine","row","place","thing"],225,q1,gZ,true,none⟩,
 ⟨18,"need_row",top 35,2,["machine","row"],232,q1,kO,true,none⟩,
 ⟨47,"summed_cost",top 36,2,["machine","row"],237,q1,dC,false,none⟩,
 ⟨19,"cost",top 37,2,["machine","row"],244,q1,lS,true,none⟩,
 ⟨20,"turned",top 39,2,["deed","standing","sort","at","table","price"],251,q2,nv,false,none⟩,
 ⟨21,"joined",top 40,2,["deed","standing","sort","at","other","table","price"],258,q2,nB,false,none⟩,
 ⟨22,"moved",top 41,2,["deed","standing","sort","at","other","price"],265,q2,pC,false,none⟩,
 ⟨23,"put_in",top 42,2,["deed","standing","sort","at","word","price"],272,q2,nz,false,none⟩,
 ⟨24,"done",top 44,2,["deed","standing","new_word","at"],280,q2,tJ,false,none⟩,
 ⟨25,"all_standing",top 45,3,["machine","row","beginning","standings","number"],287,q2,g9,false,none⟩,
 ⟨46,"ends_of",top 46,2,["machine","row"],292,q2,eY,false,none⟩,
 ⟨27,"behaviour",top 47,2,["machine","row"],299,q2,fF,true,none⟩,
 ⟨48,"parted",top 49,3,["machine","one","other","one_ends","other_ends","start","one_end","other_end"],306,q3,nA,true,none⟩,
 ⟨129,"__init__",inClass (top 51) 0,3,["self","machine","row"],320,q4,eP,true,some "Shop.__init__"⟩,
 ⟨130,"row",inClass (top 51) 1,1,["self"],327,q4,iX,false,some "Shop.row"⟩,
 ⟨131,"cost",inClass (top 51) 2,1,["self"],334,q4,ig,false,some "Shop.cost"⟩,
 ⟨132,"behaviour",inClass (top 51) 3,1,["self"],341,q4,eC,false,some "Shop.behaviour"⟩,
 ⟨133,"put",inClass (top 51) 5,3,["self","place","number"],355,q4,iY,true,some "Shop.put"⟩,
 ⟨134,"out",inClass (top 51) 6,2,["self","place"],362,q4,iZ,true,some "Shop.out"⟩,
 ⟨135,"back",inClass (top 51) 7,1,["self"],369,q4,eL,true,some "Shop.back"⟩,
 ⟨136,"change",inClass (top 51) 8,2,["self","row"],376,q4,fM,false,some "Shop.change"⟩,
 ⟨137,"give",inClass (top 51) 9,2,["self","row","start"],383,q4,ie,true,some "Shop.give"⟩,
 ⟨28,"_law_spread",top 53,2,["cell","at","primes","one","two","three"],397,q5,fK,false,none⟩,
 ⟨29,"_law_open",top 54,1,["script","cells","k","cell"],404,q5,jO,false,none⟩,
 ⟨30,"_law_anew",top 55,1,["pen"],411,q5,jP,false,none⟩,
 ⟨31,"_law_take",top 56,2,["pen","many","at","cell","found"],418,q5,mO,false,none⟩,
 ⟨40,"_law_same",top 57,2,["found","due"],423,q5,cb,false,none⟩,
 ⟨32,"_law_tab",top 58,2,["pen","words","kind","word","other","found"],428,q5,iW,false,none⟩,
 ⟨33,"_law_deed",top 59,3,["pen","words","places","kind","price","at","other"],433,q5,ic,false,none⟩,
 ⟨34,"_law_machine",top 60,4,["pen","words","places","most","deeds","k","again","deed"],440,q5,fq,false,none⟩,
 ⟨35,"_law_row",top 61,3,["pen","machine","most","kind","many","found"],445,q5,gK,false,none⟩,
 ⟨138,"_law_change",top 62,3,["pen","machine","rows","way","row","at","number"],452,q5,fL,false,none⟩,
 ⟨139,"_law_do",top 63,2,["shop","told"],459,q5,d8,false,none⟩,
 ⟨141,"_law_orders",top 64,0,[],466,q5,iF,false,none⟩,
 ⟨144,"_law_look_by",top 65,2,["shop","turn","found","at"],473,q5,ft,false,none⟩,
 ⟨145,"_law_ends_there",top 66,1,["shop"],480,q5,dW,false,none⟩,
 ⟨146,"_law_step_right",top 67,6,["shop","machine","ahead","told","behind","turn","found","anew"],487,q5,dU,false,none⟩,
 ⟨147,"_law_home",top 68,4,["shop","machine","rows","turn","k"],494,q5,ib,false,none⟩,
 ⟨148,"law",top 69,1,["script","pen","turn","machine","row","shop","again","rows","step","later","told"],501,q5,mC,false,none⟩]
noncomputable def rs:Rs:=⟨[BQ,wX,FI,FC,Fz,FE,FD,FJ,Fy,wR,wV,BU,BV,BX,BW,Kj,FG,BR,BS,FA,wZ],[vT],[BG,BH],[BM,BL,BN,BK,BJ,Fv],[BF,Fm,Fo,Fp,Fn,Fj,wG,t8]⟩
theorem Jf:BB rs:=⟨⟨zv,wW,Ds,Dn,Dl,Dq,Dp,Dt,Dk,wQ,wU,zy,zz,zB,zA,FH,Dr,zw,zx,Dm,wY,trivial⟩,⟨IW,trivial⟩,⟨zh,zi,trivial⟩,⟨zr,zq,zt,zp,zo,Dg,trivial⟩,⟨zg,C7,C9,Dc,C8,C6,wF,u7,trivial⟩⟩
noncomputable def te0:List (Str×En):=List.map (fun x=>(x,En.bl)) ["all","bool","enumerate","int","isinstance","len","list","range","str","sum","tuple","zip"]
noncomputable def te1:List (Str×En):=[("LEAST_WORDS",.int 2),("LONGEST_ROW",.int 40),("MOST_COST",.int 3),("MOST_DEEDS",.int 6),("MOST_PLACES",.int 2),("MOST_WORDS",.int 4),("NEW_WORDS",.dct cu),("SORTS",.dct cq),("NoRow",.xi 0),("NoMachine",.xc 3),("TooLong",.xc 4),("NoPlace",.xc 9)]
noncomputable def te2:List (Str×En):=[("NoDeed",.xc 10),("Nothing",.xc 11),("DeedError",.de),("Shop",.cls 40 129)]
noncomputable def te:List (Str×En):=te0++te1++te2
noncomputable def tbl:kS:=⟨(tb.filter (·.q.isNone)).map (fun e=>(e.x,En.fn e.i e.r))++te,[("Nothing","Nothing",11,11)],[],[("NEW_WORDS",cu),("SORTS",cq)],[("NoRow",0)],[(133,16,27),(157,23,25),(160,15,34),(209,12,29),(212,11,24),(255,12,30),(274,12,14),(307,12,30)],[(318,8,19)],[("back",40,135),("behaviour",40,132),("change",40,136),("cost",40,131),("give",40,137),("out",40,134),("put",40,133),("row",40,130)],rs,tb⟩
noncomputable def Pg:Nat->Option Df:=tbl.Pg
theorem Jg:∀c,tb.map (tbl.rd c)=tb.map fun e=>some (e.b c):=fun c=>by kernel_rfl
theorem tab:wz tbl:=⟨Jf,Jg,by kernel_rfl,by kernel_rfl,fun _ _ _ _ _ _=>by kernel_rfl,fun _ _ _ _ _ _ _=>by kernel_rfl,fun _ _ _ _ _ _ _ _=>by kernel_rfl,fun _ _ _ _ _ _ _ _ _=>by kernel_rfl,fun _ _ _ _ _ _ _ _ _ _=>by kernel_rfl,fun _ _ _ _ _ _ _ _ _ _ _ _=>by kernel_rfl⟩
noncomputable def fa:Fa:=LD.sS (tb.map (fun e=>(e.i,e.f))++[(940,386)]) [(0,51),(3,63),(4,75),(9,87),(10,99),(11,111)] 31
end K54
namespace K54
open PySem PySem.Spec PyProof.Rows L2 LD
theorem AS:∀ns:List Int,ns.length<=63->∃M,ak Pg 40 148 [.frz (ns.map D.int)] []=.ok (.bl true) M:=JB (by repeat' (first|rfl|constructor))
end K54
open PySem PySem.W PyProof.Rows K54
set_option maxRecDepth 100000 in
set_option maxHeartbeats 0 in
theorem PySem.Challenge.cw_leastdeeds_k54_whole_shops_as_made_anew_holds : PySem.Challenge.rw_leastdeeds_k54_whole_shops_as_made_anew.Holds := by
 w_on;o_law
 refine PySem.W.holds_open (r:=K54.vR) (q:=K54.kq) (loose:=K54.n9) (Xt:=fun s=>PySem.W.xlAt K54.kq [] s&&PySem.W.recOk (PySem.W.RowW.records K54.vR.toRowW) s) (XP:=PySem.W.XL K54.kq []) (Yf:=K54.kH.obs) (Ya:=K54.kH.val) (YP:=K54.kH.says) (N:=7576) K54.JC K54.kH.of K54.kH.keeps (fun s e=>PySem.W.xl_of s (Oa.mp e).1) PySem.W.XL.keeps (by rfl) (by rfl) (by rfl) (fun s e=>PySem.W.recFacts_of (Oa.mp e).2) (by rfl) (by first|assumption|decide +kernel) (by decide +kernel) ⟨rfl,rfl,rfl,rfl,rfl,by decide +kernel⟩ ?hw ?hc
 case hw=>w_witness2
 refine L2.De (l:=PySem.Challenge.rw_leastdeeds_k54_whole_shops_as_made_anew) (n:=63) (k:=84) (x:="script") (CX:=fun w=>LD.fv PySem.Challenge.rw_leastdeeds_k54_whole_shops_as_made_anew.prog w) (K:=K54.kh) (sp:=fun w=>LD.B1 (K54.kh w.params)) rfl (by decide) rfl ⟨rfl,by decide,by decide,rfl⟩ (fun w h Y=>PySem.W.kIn_of Y) ?F (fun w H a ns hl hO hS=>⟨a,ns,rfl,hS,hO,hl,fun _=>rfl⟩) (fun _ _ _ _ _ z=>let ⟨_,_,_,_,_,_,_,_,_,_,q⟩:=z;q)
 case F=>
  intro w mg fa h KX G hmg
  have tk:LD.CV (K54.kh w.params) K54.tb:=⟨by kernel_rfl,by kernel_rfl,by kernel_rfl⟩
  obtain ⟨m,fd,F⟩:=LD.Dx tk KX G (e:=K54.tb[54]) (Ox _) rfl
  have d_NEW_WORDS:=LD.uL (x:="NEW_WORDS") (P:=w.params) (fa:=K54.fa) (fs:=LD.cu) (ad:=273) (es:=#[{hash:=PySem.PyData.keyHash w.params (PySem.Str.ofString "turn"),key:=PySem.Value.str (PySem.Str.ofString "turn") 566,val:=PySem.Value.ref 251},{hash:=PySem.PyData.keyHash w.params (PySem.Str.ofString "join"),key:=PySem.Value.str (PySem.Str.ofString "join") 567,val:=PySem.Value.ref 258},{hash:=PySem.PyData.keyHash w.params (PySem.Str.ofString "move"),key:=PySem.Value.str (PySem.Str.ofString "move") 568,val:=PySem.Value.ref 265},{hash:=PySem.PyData.keyHash w.params (PySem.Str.ofString "put"),key:=PySem.Value.str (PySem.Str.ofString "put") 569,val:=PySem.Value.ref 272}]) (n:=4) KX G (by kernel_rfl) (by kernel_rfl) (by exact LD.fU (LD.fU (LD.fU (LD.fU (LD.yu))))) (by decide +kernel) (by decide) (by exact .cons ⟨rfl,rfl⟩ (.cons ⟨rfl,rfl⟩ (.cons ⟨rfl,rfl⟩ (.cons ⟨rfl,rfl⟩ (.nil)))))
  have d_SORTS:=LD.uL (x:="SORTS") (P:=w.params) (fa:=K54.fa) (fs:=LD.cq) (ad:=187) (es:=#[{hash:=PySem.PyData.keyHash w.params (PySem.Str.ofString "turn"),key:=PySem.Value.str (PySem.Str.ofString "turn") 436,val:=PySem.Value.ref 165},{hash:=PySem.PyData.keyHash w.params (PySem.Str.ofString "join"),key:=PySem.Value.str (PySem.Str.ofString "join") 437,val:=PySem.Value.ref 172},{hash:=PySem.PyData.keyHash w.params (PySem.Str.ofString "move"),key:=PySem.Value.str (PySem.Str.ofString "move") 438,val:=PySem.Value.ref 179},{hash:=PySem.PyData.keyHash w.params (PySem.Str.ofString "put"),key:=PySem.Value.str (PySem.Str.ofString "put") 439,val:=PySem.Value.ref 186}]) (n:=4) KX G (by kernel_rfl) (by kernel_rfl) (by exact LD.fU (LD.fU (LD.fU (LD.fU (LD.yu))))) (by decide +kernel) (by decide) (by exact .cons ⟨rfl,rfl⟩ (.cons ⟨rfl,rfl⟩ (.cons ⟨rfl,rfl⟩ (.cons ⟨rfl,rfl⟩ (.nil)))))
  have i_NoRow:=fun base=>LD.A4 (fa:=K54.fa) (w:=w) (c:=0) (x:="NoRow") (qual:="NoRow.__init__") (y:="place") (z:="no deed's number at place ") (pm:="leastdeeds.errors") (t:=194) (st:=LD.inC (K54.top 3)) (C:=51) (D:=31) (fI:=48) (cd:=47) KX G (by kernel_rfl) (by kernel_rfl) rfl (by kernel_rfl) (by kernel_rfl) (by kernel_rfl) (by kernel_rfl) ⟨rfl,rfl,rfl,by decide +kernel,rfl,by decide +kernel,by decide +kernel⟩ rfl (fun _ _=>⟨_,rfl⟩) (by decide +kernel) rfl rfl rfl rfl (fun _ _=>rfl) (fun _ _ _ _ _ _ _ _=>rfl) PySem.Challenge.rw_leastdeeds_k54_whole_shops_as_made_anew.prog base
  have TO:=fun base=>LD.Dw (base:=base) (P:=PySem.Challenge.rw_leastdeeds_k54_whole_shops_as_made_anew.prog) (w:=w) (t:=K54.tbl) (fa:=K54.fa) KX G (by kernel_rfl) (LD.Fs (by kernel_rfl)) (LD.G6 (by kernel_rfl)) (LD.Bb (by kernel_rfl)) ⟨d_NEW_WORDS,d_SORTS,trivial⟩ ⟨i_NoRow base,trivial⟩
  have tw:LD.AllP (fun q=>LD.u5 K54.fa (K54.kh w.params) mg q.1 q.2.1 q.2.2.1 q.2.2.2) K54.tbl.tw:=⟨LD.FL (LD.yk (x:="Nothing") (f:=111) KX G (by kernel_rfl)) (LD.yk (x:="Nothing") (f:=111) KX G (by kernel_rfl)) (by kernel_rfl),trivial⟩
  have xf:LD.AllP (fun f=>LD.CU K54.fa (K54.kh w.params) f) K54.tbl.xf:=trivial
  have ms:∀q∈K54.tbl.ms,LD.oH K54.fa (K54.kh w.params) q.1 q.2.1 q.2.2:=LD.Hm (by kernel_rfl)
  have e:=hmg.symm.trans m
  cases e
  exact ⟨fd,fun s v=>by
   obtain ⟨oc,od,kV,doc,pm,an,cdv,ct,osl,rfl,lk,hcd⟩:=F.ex
   exact .of_eq rfl,fun base _ _=>LD.Hs (n:=39) (f:=148) (LD.zI K54.tab tk KX G (TO base) tw.mem xf.mem ms (by kernel_rfl)) K54.AS rfl F (LD.ot (e:=K54.tb[54]) (MX.mp K54.tab.sc K54.tb[54] (Ox _))).1 rfl fun c n a b d s H E C hr=>LD.rE (e:=K54.tb[54]) K54.tab (TO base) tw.mem xf.mem ms (Ox _) c n a b d s H E C hr⟩
