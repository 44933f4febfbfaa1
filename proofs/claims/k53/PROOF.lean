import PyProof.Rows.All
import Wide.All
import OpenK.AllK
import Wide.FinOn
import Lean
import PyProof.EqAt
import PyProof.EqKinds
import PyProof.TupleCall
import PyProof.StrOps
import PyProof.MeetsStr
import PyProof.StrLawsJoin
import PySem.Challenge.RW_leastdeeds_k53_least_behind_each_change
set_option Elab.async false
set_option linter.all false
set_option maxRecDepth 100000
set_option tactic.hygienic false
set_option autoImplicit true
set_option relaxedAutoImplicit true
set_option genSizeOfSpec false
set_option maxHeartbeats 0
set_option bootstrap.genMatcherCode false
set_option genSizeOf false
noncomputable section
local macro_rules(kind:=«term{_}»)|`({$a:term,*})=>`(⟨$a,*⟩)
local macro_rules(kind:=Lean.Parser.Term.quotedName)|x=>match x[0].isNameLit?.getD .anonymous|>.toString with|"a"=>`(by omega)|"d"=>`(by decide)|"s"=>`(by simp)|"o"=>`(by simp;omega)|"k"=>`(by decide +kernel)|"r"=>`(by rfl)|_=>Lean.Macro.throwUnsupported
local macro_rules|`(tactic|omega)=>`(tactic|first|(simp +arith;done)|lia|omega(config:={}))
abbrev tqa:=@PySem.wpAny_bind
abbrev tqb:=@PySem.wpAny_pure
abbrev tqf:=@PySem.wpAny_field
abbrev tqo:=@PySem.wpAny_holding
abbrev tqp:=@PySem.wpAny_truthy_bool
abbrev Qr:=@PySem.W.Frag
abbrev Qs:=@List.getElem?_eq_some_iff
abbrev Qt:=@PySem.Value
abbrev Qu:=@PySem.Heap.get?_push_of_some
abbrev Qv:=@List.getElem?_set_ne
abbrev Qw:=@Bool.and_eq_true
abbrev Qx:=@List.length_map
abbrev Qz:=@Option.some.inj
abbrev QA:=@Nat.le_refl
abbrev QB:=@List.getElem?_append_left
abbrev QC:=@PySem.Shared
abbrev QD:=@List.mem_cons_of_mem
abbrev QE:=@List.size_toArray
abbrev QF:=@List.mem_map
abbrev QG:=@Option.map_eq_some_iff
abbrev QH:=@Nat.le_trans
abbrev QI:=@List.getElem?_set_self
abbrev QL:=@Nat.lt_of_lt_of_le
abbrev QM:=@List.getElem?_eq_getElem
abbrev QN:=@List.mem_singleton
abbrev QO:=@PySem.Heap.lt_size
abbrev QP:=@List.map_append
abbrev QR:=@List.mem_append
abbrev QS:=@List.mem_cons_self
abbrev QT:=@Option.bind_eq_some_iff
abbrev QU:=@PySem.Heap.get?_push_size
abbrev QV:=@List.getElem?_append_right
abbrev QX:=@List.getElem?_map
abbrev QY:=@List.all_eq_true
abbrev QZ:=@Bool.false_ne_true
abbrev Q0:=@List.mem_of_getElem?
abbrev Q1:=@Nat.ne_of_lt
abbrev Q6:=@List.length_append
abbrev Q7:=@Nat.add_sub_cancel_left
abbrev Q8:=@List.append_nil
abbrev Q9:=@Nat.le_of_ble_eq_true
abbrev Ra:=@List.mem_map_of_mem
abbrev Rb:=@List.mem_append_right
abbrev Rf:=@PySem.World
abbrev Rg:=@List.mem_cons
abbrev Rn:=@Nat.ne_of_gt
abbrev Ru:=@List.take_of_length_le
abbrev Rv:=@PySem.Program
abbrev Rw:=@List.lookup_cons
abbrev Rx:=@List.length_cons
abbrev Ry:=@List.map_cons
abbrev Rz:=@List.mem_of_mem_take
abbrev RA:=@List.append_assoc
abbrev RB:=@List.all_cons
abbrev RC:=@beq_eq_false_iff_ne
abbrev RD:=@List.mem_append_left
abbrev RE:=@List.nodup_cons
abbrev RF:=@Ne.symm
abbrev RG:=@PySem.OsState
abbrev RH:=@PySem.W.kia_one
abbrev RI:=@PySem.W.SharedT
abbrev RJ:=@Nat.le_add_right
abbrev RK:=@List.take_succ
abbrev RL:=@Array.getElem?_eq_some_iff
abbrev RM:=@Nat.lt_irrefl
abbrev RN:=@PyProof.Rows.callWith_type1
abbrev RO:=@List.map_map
abbrev RP:=@Int.toNat_natCast
abbrev RQ:=@Iff.rfl
abbrev RR:=@PyProof.Rows.slot_tuple_getitem
abbrev RS:=@Bool.and_eq_true_iff
abbrev RT:=@Bool.eq_iff_iff
abbrev RU:=@Nat.zero_le
abbrev RV:=@List.length_range
abbrev RW:=@Nat.lt_of_le_of_lt
abbrev RX:=@PySem.W.mg_of
abbrev RY:=@List.getD_eq_getElem?_getD
abbrev RZ:=@List.exists_of_findSome?_eq_some
abbrev R0:=@Function.comp_def
abbrev R1:=@PySem.Env
abbrev R3:=@PySem.Heap.size_push
abbrev R4:=@PySem.Heap.get?_update_other
abbrev R5:=@PySem.Heap.SameBut
abbrev R6:=@PySem.Heap.SameBut.update
abbrev R7:=@List.length_take
abbrev R8:=@List.any_eq_true
abbrev R9:=@PySem.Around
abbrev Sa:=@Nat.lt_or_ge
abbrev Sb:=@PySem.Heap.get?_update_self
abbrev Sd:=@PySem.Params
abbrev Se:=@PySem.F.plainAttrs_list
abbrev Sf:=@Nat.lt_succ_of_lt
abbrev Sg:=@List.nodup_append
abbrev Sh:=@Nat.not_lt_zero
abbrev Si:=@Bool.or_eq_true
abbrev Sj:=@List.replicate_succ
abbrev Sk:=@Nat.le_of_lt
abbrev Sl:=@PySem.DictEntry
abbrev Sm:=@List.getElem_mem
abbrev Sn:=@PySem.W.callWith_K
abbrev So:=@List.mem_range
abbrev Sq:=@Int.emod_lt_of_pos
abbrev Sr:=@List.mem_of_find?_eq_some
abbrev Ss:=@Int.emod_nonneg
abbrev Su:=@PySem.Paired
abbrev Sv:=@PySem.Obj.data_mapFields
abbrev Sw:=@Option.isSome_map
abbrev Sx:=@List.mem_of_mem_drop
abbrev Sy:=@Nat.add_assoc
abbrev Sz:=@Nat.add_left_cancel
abbrev SA:=@Array.length_toList
abbrev SD:=@Option.bind_some
abbrev SF:=@List.length_eq_zero_iff
abbrev SG:=@List.getElem?_replicate
abbrev SH:=@PySem.Comprehension
abbrev SI:=@List.mem_filter
abbrev SJ:=@List.map_take
abbrev SK:=@List.getElem?_eq_none
abbrev SM:=@List.flatten_cons
abbrev SN:=@Nat.sub_self
abbrev SO:=@Option.isNone_iff_eq_none
abbrev SQ:=@PySem.mem_of_lookup
abbrev SR:=@List.map_congr_left
abbrev SU:=@List.getElem?_range
abbrev SV:=@beq_iff_eq
abbrev SY:=@List.find?_eq_none
abbrev S0:=@Nat.le_succ
abbrev S1:=@List.findIdx?_eq_some_iff_getElem
namespace HD
open PySem PySem.W
noncomputable def hU (tb:String->Option Builtin)(p:Rv)(w:Rf)(n0:Nat)(ann:Option Qt):Nat->RI->Thread->Option RI
 |0,_,_=>none
 | n+1,s,t=>match through t with
   |true=>some s
   | false=>match stepOk n0 ann t with
     |false=>none
     | true=>match stepT (denote tb) p w s t with
       |some (s',t')=>hU tb p w n0 ann n s' t'
       |none=>none
theorem rJ {tb:String->Option Builtin}{p:Rv}{w:Rf}{n0:Nat}{ann:Option Qt}:∀{n:Nat}{s s':RI}{t:Thread},hU tb p w n0 ann n s t=some s'->topRun tb p w n0 ann n s.abs t=some s'.abs
 |0,_,_,_,h=>by cases h
 | n+1,s,s',t,h=>by
   unfold hU at h;unfold topRun;cases he:through t with
   |true=>rw[he] at h;cases h;rfl
   | false=>
     rw[he] at h;cases hk:stepOk n0 ann t with
     |false=>rw[hk] at h;cases h
     | true=>
       rw[hk] at h;cases hs:stepT (denote tb) p w s t with
       |none=>rw[hs] at h;cases h
       |some r=>obtain⟨s2,t2⟩:=r;rw[hs] at h;rw[stepT_spec hs];exact rJ h
noncomputable def treeOf:List Obj->Nat->BT->BT
 |[],_,t=>t
 |o::r,n,t=>treeOf r (n+1) (t.ins n o)
def yD (P:Sd)(os:RG):RI:={treeOf (boot_heap P).objs.toList 0 .nil,(boot_heap P).objs.toList.length,(boot_heap P).life,#[],boot_drawn,boot_toks,os}
def boot_abs (P:Sd)(os:RG):(yD P os).abs={boot_heap P,#[],boot_drawn,boot_toks,os}:=by kernel_rfl
noncomputable def la (p q:Rv)(loose:List Str)(Xt:QC->Bool)(g0:Bool)(h0:Heap){α:Type}(Yf:QC->α)(s:QC):=
 ((staticsOk (importedModules p.main.body) h0 s.heap&&namesBound p s.heap&&gensDone s&&laidKept h0 s.heap),openSeen q loose (importedModules p.main.body) Xt g0 s,Yf s)
noncomputable def wQ (tb:String->Option Builtin)(p:Rv)(w:Rf)(n0:Nat)(ann:Option Qt):Nat->RI->Thread->Option (RI×Thread)
 |0,s,t=>some (s,t)
 | n+1,s,t=>match through t with
   |true=>none
   | false=>match stepOk n0 ann t with
     |false=>none
     | true=>match stepT (denote tb) p w s t with
       |some (s',t')=>wQ tb p w n0 ann n s' t'
       |none=>none
noncomputable def kY (tb:String->Option Builtin)(p:Rv)(w:Rf)(n0:Nat)(ann:Option Qt):Nat->RI->Thread->Option (Flow×RI×Code×Pos)
 |0,_,_=>none
 | n+1,s,t=>match endAt 1 t with
   |some f=>some (f,s,t.code,t.pos)
   | none=>match stepOk n0 ann t with
     |false=>none
     | true=>match stepT (denote tb) p w s t with
       |some (s',t')=>kY tb p w n0 ann n s' t'
       |none=>none
section
variable{tb:String->Option Builtin}{p:Rv}{w:Rf}{n0:Nat}{ann:Option Qt}
theorem A0:∀{n:Nat}{s s':RI}{t t':Thread},wQ tb p w n0 ann n s t=some (s',t')->topGo tb p w n0 ann n s.abs t=some (s'.abs,t')
 |0,s,s',t,t',h=>by cases h;rfl
 | n+1,s,s',t,t',h=>by
   unfold wQ at h;unfold topGo;cases he:through t with
   |true=>rw[he] at h;cases h
   | false=>
     rw[he] at h;cases hk:stepOk n0 ann t with
     |false=>rw[hk] at h;cases h
     | true=>
       rw[hk] at h;cases hs:stepT (denote tb) p w s t with
       |none=>rw[hs] at h;cases h
       |some q=>obtain⟨s2,t2⟩:=q;rw[hs] at h;rw[stepT_spec hs];exact A0 h
theorem qv:∀{n:Nat}{s s':RI}{t:Thread}{f:Flow}{c:Code}{q:Pos},kY tb p w n0 ann n s t=some (f,s',c,q)->segRun tb p w n0 ann 1 n s.abs t=some (f,s'.abs,c,q)
 |0,_,_,_,_,_,_,h=>by cases h
 | n+1,s,s',t,f,c,q,h=>by
   unfold kY at h;unfold segRun;cases he:endAt 1 t with
   |some g=>rw[he] at h;cases h;rfl
   | none=>
     rw[he] at h;cases hk:stepOk n0 ann t with
     |false=>rw[hk] at h;cases h
     | true=>
       rw[hk] at h;cases hs:stepT (denote tb) p w s t with
       |none=>rw[hs] at h;cases h
       |some x=>obtain⟨s2,t2⟩:=x;rw[hs] at h;rw[stepT_spec hs];exact qv h
def u7 {n3 N:Nat}{s s2:RI}{env:Env}{c:Code}{p' p2 q:Pos}{b:List Stmt}{J:Nat}{α:Type}{f:QC->α}{a:α}
 (h3:kY tb p w n0 ann n3 s (piecesOf (b.take J) env c p' [topFrame q])=some (.next,s2,c,p2))
 (h4:(topRun tb p w n0 ann N s2.abs (restOf (b.drop J) env c p2 [topFrame q])).map f=some a):(topRun tb p w n0 ann (n3+N) s.abs (restOf b env c p' [topFrame q])).map f=some a:=by
 obtain⟨r,e3,e4⟩:=QG.mp h4;have k4:=piece_app (qv h3) e3;rw[List.take_append_drop] at k4;rw[k4];exact congrArg some e4
def A7 {N:Nat}{s2:RI}{t:Thread}{p' q:Rv}{loose:List Str}{Xt:QC->Bool}{g0:Bool}{h0:Heap}{α:Type}{Yf:QC->α}{a b c}
 (h1:(hU tb p w n0 ann N s2 t).map (λs=>(la p' q loose Xt g0 h0 Yf s.abs).1)=some a) (h2:(hU tb p w n0 ann N s2 t).map (λs=>(la p' q loose Xt g0 h0 Yf s.abs).2.1)=some b)
 (h3:(hU tb p w n0 ann N s2 t).map (λs=>(la p' q loose Xt g0 h0 Yf s.abs).2.2)=some c):(topRun tb p w n0 ann N s2.abs t).map (la p' q loose Xt g0 h0 Yf)=some (a,b,c):=by
 obtain⟨r,e3,rfl⟩:=QG.mp h1;rw[e3] at h2 h3;cases h2;cases h3;rw[rJ e3];rfl
def A8 {n1 n2 N:Nat}{s s':RI}{env:Env}{c:Code}{pos p' q:Pos}{t:Thread}{b:List Stmt}{J:Nat}{α:Type}{f:QC->α}{a:α}
 (h1:(wQ tb p w n0 ann n1 s t).map (·.2)=some {denote tb (.body b env),c,pos,[topFrame q]}) (h0:endAt 1 (blockOf b env c pos [topFrame q])=some .next)
 (h2:((wQ tb p w n0 ann n1 s t).bind λx=>kY tb p w n0 ann n2 x.1 (piecesOf (b.take J) env c pos [topFrame q]))=some (.next,s',c,p'))
 (h3:(topRun tb p w n0 ann N s'.abs (restOf (b.drop J) env c p' [topFrame q])).map f=some a):(topRun tb p w n0 ann (n1+(1+(n2+N))) s.abs t).map f=some a:=by
 obtain⟨⟨s1,t1⟩,e1,e2⟩:=QG.mp h1;have e2:t1={denote tb (.body b env),c,pos,[topFrame q]}:=e2;subst e2;rw[e1] at h2;have h2:kY tb p w n0 ann n2 s1 (piecesOf (b.take J) env c pos [topFrame q])=some (.next,s',c,p'):=h2
 obtain⟨r,e3,e4⟩:=QG.mp h3;have k3:=piece_app (qv h2) e3;rw[List.take_append_drop] at k3;have hb:segRun tb p w n0 ann 1 1 s1.abs (blockOf b env c pos [topFrame q])=some (.next,s1.abs,c,pos):=by
  show(match endAt 1 (blockOf b env c pos [topFrame q]) with|some f=>some (f,s1.abs,c,pos)|none=>_)=_
  rw[h0]
 have k2:=piece_block hb k3;rw[go_top (A0 e1) k2];exact congrArg some e4
end
def vL {p q:Rv}{loose:List Str}{Xt:QC->Bool}{α:Type}{Yf:QC->α}{Ya:Rf->α}{N:Nat}{g0:Bool}{m0:Nat}{ann:Option Qt}
 (open_:∀w:Rf,(fencedOpening treeTable p w N).map (λs=>(s.heap,s.gens,s.drawn,s.toks))=some (boot_heap w.params,Array.mk [],boot_drawn,boot_toks))
 (size:∀w:Rf,((boot_heap w.params).isNs mainGlobals&&(Array.mk ([]:List GenState)).size==0,(boot_heap w.params).objs.size,(boot_heap w.params).nsMap mainGlobals "__annotations__")=(true,m0,ann))
 (run:∀(w:Rf) (os:RG),(topRun treeTable p w m0 ann N (yD w.params os).abs (topStub p)).map (la p q loose Xt g0 (boot_heap w.params) Yf)=some (true,openGood q loose,Ya w)):LeftO p q loose Xt Yf Ya N g0:=λw=>by
 obtain⟨⟨h,gs,d,k,os⟩,e,e'⟩:=QG.mp (open_ w);obtain⟨rfl,rfl,rfl,rfl⟩:h=boot_heap w.params/\gs=Array.mk []/\d=boot_drawn/\k=boot_toks:=by simpa using e'
 obtain⟨z1,z2,z3⟩:_/\_/\_:=by simpa only[Prod.mk.injEq] using size w
 obtain⟨s1,r,l⟩:=QG.mp (run w os);obtain⟨l1,l2,l3⟩:_/\_/\_:=by simpa only[la,Prod.mk.injEq] using l
 rw[boot_abs] at r;have t:topFrom treeTable p w N {boot_heap w.params,Array.mk [],boot_drawn,boot_toks,os}=some s1:=by
  unfold topFrom;dsimp only;rw[z1,z2,z3,r];show(match staticsOk (importedModules p.main.body) (boot_heap w.params) s1.heap&&namesBound p s1.heap&&gensDone s1&&laidKept (boot_heap w.params) s1.heap with|true=>_|false=>_)=_
  rw[l1]
 unfold openEnds;rw[e];show(topFrom treeTable p w N _).map _=_;rw[t];exact congrArg some (Prod.ext l2 l3)
end HD
namespace K53
open PySem
abbrev eN (P:Sd)(x:Str)(n:Nat)(v:Qt):Sl:={PyData.keyHash P x,.str x n,v}
noncomputable def qO (j:Nat)(s:Stmt):Stmt:=match s with
 |.ClassDef _ _ _ b _ _ _ _ _ _ _=>b.getD j s
 |_=>s
noncomputable def eO (i:Nat):Stmt:=PySem.Challenge.pw_leastdeeds_k53_least_behind_each_change.main.body.getD i (.Pass {0,0,0,0})
noncomputable def nB (s:Stmt):Arguments:=match s with
 |.FunctionDef _ a _ _ _ _ _ _ _ _=>a
 |_=>{[],[],none,[],[],none,[]}
noncomputable def nA (s:Stmt):List Stmt:=match s with
 |.FunctionDef _ _ b _ _ _ _ _ _ _=>b
 |_=>[]
noncomputable def kz (s:Stmt):Scope:=match s with
 |.FunctionDef _ _ _ _ _ _ sc _ _ _=>sc
 |_=>{kind:=.function,names:=[],isGenerator:=false,isCoroutine:=false}
noncomputable def o1:Obj:={cls:=.type "tuple" ,data:=.seq #[]}
noncomputable def o2 (a:String)(b:Nat)(c:Int)(d:Nat)(e:Int):Obj:={cls:=.type "code" ,data:=.fields #[.str (Str.ofString a) b,.str (Str.ofString a) (b+1),.str ("/claim/cut.py") (b+2),.int c 0,.int 0 0,.int 0 0,.int 0 0,.int 0 0,.ref d,.bool false,.int 181 0,.ref (d+1),.none,.none,.none,.none,.int e 0,.int c 0,.str ("/claim/cut.py") (b+4)]}
noncomputable def o3 (a:Nat)(b:Nat)(c:String)(d:Nat):Obj:={cls:=.type "frame" ,slots:=#[some (.ref a),some (.ref 3),some (.ref b),none,some (.str (Str.ofString c) d),none,some (.ref 0)]}
def o4:Obj:={cls:=.type "builtin_function_or_method" ,data:=.fields #[.builtin "type.__prepare__" ,.type "type"]}
def o5 (P:Sd)(a:Nat)(b:String)(c:Int)(d:Nat):Obj:={cls:=.type "dict" ,data:=.dict #[eN P "__module__" a (.str ("leastdeeds.errors") 187),eN P "__qualname__" (a+2) (.str (Str.ofString b) (a+1)),eN P "__firstlineno__" (a+4) (.int c (a+3)),eN P "__static_attributes__" (a+5) (.ref d)] 4}
def o6:Obj:={cls:=.none,data:=.fields #[]}
def o7 (P:Sd)(a:Nat)(b:Int)(c:String)(d:Nat)(e:Nat)(f:String)(g:Nat)(h:Nat):Obj:={cls:=.type "dict" ,data:=.dict #[eN P "__module__" a (.str ("leastdeeds.errors") 187),eN P "__firstlineno__" (a+4) (.int b (a+3)),{hash:=PyData.keyHash P (Str.ofString c),key:=.str (Str.ofString c) d,val:=.ref e},{hash:=PyData.keyHash P (Str.ofString f),key:=.str (Str.ofString f) (d+2),val:=.ref g},eN P "__doc__" (d+3) (.none)] h}
def o8 (a:Nat)(b:Nat):Obj:={cls:=.type "getset_descriptor" ,data:=.fields #[.str ("__weakref__") a,.ref b,.builtin "ExceptionGroup.__weakref__" ,.none]}
def o9 (a:Nat):Obj:={cls:=.type "super" ,data:=.fields #[.ref a,.ref a,.ref a]}
def iP (a:Nat):Obj:={cls:=.type "builtin_function_or_method" ,data:=.fields #[.builtin "object.__init_subclass__" ,.ref a]}
def jL:Obj:={cls:=.type "tuple" ,data:=.seq #[.ref 24]}
def Kr (P:Sd)(a:Nat)(b:String)(c:Int)(d:Nat):Obj:={cls:=.type "dict" ,data:=.dict #[eN P "__module__" a (.str ("leastdeeds.errors") 187),eN P "__qualname__" (a+2) (.str (Str.ofString b) (a+1)),eN P "__firstlineno__" (a+4) (.int c (a+3)),eN P "__init__" (a+12) (.ref d),eN P "__static_attributes__" (a+14) (.ref (d+1))] 5}
def Kq (a:Int)(b:Nat):Obj:={cls:=.none,data:=.fields #[.int a 0,.int 4 0,.ref b]}
def Ap (a:Nat)(b:String):Obj:={cls:=.type "tuple" ,data:=.seq #[.str ("self") a,.str (Str.ofString b) (a+1)]}
def kr (a:String)(b:String)(c:Nat)(d:Nat):Obj:={cls:=.none,data:=.func {name:=Str.ofString a,qualname:=Str.ofString b,params:=nB (qO c (eO d)),body:=PySem.FuncBody.stmts (nA (qO c (eO d))),scope:=kz (qO c (eO d)),globals:=0,closure:=[],defaults:=.none,kwdefaults:=.none,pyModule:=.none,code:=.none}}
def fh (a:String)(b:Nat)(c:String)(d:Int)(e:Int)(f:Nat)(g:Int)(h:Nat):Obj:={cls:=.type "code" ,data:=.fields #[.str (Str.ofString a) b,.str (Str.ofString c) (b+1),.str ("/claim/cut.py") (b+2),.int d 0,.int e 0,.int 0 0,.int 0 0,.int 3 0,.ref f,.bool true,.int 181 0,.ref (f+1),.none,.ref (f+2),.ref (f+3),.ref (f+4),.int g 0,.int d 0,.str ("/claim/cut.py") h]}
def ko (a:String)(b:String)(c:Nat)(d:Nat)(e:String)(f:Nat)(g:Nat):Obj:={cls:=.type "function" ,data:=.func {name:=Str.ofString a,qualname:=Str.ofString b,params:=nB (qO c (eO d)),body:=PySem.FuncBody.stmts (nA (qO c (eO d))),scope:=kz (qO c (eO d)),globals:=3,closure:=[],defaults:=.none,kwdefaults:=.none,pyModule:=.str (Str.ofString e) f,code:=.ref g}}
def rZ (a:String)(b:Nat):Obj:={cls:=.type "tuple" ,data:=.seq #[.str (Str.ofString a) b]}
def jK (a:String)(b:Nat)(c:Nat)(d:Nat)(e:Nat):Obj:={cls:=.type "type" ,data:=.cls {name:=Str.ofString a,bases:=[.ref 24],mro:=[.ref b,.ref 24,.type "ValueError" ,.type "Exception" ,.type "BaseException" ,.type "object"],ns:=c,qualname:=Str.ofString a},slots:=#[some (.ref d),none,some (.str (Str.ofString a) e),some (.str (Str.ofString a) (e+8)),some (.builtin "ValueError.__new__"),some (.bool true)]}
def mw (P:Sd)(a:Nat)(b:Int)(c:Nat):Obj:={cls:=.type "dict" ,data:=.dict #[eN P "__module__" a (.str ("leastdeeds.errors") 187),eN P "__firstlineno__" (a+4) (.int b (a+3)),eN P "__static_attributes__" (a+5) (.ref c),eN P "__doc__" (a+6) (.none)] 2}
def N9 (P:Sd)(a:Nat)(b:Nat):Obj:={cls:=.type "dict" ,data:=.dict #[eN P "turn" a (.ref b),eN P "join" (a+1) (.ref (b+7)),eN P "move" (a+2) (.ref (b+14)),eN P "put" (a+3) (.ref (b+21))] 4}
def o22:Obj:={cls:=.type "tuple" ,data:=.seq #[.none]}
def o23:Obj:={cls:=.type "function" ,data:=.func {name:="reached" ,qualname:="reached" ,params:=nB (eO 61),body:=PySem.FuncBody.stmts (nA (eO 61)),scope:=kz (eO 61),globals:=3,closure:=[],defaults:=.ref 420,kwdefaults:=.none,pyModule:=.str ("leastdeeds.least") 757,code:=.ref 426}}
def Ey (a:String)(b:Nat)(c:String)(d:String):Obj:={cls:=.type "tuple" ,data:=.seq #[.str (Str.ofString a) b,.str (Str.ofString c) (b+1),.str (Str.ofString d) (b+2)]}
def o25 (P:Sd):Obj:={cls:=.type "dict" ,data:=.dict #[eN P "__module__" 811 (.str ("leastdeeds.shop") 802),eN P "__firstlineno__" 815 (.int 195 814),eN P "__init__" 824 (.ref 441),eN P "row" 831 (.ref 448),eN P "cost" 838 (.ref 455),eN P "behaviour" 845 (.ref 462),eN P "least" 852 (.ref 469),eN P "put" 861 (.ref 476),eN P "out" 869 (.ref 483),eN P "back" 876 (.ref 490),eN P "change" 884 (.ref 497),eN P "give" 893 (.ref 504),eN P "__static_attributes__" 897 (.ref 505),eN P "__dict__" 899 (.ref 508),eN P "__weakref__" 901 (.ref 509),eN P "__doc__" 902 (.none)] 4}
def o26:Obj:={cls:=.type "type" ,data:=.cls {name:="Shop" ,bases:=[.type "object"],mro:=[.ref 507,.type "object"],ns:=506,qualname:="Shop"},slots:=#[none,none,some (.str ("Shop") 804),some (.str ("Shop") 812),some (.builtin "object.__new__"),some (.bool true)]}
def o27:Obj:={cls:=.type "type" ,data:=.cls {name:="DeedError" ,bases:=[.type "ValueError"],mro:=[.ref 24,.type "ValueError" ,.type "Exception" ,.type "BaseException" ,.type "object"],ns:=23,qualname:="DeedError" ,subclasses:=[.ref 44,.ref 63,.ref 82,.ref 94,.ref 106,.ref 118,.ref 130,.ref 142,.ref 154,.ref 166,.ref 178,.ref 190,.ref 202,.ref 214]},slots:=#[some (.ref 15),none,some (.str ("DeedError") 189),some (.str ("DeedError") 197),some (.builtin "ValueError.__new__"),some (.bool true)]}
def N8 (a:String)(b:Nat)(c:Int)(d:Int)(e:Nat)(f:Int):Obj:={cls:=.type "code" ,data:=.fields #[.str (Str.ofString a) b,.str (Str.ofString a) (b+1),.str ("/claim/cut.py") (b+2),.int c 0,.int d 0,.int 0 0,.int 0 0,.int 3 0,.ref e,.bool true,.int 181 0,.ref (e+1),.none,.none,.none,.ref (e+2),.int f 0,.int c 0,.str ("/claim/cut.py") (b+4)]}
def lX (a:String)(b:Nat)(c:Nat):Obj:={cls:=.type "function" ,data:=.func {name:=Str.ofString a,qualname:=Str.ofString a,params:=nB (eO b),body:=PySem.FuncBody.stmts (nA (eO b)),scope:=kz (eO b),globals:=3,closure:=[],defaults:=.none,kwdefaults:=.none,pyModule:=.str ("law_leastdeeds_k53_least_behind_each_change") 905,code:=.ref c}}
def kA (i:Nat):Str×Nat×Nat×List Str×Bool:=match eO i with
 |.FunctionDef x a _ _ _ _ sc _ _ p=>(x,p.line,a.args.length,sc.names.filterMap (λq=>match q.2 with|.local=>some q.1|_=>none),sc.names.any (λq=>match q.2 with|.cell=>true|_=>false)||i==69)
 |_=>("",0,0,[],false)
def kN (i:Nat):Nat:=bif (kA i).2.2.2.2 then 0 else(kA i).2.2.2.1.length
def AO (i:Nat):Nat:=bif (kA i).2.2.2.2 then 5 else 7
def n5:Nat->Nat->Nat->Nat->List (Nat×Nat×Nat)
 |0,_,_,_=>[]
 |n+1,i,e,t=>(i,e,t)::n5 n (i+1) (e+AO i) (t+kN i+6)
def pQ:Nat×Nat×Nat->List Qt:=λ(i,e,_)=>[.int (kA i).2.1 0,.int 0 0,.ref (e+AO i-2)]
def pR (P:Sd):Nat×Nat×Nat->Sl:=λ(i,e,t)=>{PyData.keyHash P (kA i).1,.str (kA i).1 (t+kN i+5),.ref (e+AO i-1)}
def E6 (c:Qt)(i g:Nat)(m d:Qt):Obj:={cls:=c,data:=.func {name:=(kA i).1,qualname:=(kA i).1,params:=nB (eO i),body:=.stmts (nA (eO i)),scope:=kz (eO i),globals:=g,closure:=[],defaults:=.none,kwdefaults:=.none,pyModule:=m,code:=d}}
def kO (m:Str)(k:Nat):Nat×Nat×Nat->List Obj:=λ(i,e,t)=>
 let x:=(kA i).1
 let l:Qt:=.int (kA i).2.1 0
 let q:=t+kN i
 let c:=λ(a:Qt) (b:Qt) (d:Nat)=>({cls:=.type "code",data:=.fields #[.str x t,.str x (t+1),.str "/claim/cut.py" (t+2),l,.int (kA i).2.2.1 0,.int 0 0,.int 0 0,.int 3 0,.ref e,.bool true,.int 181 0,.ref (e+1),.none,a,b,.ref (e+d),.int (q+3:Nat) 0,l,.str "/claim/cut.py" (q+4)]}:Obj)
 [o1,{cls:=.none,data:=.fields #[]}]++bif (kA i).2.2.2.2 then [E6 .none i 0 .none .none,c .none .none 2,E6 (.type "function") i 3 (.str m k) (.ref (e+3))] else [{cls:=.type "tuple",data:=.seq (((kA i).2.2.2.1.zipIdx (t+3)).map λp=>.str p.1 p.2).toArray},o1,E6 .none i 0 .none .none,c (.ref (e+2)) (.ref (e+3)) 4,E6 (.type "function") i 3 (.str m k) (.ref (e+5))]
def pS:Nat×Nat×Nat->List Addr:=λ(i,e,_)=>[e+AO i-2,e+AO i-1]
def EN:=n5 1 17 217 460
def EM:=n5 4 25 224 483
def EL:=n5 6 29 252 514
def EK:=n5 8 36 291 584
def EJ:=n5 4 45 341 648
def EI:=n5 4 50 370 706
def EH:=n5 1 55 396 743
def EG:=n5 3 58 403 761
def EF:=n5 12 65 512 907
def Oe:List Qt:=[.int 2 0,.int 0 0,.ref 20,.int 4 0,.int 0 0,.ref 33,.int 9 0,.int 0 0,.ref 52,.int 14 0,.int 0 0,.ref 71,.int 19 0,.int 0 0,.ref 90,.int 21 0,.int 0 0,.ref 102,.int 23 0,.int 0 0,.ref 114,.int 25 0,.int 0 0,.ref 126,.int 27 0,.int 0 0,.ref 138,.int 29 0,.int 0 0,.ref 150,.int 31 0,.int 0 0,.ref 162,.int 33 0,.int 0 0,.ref 174,.int 35 0,.int 0 0,.ref 186,.int 37 0,.int 0 0,.ref 198,.int 39 0,.int 0 0,.ref 210]++EN.flatMap pQ++EM.flatMap pQ
def kt1:List Qt:=Oe++EL.flatMap pQ++EK.flatMap pQ++EJ.flatMap pQ++EI.flatMap pQ++EH.flatMap pQ++EG.flatMap pQ++[.int 186 0,.int 0 0,.ref 426,.int 195 0,.int 0 0,.ref 433]++EF.flatMap pQ
def Oh (P:Sd):List Sl:=[eN P "__doc__" 166 (.none),eN P "__package__" 167 (.none),eN P "__loader__" 168 (.builtin "__main__.__loader__#opaque"),eN P "__spec__" 169 (.none),eN P "__annotations__" 170 (.ref 6),eN P "__builtins__" 171 (.ref 4),eN P "__file__" 173 (.str "/claim/cut.py" 172),eN P "__cached__" 174 (.none),eN P "DeedError" 206 (.ref 24),eN P "NoRow" 231 (.ref 44),eN P "NoRule" 256 (.ref 63),eN P "NoStep" 281 (.ref 82),eN P "NoMachine" 297 (.ref 94),eN P "TooLong" 313 (.ref 106),eN P "NoWord" 329 (.ref 118),eN P "NoWork" 345 (.ref 130)]
def Og (P:Sd):List Sl:=Oh P++[eN P "NoBound" 361 (.ref 142),eN P "TooMany" 377 (.ref 154),eN P "NoPlace" 393 (.ref 166),eN P "NoDeed" 409 (.ref 178),eN P "Nothing" 425 (.ref 190),eN P "NoText" 441 (.ref 202),eN P "NoLine" 457 (.ref 214)]++EN.map (pR P)++[eN P "LEAST_WORDS" 472 (.int 2 471),eN P "MOST_WORDS" 474 (.int 4 473),eN P "MOST_PLACES" 476 (.int 2 475),eN P "MOST_DEEDS" 478 (.int 6 477),eN P "MOST_COST" 480 (.int 3 479),eN P "LONGEST_ROW" 482 (.int 40 481)]++EM.map (pR P)
def Of (P:Sd):List Sl:=Og P++EL.map (pR P)++[eN P "SORTS" 583 (.ref 290)]++EK.map (pR P)++EJ.map (pR P)++[eN P "NEW_WORDS" 705 (.ref 369)]++EI.map (pR P)++EH.map (pR P)++[eN P "MOST_BEHAVIOURS" 760 (.int 255 759)]++EG.map (pR P)++[eN P "reached" 801 (.ref 427),eN P "Shop" 904 (.ref 507)]++EF.map (pR P)
def kg3 (P:Sd):List Sl:=Of P++[eN P "_law_price" 1017 (.ref 590),eN P "_law_behind" 1023 (.ref 595),eN P "_law_costs" 1037 (.ref 602),eN P "_law_refusal" 1046 (.ref 609),eN P "_law_change" 1059 (.ref 616),eN P "_law_do" 1067 (.ref 623),eN P "_law_parted" 1079 (.ref 630),eN P "_law_small_machine" 1087 (.ref 637),eN P "_law_told" 1097 (.ref 644),eN P "_law_right" 1111 (.ref 651),eN P "_law_refused" 1118 (.ref 658),eN P "law" 1137 (.ref 665)]
noncomputable def Om (P:Sd):List Obj:=[o1,{cls:=.none,data:=.fields #[.int 2 0,.int 0 0,.ref 20,.int 4 0,.int 0 0,.ref 33,.int 9 0,.int 0 0,.ref 52,.int 14 0,.int 0 0,.ref 71,.int 19 0,.int 0 0,.ref 90,.int 21 0,.int 0 0,.ref 102,.int 23 0,.int 0 0,.ref 114,.int 25 0,.int 0 0,.ref 126]},o2 "<module>" 182 1 11 185,o3 13 3 "__main__" 164,{cls:=.type "tuple",data:=.seq #[.type "ValueError"]},o4,o5 P 196 "DeedError" 2 22,o1,o6,o2 "DeedError" 191 2 18 194,o3 20 17 "leastdeeds.errors" 187,o1,o7 P 196 2 "__static_attributes__" 201 22 "__weakref__" 25 3,{cls:=.type "type",data:=.cls {name:="DeedError",bases:=[.type "ValueError"],mro:=[.ref 24,.type "ValueError",.type "Exception",.type "BaseException",.type "object"],ns:=23,qualname:="DeedError",subclasses:=[.ref 44,.ref 63,.ref 82,.ref 94,.ref 106,.ref 118,.ref 130]},slots:=#[some (.ref 15),none,some (.str "DeedError" 189),some (.str "DeedError" 197),some (.builtin "ValueError.__new__"),some (.bool true)]},o8 202 24,o9 24,iP 24,jL,o4,Kr P 214 "NoRow" 4 41,o1,Kq 6 40,o2 "NoRow" 209 4 31 212,o3 33 30 "leastdeeds.errors" 187,o1,o6,Ap 222 "place",o1,kr "__init__" "NoRow.__init__" 0 2,fh "__init__" 219 "NoRow.__init__" 6 2 35 224 225,ko "__init__" "NoRow.__init__" 0 2 "leastdeeds.errors" 187 40,rZ "place" 227,o7 P 214 4 "__init__" 226 41 "__static_attributes__" 42 2,jK "NoRow" 44 43 28 207,o9 44,iP 44,jL,o4,Kr P 239 "NoRule" 9 60,o1,Kq 11 59,o2 "NoRule" 234 9 50 237,o3 52 49 "leastdeeds.errors" 187,o1,o6,Ap 247 "number",o1,kr "__init__" "NoRule.__init__" 0 3,fh "__init__" 244 "NoRule.__init__" 11 2 54 249 250,ko "__init__" "NoRule.__init__" 0 3 "leastdeeds.errors" 187 59,rZ "number" 252,o7 P 239 9 "__init__" 251 60 "__static_attributes__" 61 2,jK "NoRule" 63 62 47 232,o9 63,iP 63,jL,o4,Kr P 264 "NoStep" 14 79,o1,Kq 16 78,o2 "NoStep" 259 14 69 262,o3 71 68 "leastdeeds.errors" 187,o1,o6,Ap 272 "place",o1,kr "__init__" "NoStep.__init__" 0 4,fh "__init__" 269 "NoStep.__init__" 16 2 73 274 275,ko "__init__" "NoStep.__init__" 0 4 "leastdeeds.errors" 187 78,rZ "place" 277,o7 P 264 14 "__init__" 276 79 "__static_attributes__" 80 2,jK "NoStep" 82 81 66 257,o9 82,iP 82,jL,o4,o5 P 289 "NoMachine" 19 92,o1,o6,o2 "NoMachine" 284 19 88 287,o3 90 87 "leastdeeds.errors" 187,o1,mw P 289 19 92,jK "NoMachine" 94 93 85 282,o9 94,iP 94,jL,o4,o5 P 305 "TooLong" 21 104,o1,o6,o2 "TooLong" 300 21 100 303,o3 102 99 "leastdeeds.errors" 187,o1,mw P 305 21 104,jK "TooLong" 106 105 97 298,o9 106,iP 106,jL,o4,o5 P 321 "NoWord" 23 116,o1,o6,o2 "NoWord" 316 23 112 319,o3 114 111 "leastdeeds.errors" 187,o1,mw P 321 23 116,jK "NoWord" 118 117 109 314,o9 118,iP 118,jL,o4,o5 P 337 "NoWork" 25 128,o1,o6,o2 "NoWork" 332 25 124 335,o3 126 123 "leastdeeds.errors" 187,o1,mw P 337 25 128,jK "NoWork" 130 129 121 330,o9 130,iP 130]
def Ol (P:Sd):List Obj:=(((Om P).set 1 ({cls:=.none,data:=.fields Oe.toArray})).set 13 (o27))++[jL,o4,o5 P 353 "NoBound" 27 140,o1,o6,o2 "NoBound" 348 27 136 351,o3 138 135 "leastdeeds.errors" 187,o1,mw P 353 27 140,jK "NoBound" 142 141 133 346,o9 142,iP 142,jL,o4,o5 P 369 "TooMany" 29 152,o1,o6,o2 "TooMany" 364 29 148 367,o3 150 147 "leastdeeds.errors" 187,o1,mw P 369 29 152,jK "TooMany" 154 153 145 362,o9 154,iP 154,jL,o4,o5 P 385 "NoPlace" 31 164,o1,o6,o2 "NoPlace" 380 31 160 383,o3 162 159 "leastdeeds.errors" 187,o1,mw P 385 31 164,jK "NoPlace" 166 165 157 378,o9 166,iP 166,jL,o4,o5 P 401 "NoDeed" 33 176,o1,o6,o2 "NoDeed" 396 33 172 399,o3 174 171 "leastdeeds.errors" 187,o1,mw P 401 33 176,jK "NoDeed" 178 177 169 394,o9 178,iP 178,jL,o4,o5 P 417 "Nothing" 35 188,o1,o6,o2 "Nothing" 412 35 184 415,o3 186 183 "leastdeeds.errors" 187,o1,mw P 417 35 188,jK "Nothing" 190 189 181 410,o9 190,iP 190,jL,o4,o5 P 433 "NoText" 37 200,o1,o6,o2 "NoText" 428 37 196 431,o3 198 195 "leastdeeds.errors" 187,o1,mw P 433 37 200,jK "NoText" 202 201 193 426,o9 202,iP 202,jL,o4,o5 P 449 "NoLine" 39 212,o1,o6,o2 "NoLine" 444 39 208 447,o3 210 207 "leastdeeds.errors" 187,o1,mw P 449 39 212,jK "NoLine" 214 213 205 442,o9 214,iP 214]++EN.flatMap (kO "leastdeeds.wholes" 458)++EM.flatMap (kO "leastdeeds.machines" 469)
noncomputable def Oj (P:Sd):List Obj:=((Ol P).set 1 ({cls:=.none,data:=.fields kt1.toArray}))++EL.flatMap (kO "leastdeeds.machines" 469)++[N9 P 575 268]++EK.flatMap (kO "leastdeeds.machines" 469)++EJ.flatMap (kO "leastdeeds.runs" 646)++[N9 P 697 347]++EI.flatMap (kO "leastdeeds.runs" 646)++EH.flatMap (kO "leastdeeds.alike" 741)++EG.flatMap (kO "leastdeeds.least" 757)++[o22,o1,o6,{cls:=.type "tuple",data:=.seq #[.str "machine" 793,.str "bound" 794,.str "leads" 795,.str "empty_ends" 796,.str "found" 797,.str "levels" 798]},o1,{cls:=.none,data:=.func {name:="reached",qualname:="reached",params:=nB (eO 61),body:=PySem.FuncBody.stmts (nA (eO 61)),scope:=kz (eO 61),globals:=0,closure:=[],defaults:=.none,kwdefaults:=.none,pyModule:=.none,code:=.none}},fh "reached" 790 "reached" 186 2 421 799 800,o23,o1,o4,{cls:=.type "dict",data:=.dict #[eN P "__module__" 811 (.str "leastdeeds.shop" 802),eN P "__qualname__" 813 (.str "Shop" 812),eN P "__firstlineno__" 815 (.int 195 814),eN P "__init__" 824 (.ref 441),eN P "row" 831 (.ref 448),eN P "cost" 838 (.ref 455),eN P "behaviour" 845 (.ref 462),eN P "least" 852 (.ref 469),eN P "put" 861 (.ref 476),eN P "out" 869 (.ref 483),eN P "back" 876 (.ref 490),eN P "change" 884 (.ref 497),eN P "give" 893 (.ref 504),eN P "__static_attributes__" 897 (.ref 505)] 14},o1,{cls:=.none,data:=.fields #[.int 197 0,.int 4 0,.ref 440,.int 203 0,.int 4 0,.ref 447,.int 206 0,.int 4 0,.ref 454,.int 209 0,.int 4 0,.ref 461,.int 212 0,.int 4 0,.ref 468,.int 215 0,.int 4 0,.ref 475,.int 224 0,.int 4 0,.ref 482,.int 229 0,.int 4 0,.ref 489,.int 234 0,.int 4 0,.ref 496,.int 238 0,.int 4 0,.ref 503]},o2 "Shop" 806 195 431 809,o3 433 430 "leastdeeds.shop" 802,o1,o6,Ey "self" 819 "machine" "row",o1,kr "__init__" "Shop.__init__" 0 63,fh "__init__" 816 "Shop.__init__" 197 3 435 822 823,ko "__init__" "Shop.__init__" 0 63 "leastdeeds.shop" 802 440,o1,o6,rZ "self" 828,o1,kr "row" "Shop.row" 1 63,fh "row" 825 "Shop.row" 203 1 442 829 830,ko "row" "Shop.row" 1 63 "leastdeeds.shop" 802 447,o1,o6,rZ "self" 835,o1,kr "cost" "Shop.cost" 2 63,fh "cost" 832 "Shop.cost" 206 1 449 836 837,ko "cost" "Shop.cost" 2 63 "leastdeeds.shop" 802 454,o1,o6,rZ "self" 842,o1,kr "behaviour" "Shop.behaviour" 3 63,fh "behaviour" 839 "Shop.behaviour" 209 1 456 843 844,ko "behaviour" "Shop.behaviour" 3 63 "leastdeeds.shop" 802 461,o1,o6,rZ "self" 849,o1,kr "least" "Shop.least" 4 63,fh "least" 846 "Shop.least" 212 1 463 850 851,ko "least" "Shop.least" 4 63 "leastdeeds.shop" 802 468,o1,o6,Ey "self" 856 "place" "number",o1,kr "put" "Shop.put" 5 63,fh "put" 853 "Shop.put" 215 3 470 859 860,ko "put" "Shop.put" 5 63 "leastdeeds.shop" 802 475,o1,o6,Ap 865 "place",o1,kr "out" "Shop.out" 6 63,fh "out" 862 "Shop.out" 224 2 477 867 868,ko "out" "Shop.out" 6 63 "leastdeeds.shop" 802 482,o1,o6,rZ "self" 873,o1,kr "back" "Shop.back" 7 63,fh "back" 870 "Shop.back" 229 1 484 874 875,ko "back" "Shop.back" 7 63 "leastdeeds.shop" 802 489,o1,o6,Ap 880 "row",o1,kr "change" "Shop.change" 8 63,fh "change" 877 "Shop.change" 234 2 491 882 883,ko "change" "Shop.change" 8 63 "leastdeeds.shop" 802 496,o1,o6,Ey "self" 888 "row" "start",o1,kr "give" "Shop.give" 9 63,fh "give" 885 "Shop.give" 238 2 498 891 892,ko "give" "Shop.give" 9 63 "leastdeeds.shop" 802 503,Ey "earlier" 894 "machine" "standing",o25 P,o26,{cls:=.type "getset_descriptor",data:=.fields #[.str "__dict__" 898,.ref 507,.builtin "function.__dict__",.builtin "function.__dict__#set"]},o8 900 507,o9 507,iP 507]++EF.flatMap (kO "law_leastdeeds_k53_least_behind_each_change" 905)
def Oi:List Addr:=[23,24,43,44,62,63,81,82,93,94,105,106,117,118,129,130,141,142,153,154,165,166,177,178,189,190,201,202,213,214,290,369,420,426,427,440,441,447,448,454,455,461,462,468,469,475,476,482,483,489,490,496,497,503,504,506,507]++EN.flatMap pS++EM.flatMap pS++EL.flatMap pS++EK.flatMap pS++EJ.flatMap pS++EI.flatMap pS++EH.flatMap pS++EG.flatMap pS++EF.flatMap pS
def kh:Sd->Qr:=λP=>[(2,{cls:=.none,data:=.dict #[]}),
 (3,{cls:=.type "dict",data:=.dict (eN P "__name__" 165 (.str "law_leastdeeds_k53_least_behind_each_change" 905)::kg3 P).toArray 90}),
 (589,N8 "_law_price" 1012 356 2 586 1015),
 (590,lX "_law_price" 77 589),
 (594,N8 "_law_behind" 1018 358 3 591 1021),
 (595,lX "_law_behind" 78 594),
 (601,fh "_law_costs" 1024 "_law_costs" 360 2 596 1035 1036),
 (602,lX "_law_costs" 79 601),
 (608,fh "_law_refusal" 1038 "_law_refusal" 376 1 603 1044 1045),
 (609,lX "_law_refusal" 80 608),
 (615,fh "_law_change" 1047 "_law_change" 392 3 610 1057 1058),
 (616,lX "_law_change" 81 615),
 (622,fh "_law_do" 1060 "_law_do" 403 2 617 1065 1066),
 (623,lX "_law_do" 82 622),
 (629,fh "_law_parted" 1068 "_law_parted" 407 3 624 1077 1078),
 (630,lX "_law_parted" 83 629),
 (636,fh "_law_small_machine" 1080 "_law_small_machine" 412 1 631 1085 1086),
 (637,lX "_law_small_machine" 84 636),
 (643,fh "_law_told" 1088 "_law_told" 415 1 638 1095 1096),
 (644,lX "_law_told" 85 643),
 (650,fh "_law_right" 1098 "_law_right" 423 5 645 1109 1110),
 (651,lX "_law_right" 86 650),
 (657,fh "_law_refused" 1112 "_law_refused" 437 1 652 1116 1117),
 (658,lX "_law_refused" 87 657),
 (664,fh "law" 1119 "law" 443 1 659 1135 1136),
 (665,lX "law" 88 664)]++List.map (λa=>(a,(Oj P).getD (a-11) o1)) Oi
def KY:List Addr:=[2,3,589,590,594,595,601,602,608,609,615,616,622,623,629,630,636,637,643,644,650,651,657,658,664,665]++Oi
def Pc:∀P,KY=(kh P).map (·.1):=λ_=>by kernel_rfl
noncomputable def kq:Rv:=PySem.W.view PySem.Challenge.pw_leastdeeds_k53_least_behind_each_change [1,2,3,4,5,6,7,8,9,10,11,12,13,14,15,17,19,20,21,22,23,24,25,26,27,28,29,30,31,32,33,34,35,36,37,38,39,40,41,42,43,45,46,47,48,49,50,51,52,53,55,57,58,59,60,63,65,66,67,68,69,70,71,72,73,74,75,76,77,78,79,80,81,82,83,84,85,86,87,88]
abbrev kH:PySem.W.Hook:=PySem.W.kHook kh KY Pc
def pP:List Str:=["SORTS","NEW_WORDS","reached"]
abbrev yg:=PySem.Challenge.rw_leastdeeds_k53_least_behind_each_change.row
abbrev kX:QC->Bool:=λs=>PySem.W.xlAt kq [] s&&PySem.W.recOk (PySem.W.RowW.records yg.toRowW) s
def E2 (P:Sd)(os:RG):RI:={HD.treeOf ((((PySem.W.boot_heap P).objs.toList.set 3 ({cls:=.type "dict",data:=.dict (eN P "__name__" 165 (.str "leastdeeds.errors" 187)::Oh P).toArray 17})))++Om P) 0 .nil,133,{},#[],{},346,os}
def E1 (P:Sd)(os:RG):RI:={HD.treeOf ((((PySem.W.boot_heap P).objs.toList.set 3 ({cls:=.type "dict",data:=.dict (eN P "__name__" 165 (.str "leastdeeds.machines" 469)::Og P).toArray 35})))++Ol P) 0 .nil,252,{},#[],{},514,os}
def EZ (P:Sd)(os:RG):RI:={HD.treeOf ((((PySem.W.boot_heap P).objs.toList.set 3 ({cls:=.type "dict",data:=.dict (eN P "__name__" 165 (.str "law_leastdeeds_k53_least_behind_each_change" 905)::Of P).toArray 78})))++Oj P) 0 .nil,586,{},#[],{},1012,os}
def kE:Env:={scope:=PySem.Challenge.pw_leastdeeds_k53_least_behind_each_change.main.scope,locals:=mainNs,globals:=mainNs,cells:=[],code:=.ref 13,frame:=some 14}
def kP (w:Rf)(os:RG):=HD.wQ treeTable PySem.Challenge.pw_leastdeeds_k53_least_behind_each_change w 11 (some (.ref 6)) 12 (HD.yD w.params os) (PySem.W.topStub PySem.Challenge.pw_leastdeeds_k53_least_behind_each_change)
def EV (w:Rf)(os:RG):=(kP w os).bind λx=>HD.kY treeTable PySem.Challenge.pw_leastdeeds_k53_least_behind_each_change w 11 (some (.ref 6)) 1783 x.1 (PySem.W.piecesOf ((PySem.W.behindTheImports PySem.Challenge.pw_leastdeeds_k53_least_behind_each_change).take 9) kE (.body (PySem.W.behindTheImports PySem.Challenge.pw_leastdeeds_k53_least_behind_each_change) kE) {0,0,0,0} [PySem.W.topFrame {0,0,0,0}])
def ES (w:Rf)(os:RG):Option (Flow×RI×Code×Pos):=some (.next,E2 w.params os,(.body (PySem.W.behindTheImports PySem.Challenge.pw_leastdeeds_k53_least_behind_each_change) kE),{25,0,26,8})
def EU (w:Rf)(os:RG):=HD.kY treeTable PySem.Challenge.pw_leastdeeds_k53_least_behind_each_change w 11 (some (.ref 6)) 1714 (E2 w.params os) (PySem.W.piecesOf (((PySem.W.behindTheImports PySem.Challenge.pw_leastdeeds_k53_least_behind_each_change).drop 9).take 20) kE (.body (PySem.W.behindTheImports PySem.Challenge.pw_leastdeeds_k53_least_behind_each_change) kE) {25,0,26,8} [PySem.W.topFrame {0,0,0,0}])
def ER (w:Rf)(os:RG):Option (Flow×RI×Code×Pos):=some (.next,E1 w.params os,(.body (PySem.W.behindTheImports PySem.Challenge.pw_leastdeeds_k53_least_behind_each_change) kE),{59,0,60,58})
def ET (w:Rf)(os:RG):=HD.kY treeTable PySem.Challenge.pw_leastdeeds_k53_least_behind_each_change w 11 (some (.ref 6)) 1913 (E1 w.params os) (PySem.W.piecesOf ((((PySem.W.behindTheImports PySem.Challenge.pw_leastdeeds_k53_least_behind_each_change).drop 9).drop 20).take 48) kE (.body (PySem.W.behindTheImports PySem.Challenge.pw_leastdeeds_k53_least_behind_each_change) kE) {59,0,60,58} [PySem.W.topFrame {0,0,0,0}])
def EO (w:Rf)(os:RG):Option (Flow×RI×Code×Pos):=some (.next,EZ w.params os,(.body (PySem.W.behindTheImports PySem.Challenge.pw_leastdeeds_k53_least_behind_each_change) kE),{349,0,355,23})
def kR (w:Rf)(os:RG):=HD.hU treeTable PySem.Challenge.pw_leastdeeds_k53_least_behind_each_change w 11 (some (.ref 6)) 6289 (EZ w.params os) (PySem.W.restOf ((((PySem.W.behindTheImports PySem.Challenge.pw_leastdeeds_k53_least_behind_each_change).drop 9).drop 20).drop 48) kE (.body (PySem.W.behindTheImports PySem.Challenge.pw_leastdeeds_k53_least_behind_each_change) kE) {349,0,355,23} [PySem.W.topFrame {0,0,0,0}])
abbrev KQ (P:Sd)(s:RI):=HD.la PySem.Challenge.pw_leastdeeds_k53_least_behind_each_change kq pP kX true (PySem.W.boot_heap P) (λs=>KY.map s.heap.get?) s.abs
def EY (w:Rf)(os:RG):=(kR w os).map λs=>(KQ w.params s).1
def EX (w:Rf)(os:RG):=(kR w os).map λs=>(KQ w.params s).2.1
def EW (w:Rf)(os:RG):=(kR w os).map λs=>(KQ w.params s).2.2
def E5 (w:Rf):=some true
def E4 (w:Rf):=some (PySem.W.openGood kq pP)
def E3 (w:Rf):=some ((kh w.params).map λp=>some p.2)
def _root_.PySem.W.Fast.tw9486671856421162420:Rv:=PySem.Challenge.pw_leastdeeds_k53_least_behind_each_change
def _root_.PySem.W.Fast.te9486671856421162420:PySem.Challenge.pw_leastdeeds_k53_least_behind_each_change=PySem.W.Fast.tw9486671856421162420:=rfl
def _root_.PySem.W.Fast.tw10533424468926096904:Sd->Qr:=K53.kh
def _root_.PySem.W.Fast.te10533424468926096904:K53.kh=PySem.W.Fast.tw10533424468926096904:=rfl
def _root_.PySem.W.Fast.tw1966450331646821680:Sd->RG->RI:=K53.E2
def _root_.PySem.W.Fast.te1966450331646821680:K53.E2=PySem.W.Fast.tw1966450331646821680:=rfl
def _root_.PySem.W.Fast.tw997194840693825528:Sd->RG->RI:=K53.E1
def _root_.PySem.W.Fast.te997194840693825528:K53.E1=PySem.W.Fast.tw997194840693825528:=rfl
def _root_.PySem.W.Fast.tw6757294959840521079:Sd->RG->RI:=K53.EZ
def _root_.PySem.W.Fast.te6757294959840521079:K53.EZ=PySem.W.Fast.tw6757294959840521079:=rfl
def Po:EY=EY:=rfl
name_quick kq1_53 for EY by Po
def Pn:EX=EX:=rfl
name_quick kq2_53 for EX by Pn
def Pq:E4=E4:=rfl
name_quick kg2_53 for E4 by Pq
def Pm:EW=EW:=rfl
name_quick kq3_53 for EW by Pm
def Pp:E3=E3:=rfl
name_quick kg3_53 for E3 by Pp
def Pk:EV=EV:=rfl
name_quick kua53 for EV by Pk
def Pf:ES=ES:=rfl
name_quick kva53 for ES by Pf
def Pj:EU=EU:=rfl
name_quick kub53 for EU by Pj
def Pe:ER=ER:=rfl
name_quick kvb53 for ER by Pe
def Ph:ET=ET:=rfl
name_quick kuc53 for ET by Ph
def Pd:EO=EO:=rfl
name_quick kvc53 for EO by Pd
def AN:∀(w:Rf) (os:RG),PySem.W.Fast.kua53 (w.withFollow "special-get-raises" false) os=PySem.W.Fast.kva53 (w.withFollow "special-get-raises" false) os:=λw os=>by kernel_rfl
def C6:∀(w:Rf) (os:RG),PySem.W.Fast.kua53 (w.withFollow "special-get-raises" true) os=PySem.W.Fast.kva53 (w.withFollow "special-get-raises" true) os:=λw os=>by kernel_rfl
def ka0:∀(w:Rf) (os:RG),EV w os=ES w os:=λw os=>by
 rw[PySem.W.Fast.kua53_eq,PySem.W.Fast.kva53_eq];exact PySem.W.byRow2 "special-get-raises" (P:=λw=>PySem.W.Fast.kua53 w os=PySem.W.Fast.kva53 w os) (λw=>AN w os) (λw=>C6 w os) w
def AM:∀(w:Rf) (os:RG),PySem.W.Fast.kub53 (w.withFollow "special-get-raises" false) os=PySem.W.Fast.kvb53 (w.withFollow "special-get-raises" false) os:=λw os=>by kernel_rfl
def C5:∀(w:Rf) (os:RG),PySem.W.Fast.kub53 (w.withFollow "special-get-raises" true) os=PySem.W.Fast.kvb53 (w.withFollow "special-get-raises" true) os:=λw os=>by kernel_rfl
def ka1:∀(w:Rf) (os:RG),EU w os=ER w os:=λw os=>by
 rw[PySem.W.Fast.kub53_eq,PySem.W.Fast.kvb53_eq];exact PySem.W.byRow2 "special-get-raises" (P:=λw=>PySem.W.Fast.kub53 w os=PySem.W.Fast.kvb53 w os) (λw=>AM w os) (λw=>C5 w os) w
def AL:∀(w:Rf) (os:RG),PySem.W.Fast.kuc53 (w.withFollow "special-get-raises" false) os=PySem.W.Fast.kvc53 (w.withFollow "special-get-raises" false) os:=λw os=>by kernel_rfl
def C4:∀(w:Rf) (os:RG),PySem.W.Fast.kuc53 (w.withFollow "special-get-raises" true) os=PySem.W.Fast.kvc53 (w.withFollow "special-get-raises" true) os:=λw os=>by kernel_rfl
def ka2:∀(w:Rf) (os:RG),ET w os=EO w os:=λw os=>by
 rw[PySem.W.Fast.kuc53_eq,PySem.W.Fast.kvc53_eq];exact PySem.W.byRow2 "special-get-raises" (P:=λw=>PySem.W.Fast.kuc53 w os=PySem.W.Fast.kvc53 w os) (λw=>AL w os) (λw=>C4 w os) w
def AI:∀(w:Rf) (os:RG),PySem.W.Fast.kq1_53 (w.withFollow "special-get-raises" false) os=E5 (w.withFollow "special-get-raises" false):=λw os=>by kernel_rfl
def C1:∀(w:Rf) (os:RG),PySem.W.Fast.kq1_53 (w.withFollow "special-get-raises" true) os=E5 (w.withFollow "special-get-raises" true):=λw os=>by kernel_rfl
def kl1:∀(w:Rf) (os:RG),EY w os=E5 w:=λw os=>by
 rw[PySem.W.Fast.kq1_53_eq];exact PySem.W.byRow2 "special-get-raises" (P:=λw=>PySem.W.Fast.kq1_53 w os=E5 w) (λw=>AI w os) (λw=>C1 w os) w
def AH:∀(w:Rf) (os:RG),PySem.W.Fast.kq2_53 (w.withFollow "special-get-raises" false) os=PySem.W.Fast.kg2_53 (w.withFollow "special-get-raises" false):=λw os=>by kernel_rfl
def C0:∀(w:Rf) (os:RG),PySem.W.Fast.kq2_53 (w.withFollow "special-get-raises" true) os=PySem.W.Fast.kg2_53 (w.withFollow "special-get-raises" true):=λw os=>by kernel_rfl
def kl2:∀(w:Rf) (os:RG),EX w os=E4 w:=λw os=>by
 rw[PySem.W.Fast.kq2_53_eq,PySem.W.Fast.kg2_53_eq];exact PySem.W.byRow2 "special-get-raises" (P:=λw=>PySem.W.Fast.kq2_53 w os=PySem.W.Fast.kg2_53 w) (λw=>AH w os) (λw=>C0 w os) w
def AG:∀(w:Rf) (os:RG),PySem.W.Fast.kq3_53 (w.withFollow "special-get-raises" false) os=PySem.W.Fast.kg3_53 (w.withFollow "special-get-raises" false):=λw os=>by kernel_rfl
def CZ:∀(w:Rf) (os:RG),PySem.W.Fast.kq3_53 (w.withFollow "special-get-raises" true) os=PySem.W.Fast.kg3_53 (w.withFollow "special-get-raises" true):=λw os=>by kernel_rfl
def kl3:∀(w:Rf) (os:RG),EW w os=E3 w:=λw os=>by
 rw[PySem.W.Fast.kq3_53_eq,PySem.W.Fast.kg3_53_eq];exact PySem.W.byRow2 "special-get-raises" (P:=λw=>PySem.W.Fast.kq3_53 w os=PySem.W.Fast.kg3_53 w) (λw=>AG w os) (λw=>CZ w os) w
def kp:∀(w:Rf) (os:RG),(kP w os).map (·.2)=some {denote treeTable (.body (PySem.W.behindTheImports PySem.Challenge.pw_leastdeeds_k53_least_behind_each_change) kE),(.body (PySem.W.behindTheImports PySem.Challenge.pw_leastdeeds_k53_least_behind_each_change) kE),{0,0,0,0},[PySem.W.topFrame {0,0,0,0}]}:=λw os=>by kernel_rfl
def MZ:PySem.W.LeftO yg.prog kq pP kX kH.obs kH.val 11712:=HD.vL (m0:=11) (ann:=some (.ref 6)) (PySem.W.boot_open `r `d (λ_=>rfl)) (λw=>by kernel_rfl) λw os=>HD.A8 (J:=9) (kp w os) (by kernel_rfl) (ka0 w os) (HD.u7 (J:=20) (ka1 w os) (HD.u7 (J:=48) (ka2 w os) (HD.A7 (kl1 w os) (kl2 w os) (kl3 w os))))
end K53
namespace L2
open PySem PySem.Spec PyProof.Rows
abbrev Key:=Sum Int Str
noncomputable def sW:Key->Qt->Bool
 |.inl k,v=>Value.isInt k v
 |.inr x,v=>Value.isStrOf x v
noncomputable def Pb (w:Rf):Key->Int
 |.inl k=>hashInt k
 |.inr x=>hashStr w x
def cW:∀{k:Key}{v:Qt},sW k v=true->(∃i t,k=Sum.inl i/\v=Value.int i t)\/(∃x t,k=Sum.inr x/\v=Value.str x t)
 | .inl i,v,h=>by
   obtain⟨t,e⟩:=Value.isInt_shape h;exact .inl ⟨i,t,rfl,e⟩
 | .inr x,v,h=>by
   obtain⟨t,e⟩:=Value.isStrOf_shape h;exact .inr ⟨x,t,rfl,e⟩
def jO (x:Str)(t:Tok):sW (.inr x) (.str x t)=true:=by simp[sW,Value.isStrOf]
def KW (a b:Int):decide ((Sum.inl a:Key)=Sum.inl b)=(a==b):=by
 by_cases e:a=b
 ·subst e;simp
 ·have h:¬ (Sum.inl a:Key)=Sum.inl b:=λq=>e (Sum.inl.inj q);rw[decide_eq_false h];exact(RC.mpr e).symm
def KR (a b:Str):decide ((Sum.inr a:Key)=Sum.inr b)=decide (a=b):=by
 by_cases e:a=b
 ·subst e;simp
 ·have h:¬ (Sum.inr a:Key)=Sum.inr b:=λq=>e (Sum.inr.inj q);rw[decide_eq_false h,decide_eq_false e]
def KU (a:Int)(b:Str):decide ((Sum.inl a:Key)=Sum.inr b)=false:=decide_eq_false (λq=>nomatch q)
def KS (a:Str)(b:Int):decide ((Sum.inr a:Key)=Sum.inl b)=false:=decide_eq_false (λq=>nomatch q)
def ky (prog:Rv)(w:Rf):PySem.KeyKind prog w Key where
 is:=sW
 hash:=Pb w
 inj:=λv a b F B=>by
  rcases cW F with⟨i,t,rfl,rfl⟩|⟨x,t,rfl,rfl⟩
  ·rcases cW B with⟨j,u,rfl,e⟩|⟨y,u,rfl,e⟩
   ·injection e with e1 _;rw[e1]
   ·exact nomatch e
  ·rcases cW B with⟨j,u,rfl,e⟩|⟨y,u,rfl,e⟩
   ·exact nomatch e
   ·injection e with e1 _;rw[e1]
 byValue:=λk v h=>by
  rcases cW h with⟨i,t,rfl,rfl⟩|⟨x,t,rfl,rfl⟩<;>rfl
 pyHash:=λz h=>by
  rcases cW z with⟨i,t,rfl,rfl⟩|⟨x,t,rfl,rfl⟩
  ·exact wpAny_pyHash_int h
  ·exact wpAny_pyHash_str h
 eqBool:=λI z h=>by
  rcases cW I with⟨i,t,rfl,rfl⟩|⟨x,t,rfl,rfl⟩
  ·rcases cW z with⟨j,u,rfl,rfl⟩|⟨y,u,rfl,rfl⟩
   ·rw[KW] at h;exact wpAny_eqBool_int h
   ·rw[KU] at h;exact SeqAt.EqAt.int_str i t y u _ _ _ _ h
  ·rcases cW z with⟨j,u,rfl,rfl⟩|⟨y,u,rfl,rfl⟩
   ·rw[KS] at h;exact SeqAt.EqAt.str_int x t j u _ _ _ _ h
   ·rw[KR] at h;exact wpAny_eqBool_str h
 «strs»:=λk x t v h=>by
  rcases cW h with⟨i,u,rfl,e⟩|⟨y,u,rfl,e⟩
  ·exact nomatch e
  ·injection e with e1 _
   subst e1;cases v<;>rfl
inductive V where
 |non|bl (b:Bool)|int (i:Int)|str (x:Str)|byt (b:Array UInt8)|flt (b:UInt64)|ref (a:Addr)|ty (n:String)
 deriving DecidableEq
def RelV:V->Qt->Prop
 |.non,u=>u=Value.none
 |.bl b,u=>u=Value.bool b
 |.int i,u=>∃t,u=Value.int i t
 |.str x,u=>∃t,u=Value.str x t
 |.byt b,u=>∃t,u=Value.bytes b t
 |.flt b,u=>∃t,u=Value.float b t
 |.ref a,u=>u=Value.ref a
 |.ty n,u=>u=Value.type n
abbrev Vals:List V->List Qt->Prop:=Su RelV
def Vals.length (r:Vals xs us):xs.length=us.length:=Paired.length r
def Vals.get:∀{xs:List V}{us:List Qt}{i:Nat}{x:V},Vals xs us->xs[i]?=some x->∃u,us[i]?=some u/\RelV x u
 |_,_,_,_,.nil,e=>by simp at e
 |_,_,0,_,.cons r _,e=>by simp at e;subst e;exact{_,rfl,r}
 | _,_,i+1,x,.cons _ t,e=>by
   obtain⟨u,h1,h2⟩:=Vals.get t (by simpa using e)
   exact{u,by simpa using h1,h2}
def Vals.set (r:RelV x u):∀{xs:List V}{us:List Qt} (i:Nat),Vals xs us->Vals (xs.set i x) (us.set i u)
 |_,_,_,.nil=>.nil
 |_,_,0,.cons _ t=>.cons r t
 |_,_,i+1,.cons q t=>.cons q (Vals.set r i t)
def Vals.append:∀{xs ys:List V}{us ws:List Qt},Vals xs us->Vals ys ws->Vals (xs++ys) (us++ws)
 |_,_,_,_,.nil,s=>s
 |_,_,_,_,.cons r t,s=>.cons r (Vals.append t s)
def Vals.take:∀{xs:List V}{us:List Qt} (n:Nat),Vals xs us->Vals (xs.take n) (us.take n)
 |_,_,0,_=>.nil
 |_,_,_+1,.nil=>.nil
 |_,_,n+1,.cons r t=>.cons r (Vals.take n t)
def Vals.drop:∀{xs:List V}{us:List Qt} (n:Nat),Vals xs us->Vals (xs.drop n) (us.drop n)
 |_,_,0,r=>r
 |_,_,_+1,.nil=>.nil
 |_,_,n+1,.cons _ t=>Vals.drop n t
def j8:Option V->Option Qt->Prop
 |some v,some u=>RelV v u
 |none,none=>True
 |_,_=>False
def KV {j:Type}:List (j×V)->List (j×Qt)->Prop:=Su λ(p:j×V) (q:j×Qt)=>p.1=q.1/\RelV p.2 q.2
noncomputable def kV:Key->V
 |.inl i=>.int i
 |.inr x=>.str x
inductive HO where
 |lst (xs:List V)
 |tup (xs:List V)
 |dK (kvs:List (Key×V))|dT (kvs:List (List Key×V))
 |set (S:Int->Bool) (n:Nat)
 |ins (C dx:Addr) (fs:List (Str×V))
 |own (x:Addr)
 |xd (fs:List (Str×V))
 |met (f x:Addr)
 |rng (lo hi:Int)
 |frz (o:Obj) (u:HO)
 |tbl (ps:Array Qt)
 |ext (φ:Heap->Prop)
 |dn (es:List Sl)
abbrev Hp:=Addr->Option HO
noncomputable def upd (H:Hp)(a:Addr)(o:HO):Hp:=λb=>if b=a then some o else H b
def bG:upd H a o a=some o:=by unfold upd;rw[if_pos rfl]
def av (h:b≠a):upd H a o b=H b:=by unfold upd;rw[if_neg h]
def aP {H:Hp}(h:H a=some o)(h':H b=none):a≠b:=by
 intro e;subst e;rw[h] at h';cases h'
section
variable(P:Rv)(w:Rf)
noncomputable def eA (H:Hp)(h:Heap)(a:Addr):HO->Prop
 |.lst xs=>xs.length<=sizeLine/\∃(j:List Qt) (n:Nat),Vals xs j/\h.get? a=some {cls:=.type "list",data:=.seq j.toArray n}
 |.tup xs=>xs.length<=sizeLine/\∃j:List Qt,Vals xs j/\IsTup h a j.toArray
 |.dK y=>y.length<=sizeLine/\(a==sysModules)=false/\∃B,KV y B/\h.DictOf (ky P w) a B
 |.dT y=>y.length<=sizeLine/\(a==sysModules)=false/\∃xs:List (List Key×Addr×Qt),
  Su (λ(p:List Key×V) (q:List Key×Addr×Qt)=>p.1=q.1/\H q.2.1=some (.tup (p.1.map kV))/\RelV p.2 q.2.2) y xs/\
  ∃o es F,h.get? a=some o/\o.ExactDict/\o.data=.dict es F/\es.toList=xs.map (entryOfKey (tupleKind (ky P w)))/\(xs.map (·.1)).Nodup
 |.set S n=>h.SetOf (intKind P w) a S n
 |.ins C dx fs=>H dx=some (.own a)/\fs.length<=1000/\dx≠a/\h.get? a=some (PySem.W.instObj C dx)/\
  ∃mA,h.Ns1 dx mA/\(∀f,j8 (fs.lookup f) (mA f))/\PySem.Within mA (fs.map (·.1))
 |.own _=>∃o,h.get? a=some o
 |.xd fs=>∃mA,h.Ns1 a mA/\∀f,j8 (fs.lookup f) (mA f)
 |.rng lo hi=>∃t u v,h.get? a=some {cls:=.type "range",data:=.fields #[.int lo t,.int hi u,.int 1 v]}
 |.frz o u=>h.get? a=some o/\eA H h a u
 |.tbl ps=>h.get? a=some {cls:=.none,data:=.fields ps}
 |.met f x=>h.get? a=some (PySem.W.methodObj (.ref f) (.ref x))
 |.ext z=>z h/\(∃o,h.get? a=some o)/\∀h1 h2:Heap,z h1->(∀o,h1.get? a=some o->h2.get? a=some o)->z h2
 |.dn es=>es.length<=sizeLine/\(a==sysModules)=false/\∃o,h.get? a=some o/\o.ExactDict/\o.data=.dict es.toArray es.length
def d7 (H:Hp)(h:Heap):Prop:=∀a o,H a=some o->eA P w H h a o
end
section
variable{P:Rv}{w:Rf}{H H':Hp}{h h':Heap}{a:Addr}{o:HO}
def eA.lt (x:eA P w H h a o):a<h.objs.size:=by
 cases o with
 |lst xs=>obtain⟨_,_,_,_,e⟩:=x;exact QO e
 |tup xs=>obtain⟨_,_,_,p⟩:=x;exact p.lt
 |dK j=>obtain⟨_,_,_,_,o,_,_,e,_⟩:=x;exact QO e
 |dT j=>obtain⟨_,_,_,_,o,_,_,e,_⟩:=x;exact QO e
 |set S n=>obtain⟨o,_,_,_,e,_⟩:=x;exact QO e
 |ins C dx fs=>obtain⟨_,_,_,e,_⟩:=x;exact QO e
 |own y=>obtain⟨_,e⟩:=x;exact QO e
 |xd fs=>obtain⟨_,⟨_,_,_,e,_⟩,_⟩:=x;exact QO e
 |rng lo hi=>obtain⟨_,_,_,e⟩:=x;exact QO e
 |frz ob u=>obtain⟨e,_⟩:=x;exact QO e
 |tbl ps=>exact QO (x)
 |met f y=>exact QO (x)
 |ext z=>obtain⟨_,⟨_,e⟩,_⟩:=x;exact QO e
 |dn es=>obtain⟨_,_,_,e,_⟩:=x;exact QO e
def Su.mapP {j y:Type}{F G:j->y->Prop}:∀{l₁:List j}{l₂:List y},Su F l₁ l₂->(∀a b,F a b->G a b)->Su G l₁ l₂
 |_,_,.nil,_=>.nil
 |_,_,.cons r t,f=>.cons (f _ _ r) (Su.mapP t f)
def eA.stay (x:eA P w H h a o)(k:∀b u,(b=a\/H b=some (.own a))->h.get? b=some u->h'.get? b=some u)
 (ho:∀b,H b=some (.own a)->H' b=some (.own a)) (I:∀b xs,H b=some (.tup xs)->H' b=some (.tup xs)):eA P w H' h' a o:=by
 induction o with
 |lst xs=>obtain⟨z,B,n,r,e⟩:=x;exact{z,B,n,r,k _ _ (.inl rfl) e}
 |tup xs=>obtain⟨z,B,r,ob,e,c⟩:=x;exact{z,B,r,ob,k _ _ (.inl rfl) e,c}
 |dK F=>obtain⟨z,y,L,r,ob,es,j,e,c⟩:=x;exact{z,y,L,r,ob,es,j,k _ _ (.inl rfl) e,c}
 | dT F=>
   obtain⟨z,y,xs,r,ob,es,j,e,c⟩:=x;exact{z,y,xs,Su.mapP r λp q z=>{z.1,I _ _ z.2.1,z.2.2},ob,es,j,k _ _ (.inl rfl) e,c}
 |set S n=>obtain⟨ob,es,j,t,e,c⟩:=x;exact{ob,es,j,t,k _ _ (.inl rfl) e,c}
 | ins C dx fs=>
   obtain⟨d,z,ne,e,mA,⟨od,es,j,e2,c⟩,r⟩:=x;exact{ho _ d,z,ne,k _ _ (.inl rfl) e,mA,{od,es,j,k _ _ (.inr d) e2,c},r}
 |own y=>obtain⟨ob,e⟩:=x;exact{ob,k _ _ (.inl rfl) e}
 |xd fs=>obtain⟨mA,⟨od,es,j,e,c⟩,r⟩:=x;exact{mA,{od,es,j,k _ _ (.inl rfl) e,c},r}
 |rng lo hi=>obtain⟨t,u,v,e⟩:=x;exact{t,u,v,k _ _ (.inl rfl) e}
 |frz ob u J=>obtain⟨e,q⟩:=x;exact{k _ _ (.inl rfl) e,J q}
 | tbl ps=>
   have e:=x;exact k a _ (.inl rfl) e
 | met f y=>
   have e:=x;exact k a _ (.inl rfl) e
 |ext M=>obtain⟨p,⟨o,e⟩,st⟩:=x;exact{st _ _ p λo q=>k _ _ (.inl rfl) q,{o,k _ _ (.inl rfl) e},st}
 |dn es=>obtain⟨z,y,o,e,c⟩:=x;exact{z,y,o,k _ _ (.inl rfl) e,c}
def d7.lt (x:d7 P w H h)(e:H a=some o):a<h.objs.size:=(x a o e).lt
def d7.fresh (x:d7 P w H h)(e:h.objs.size<=a):H a=none:=by
 cases q:H a with
 |none=>rfl
 |some u=>exact absurd (QL (x.lt q) e) (RM _)
def d7.kept (x:d7 P w H h)(k:∀b u,h.get? b=some u->h'.get? b=some u):d7 P w H h':=λa o e=>
 (x a o e).stay (λb u _ q=>k b u q) (λ_ q=>q) λ_ _ q=>q
def d7.laid (x:d7 P w H h)(k:∀b u,h.get? b=some u->h'.get? b=some u)(y:h.objs.size<=a)(new:eA P w (upd H a o) h' a o):d7 P w (upd H a o) h':=λb u e=>by
 have hn:=x.fresh y;by_cases j:b=a
 ·subst j;rw[bG] at e;cases e;exact new
 ·rw[av j] at e;exact(x b u e).stay (λc v _ q=>k c v q) (λc q=>by rw[av (aP q hn)];exact q) λc xs q=>by rw[av (aP q hn)];exact q
end
def Rd (H:Hp)(a:Addr)(u:HO):Prop:=H a=some u\/∃o,H a=some (.frz o u)
def Rd.ok (r:Rd H a u)(x:d7 P w H h):eA P w H h a u:=by
 rcases r with r|⟨o,r⟩
 ·exact x a u r
 ·obtain⟨_,q⟩:=x a _ r;exact q
def Fx:Option HO->Prop
 |some (.lst _)=>True
 |some (.dK _)=>True
 |some (.dT _)=>True
 |some (.set _ _)=>True
 |some (.ins _ _ _)=>True
 |some (.ext _)=>True
 |some (.dn _)=>True
 |_=>False
section
variable{P:Rv}{w:Rf}{H:Hp}{h h':Heap}{x e:Addr}{o':HO}
def d7.write (ok:d7 P w H h)(mu:Fx (H x))(he:e=x\/H e=some (.own x))(k:∀b u,b≠e->h.get? b=some u->h'.get? b=some u)(L:∃u,h'.get? e=some u)
 (new:eA P w (upd H x o') h' x o'):d7 P w (upd H x o') h':=λb u q=>by
 have B:∀c y,H c=some (.own y)->c≠x:=λc y r z=>by subst z;rw[r] at mu;exact mu
 have F:∀c xs,H c=some (.tup xs)->c≠x:=λc xs r z=>by subst z;rw[r] at mu;exact mu
 by_cases I:b=x
 ·subst I;rw[bG] at q;cases q;exact new
 ·rw[av I] at q;by_cases j:b=e
  ·have M:H b=some (.own x):=by
    rcases he with z|z
    ·exact absurd (j.trans z) I
    ·rw[j];exact z
   rw[q] at M;cases M;obtain⟨v,O⟩:=L;exact{v,by rw[j];exact O}
  ·refine(ok b u q).stay (λc v J r=>k c v ?_ r) (λc r=>by rw[av (B c b r)];exact r) λc xs r=>by rw[av (F c xs r)];exact r
   rcases J with rfl|J
   ·exact j
   ·rintro rfl;rcases he with z|z
    ·exact B c b J z
    ·rw[J] at z;cases z;exact I rfl
end
structure Un (fs ex:List Addr) (H H':Hp) (h h':Heap):Prop where
 keep:∀b o,h.get? b=some o->H b=none->b∉fs->b∉ex->h'.get? b=some o
 slot:∀b o,h.get? b=some o->H b=none->b∈fs->b∉ex->∃sl,h'.get? b=some {o with slots:=sl}
 free:∀b o,h.get? b=some o->H b=none->b∉ex->H' b=none
 there:∀b o,h.get? b=some o->b∉ex->∃o',h'.get? b=some o'
 tups:∀b xs,H b=some (.tup xs)->H' b=some (.tup xs)
 frzs:∀b o u,H b=some (.frz o u)->H' b=some (.frz o u)
 tbls:∀b ps,H b=some (.tbl ps)->∃more,H' b=some (.tbl (ps++more))
section
variable{fs fs' ex ex':List Addr}{H H1 H2:Hp}{h h1 h2 h':Heap}{a x e:Addr}{o:HO}
def Un.any (u:Un fs ex H H1 h h1)(q:h.get? b=some ob)(n:H b=none)(y:b∉ex):∃sl,h1.get? b=some {ob with slots:=sl}:=by
 by_cases j:b∈fs
 ·exact u.slot b ob q n j y
 ·exact{ob.slots,u.keep b ob q n j y}
def Un.kept (k:∀b u,h.get? b=some u->h'.get? b=some u):Un fs ex H H h h':=
 {λb ob q _ _ _=>k b ob q,λb ob q _ _ _=>{ob.slots,k b ob q},λ_ _ _ n _=>n,λb ob q _=>{ob,k b ob q},λ_ _ q=>q,λ_ _ _ q=>q,λ_ ps q=>{#[],by rw[q];simp}}
def Un.refl:Un fs ex H H h h:=Un.kept λ_ _ q=>q
def Un.laid (k:∀b u,h.get? b=some u->h'.get? b=some u)(j:h.objs.size<=a)(hn:H a=none):Un fs ex H (upd H a o) h h' where
 keep:=λb u q _ _ _=>k b u q
 slot:=λb u q _ _ _=>{u.slots,k b u q}
 free:=λb u q n _=>by rw[av (Q1 (QL (QO q) j))];exact n
 there:=λb u q _=>{u,k b u q}
 tups:=λb xs q=>by rw[av (aP q hn)];exact q
 frzs:=λb u xs q=>by rw[av (aP q hn)];exact q
 tbls:=λb ps q=>{#[],by rw[av (aP q hn),q];simp}
def Un.write (mu:Fx (H x))(he:e=x\/H e=some (.own x))(k:∀b u,b≠e->h.get? b=some u->h'.get? b=some u)(y:∃u,h'.get? e=some u):Un fs ex H (upd H x o) h h':=by
 have F:∀b,H b=none->b≠x:=λb n z=>by subst z;rw[n] at mu;exact mu
 have B:∀b,H b=none->b≠e:=λb n z=>by
  subst z;rcases he with r|r
  ·exact F b n r
  ·rw[n] at r;cases r
 have hm:∀b u,H b=some u->¬ Fx (some u)->b≠x:=λb u q nm z=>by subst z;rw[q] at mu;exact nm mu
 refine{λb u q n _ _=>k b u (B b n) q,λb u q n _ _=>{u.slots,k b u (B b n) q},λb u q n _=>by rw[av (F b n)];exact n,λb u q _=>?_,
  λb xs q=>by rw[av (hm b _ q λz=>z)];exact q,λb u xs q=>by rw[av (hm b _ q λz=>z)];exact q,λb ps q=>{#[],by rw[av (hm b _ q λz=>z),q];simp}}
 by_cases j:b=e
 ·subst j;exact y
 ·exact{u,k b u j q}
end
noncomputable def Ei (h:Heap)(H:Hp):List Addr:=(List.range h.objs.size).filter λa=>(H a).isSome
def mG (h:Heap)(H:Hp):Heap:=PySem.W.hideAll h (Ei h H)
def AX (h:Heap)(H:Hp):(mG h H).objs.size=h.objs.size:=PySem.W.hideAll_size _ _
def Dc (e:h.get? b=some o)(n:H b=none):(mG h H).get? b=some o:=
 PySem.W.hideAll_get _ e λhm=>by
  have q:(H b).isSome=true:=(SI.mp hm).2;rw[n] at q;simp at q
def He (e:(mG h H).get? b=some o):h.get? b=some o/\H b=none:=by
 have j:=PySem.W.of_hideAll (Ei h H) e;refine{j,?_};cases q:H b with
 |none=>rfl
 | some x=>
   have hm:b∈Ei h H:=SI.mpr {So.mpr (QO j),by simp[q]}
   have z:(mG h H).get? b=none:=PySem.W.hideAll_none (Ei h H) hm;rw[z] at e;cases e
structure Mod (K:Qr) (mg:Str->Option Qt) (base:Heap):Prop where
 kin:K.In base
 glob:base.Ns mainGlobals mg
 blt:∃mb,base.Ns builtinsNs mb/\∀x:Str,x≠"__name__"->mb x=bootBuiltins x
 nolimit:base.NoLimit
structure Cx where
 prog:Rv
 w:Rf
 K:Qr
 mg:Str->Option Qt
 base:Heap
 A:R9
 N:List Str
 s₀:QC
 H₀:Hp
 env:Env
 outer:List Env
 stack:List Env
 ex:List Addr
 fn:Str->Bool
 calm:Bool
 pn:List (Addr×Obj)
 xe:Qt->QC->Prop
noncomputable def fT (l:List Env):List Addr:=l.filterMap (·.frame)
abbrev Cx.fs (X:Cx):List Addr:=fT X.outer
def Bp (sc:Scope)(x:Str):Prop:=sc.names.lookup x=some .local\/sc.names.lookup x=some .cell\/sc.names.lookup x=some .free
def Loc (sc:Scope)(x:Str):Prop:=sc.names.lookup x=some .local\/sc.names.lookup x=some .cell
def Look (env:Env)(h:Heap)(m:Str->Option Qt)(x:Str)(u:Qt):Prop:=
 (env.kindOf x=some .local/\m x=some u)\/((env.kindOf x=some .cell\/env.kindOf x=some .free)/\∃c,env.cells.lookup x=some c/\h.IsCell c (some u))
structure Cx.Ok (X:Cx):Prop where
 mod:Mod X.K X.mg X.base
 kind:X.env.scope.kind=.function
 glob:X.env.globals=mainGlobals
 blt:X.env.builtins=builtinsNs
 above:X.s₀.heap.objs.size<=X.env.locals
 inj:∀x y c,X.env.cells.lookup x=some c->X.env.cells.lookup y=some c->x=y
 has:∀x,(X.env.kindOf x=some .cell\/X.env.kindOf x=some .free)->∃c,X.env.cells.lookup x=some c
 cab:∀x c,X.fn x=true->X.env.cells.lookup x=some c->X.s₀.heap.objs.size<=c
 hd:X.calm=true->X.A.handled=none
 frames:X.A.frames=some X.stack
 stk:X.stack=X.outer\/(X.stack=X.env::X.outer/\X.env.frame=some X.env.locals)
 exf:∀b∈X.ex,b≠X.env.locals/\∀x c,X.env.cells.lookup x=some c->c≠b
 bs:∀b o,X.base.get? b=some o->X.s₀.heap.get? b=some o/\X.H₀ b=none
 bsz:X.base.objs.size<=X.s₀.heap.objs.size
 noex:∀b o,X.base.get? b=some o->b∉X.ex
 exfs:∀b∈X.ex,b∉X.fs
 funs:X.s₀.heap.FunFrames X.base X.outer
 frf:∀b∈X.fs,X.H₀ b=none
structure Inv (X:Cx) (pins:List (Addr×Obj)) (σ:List (Option V)) (H:Hp) (s:QC):Prop where
 ok:X.Ok
 os:s.os=X.s₀.os
 bare:AllBare s.gens
 base:Un X.fs X.ex X.H₀ H X.s₀.heap s.heap
 loc:∃m,s.heap.Ns X.env.locals m/\∀(i:Nat) (x:Str) (v:V),X.N[i]?=some x->σ[i]?=some (some v)->Bp X.env.scope x->∃u,RelV v u/\Look X.env s.heap m x u
 cell:∀x c,X.env.cells.lookup x=some c->∃v,s.heap.IsCell c v
 free:H X.env.locals=none
 freeC:∀x c,X.env.cells.lookup x=some c->H c=none
 pin:∀p∈X.pn++pins,s.heap.get? p.1=some p.2/\H p.1=none/\p.1≠X.env.locals/\p.1∉X.fs/\∀v,p.2.data≠.cell v
 hok:d7 X.prog X.w H s.heap
 len:σ.length=X.N.length
section
variable{X:Cx}{pins:List (Addr×Obj)}{σ:List (Option V)}{H H':Hp}{s:QC}{h':Heap}
def Cx.Ok.nofr (ok:X.Ok)(e:X.base.get? b=some o):b∉X.fs:=λj=>by
 have:=(ok.funs.mem j).1;rw[e] at this;cases this
def Inv.bs (I:Inv X pins σ H s):∀b o,X.base.get? b=some o->s.heap.get? b=some o/\H b=none:=λb o e=>
 {I.base.keep b o (I.ok.bs b o e).1 (I.ok.bs b o e).2 (I.ok.nofr e) (I.ok.noex b o e),I.base.free b o (I.ok.bs b o e).1 (I.ok.bs b o e).2 (I.ok.noex b o e)}
def Inv.bk (I:Inv X pins σ H s):∀b o,X.base.get? b=some o->s.heap.get? b=some o:=λb o e=>(I.bs b o e).1
def Inv.mod (I:Inv X pins σ H s):Mod X.K X.mg X.base:=I.ok.mod
def Inv.kIn (I:Inv X pins σ H s):X.K.In s.heap:=I.ok.mod.kin.keeps I.bk
def Inv.lt (I:Inv X pins σ H s):X.env.locals<s.heap.objs.size:=let{_,hn,_}:=I.loc;hn.lt
def Inv.sz (I:Inv X pins σ H s):X.s₀.heap.objs.size<=s.heap.objs.size:=QH I.ok.above (Sk I.lt)
def Inv.nofs (I:Inv X pins σ H s)(h:s.heap.objs.size<=a):a∉X.fs:=λj=>by
 obtain⟨_,o,ho,_⟩:=I.ok.funs.mem j;exact absurd (QL (QO ho) (QH I.sz h)) (RM _)
def Inv.cne (I:Inv X pins σ H s):∀x c,X.env.cells.lookup x=some c->c≠X.env.locals:=λx c e z=>by
 obtain⟨v,o,ho,hd⟩:=I.cell x c e;obtain⟨m,⟨o',es,B,y,j,_⟩,_⟩:=I.loc;rw[z,y] at ho;cases ho;rw[j] at hd;cases hd
def Inv.funs (I:Inv X pins σ H s):s.heap.FunFrames X.base X.outer:=by
 have all:∀(l:List Env),(∀b∈fT l,b∈X.fs)->X.s₀.heap.FunFrames X.base l->s.heap.FunFrames X.base l:=by
  intro l;induction l with
  |nil=>intro _ _;trivial
  | cons env r B=>
    intro hs hl;obtain⟨hk,⟨L,o,hf,hn,ho,hd⟩,hr⟩:=hl;have j:=hs L (by unfold fT;rw[List.filterMap_cons,hf];exact QS)
    obtain⟨sl,e⟩:=I.base.slot L o ho (I.ok.frf L j) j λz=>I.ok.exfs L z j;exact{hk,{L,_,hf,hn,e,hd},B (λb y=>hs b (by unfold fT;rw[List.filterMap_cons,hf];exact QD _ y)) hr}
 exact all X.outer (λ_ y=>y) I.ok.funs
def Inv.stack (I:Inv X pins σ H s):s.heap.FunFrames X.base X.stack:=by
 rcases I.ok.stk with e|⟨e,hf⟩
 ·rw[e];exact I.funs
 ·rw[e];obtain⟨m,hn,_⟩:=I.loc;refine .cons (by rw[I.ok.kind];decide) hf hn ?_ I.funs
  exact Heap.get?_none_of_le (QH I.ok.bsz I.ok.above)
def Inv.stkSub (I:Inv X pins σ H s):∀b∈fT X.stack,b∈X.env.locals::X.fs:=λb j=>by
 rcases I.ok.stk with e|⟨e,hf⟩
 ·rw[e] at j;exact QD _ j
 ·rw[e] at j;unfold fT at j;rw[List.filterMap_cons,hf] at j;exact j
def Inv.stkFree (I:Inv X pins σ H s):∀b∈fT X.stack,H b=none:=λb j=>by
 rcases Rg.mp (I.stkSub b j) with e|j
 ·rw[e];exact I.free
 ·obtain⟨_,o,ho,_⟩:=I.ok.funs.mem j;exact I.base.free b o ho (I.ok.frf b j) λz=>I.ok.exfs b z j
def Inv.step {ch:List Addr}(I:Inv X pins σ H s)
 (B:∀b∈ch,(b∈X.ex\/X.s₀.heap.objs.size<=b)/\b≠X.env.locals/\(∀x c,X.env.cells.lookup x=some c->c≠b)/\∀p∈X.pn++pins,p.1≠b)
 (keep:∀b o,b≠X.env.locals->b∉X.fs->b∉ch->s.heap.get? b=some o->H b=none->h'.get? b=some o)
 (slot:∀b o,b≠X.env.locals->b∈X.fs->b∉ch->s.heap.get? b=some o->H b=none->∃sl,h'.get? b=some {o with slots:=sl}) (free:∀b o,b∉ch->s.heap.get? b=some o->H b=none->H' b=none)
 (there:∀b o,b∉ch->s.heap.get? b=some o->∃o',h'.get? b=some o')
 (tups:∀b xs,H b=some (.tup xs)->H' b=some (.tup xs)) (frzs:∀b o u,H b=some (.frz o u)->H' b=some (.frz o u)) (tbls:∀b ps,H b=some (.tbl ps)->∃more,H' b=some (.tbl (ps++more)))
 (ns:∀m,s.heap.Ns X.env.locals m->h'.Ns X.env.locals m) (hok:d7 X.prog X.w H' h') (Y:AllBare g') :
 Inv X pins σ H' {s with heap:=h',gens:=g',drawn:=d',toks:=t'}:=by
 have M:∀b o,X.s₀.heap.get? b=some o->b≠X.env.locals:=λb o e=>Q1 (QL (QO e) I.ok.above);have J:∀b o,X.s₀.heap.get? b=some o->b∉X.ex->b∉ch:=λb o e j L=>by
  rcases(B b L).1 with z|z
  ·exact j z
  ·exact absurd (QL (QO e) z) (RM _)
 have y:∀x c,X.env.cells.lookup x=some c->∀v,s.heap.IsCell c v->h'.IsCell c v:=λx c e v ⟨o,ho,hd⟩=>by
  have F:=λz=>(B c z).2.2.1 x c e rfl;by_cases R:c∈X.fs
  ·obtain⟨sl,q⟩:=slot c o (I.cne x c e) R F ho (I.freeC x c e);exact{_,q,hd}
  ·exact{o,keep c o (I.cne x c e) R F ho (I.freeC x c e),hd}
 refine{I.ok,I.os,Y,{λb o e n L j=>?_,λb o e n L j=>?_,λb o e n j=>?_,λb o e j=>?_,λb xs e=>tups b xs (I.base.tups b xs e),λb o xs e=>frzs b o xs (I.base.frzs b o xs e),λb ps e=>?_},?_,λx c e=>?_,?_,λx c e=>?_,λp S=>?_,hok,I.len}
 ·exact keep b o (M b o e) L (J b o e j) (I.base.keep b o e n L j) (I.base.free b o e n j)
 ·obtain⟨sl,e1⟩:=I.base.slot b o e n L j;obtain⟨O,e2⟩:=slot b _ (M b o e) L (J b o e j) e1 (I.base.free b o e n j);exact⟨O,e2⟩
 ·obtain⟨o',e1⟩:=I.base.there b o e j;exact free b o' (J b o e j) e1 (I.base.free b o e n j)
 ·obtain⟨o',e1⟩:=I.base.there b o e j;exact there b o' (J b o e j) e1
 ·obtain⟨m1,e1⟩:=I.base.tbls b ps e;obtain⟨m2,e2⟩:=tbls b _ e1;exact{m1++m2,by rw[e2,Array.append_assoc]}
 ·obtain⟨m,hn,hl⟩:=I.loc;refine{m,ns m hn,λi x v e1 e2 W=>?_};obtain⟨u,r,l⟩:=hl i x v e1 e2 W;refine{u,r,?_};rcases l with l|⟨k,c,e,z⟩
  ·exact .inl l
  ·exact .inr {k,c,e,y x c e _ z}
 ·obtain⟨v,z⟩:=I.cell x c e;exact{v,y x c e v z}
 ·obtain⟨m,⟨o,_,_,ho,_⟩,_⟩:=I.loc;exact free _ o (λz=>(B _ z).2.1 rfl) ho I.free
 ·obtain⟨v,o,ho,hd⟩:=I.cell x c e;exact free c o (λz=>(B c z).2.2.1 x c e rfl) ho (I.freeC x c e)
 ·obtain⟨e,n,ne,U,d⟩:=I.pin p S;have F:=λz=>(B p.1 z).2.2.2 p S rfl;exact{keep p.1 p.2 ne U F e n,free p.1 p.2 F e n,ne,U,d}
def Inv.un {t':Nat}(I:Inv X pins σ H s)(u:Un X.fs [] H H' s.heap h')(hok:d7 X.prog X.w H' h'):Inv X pins σ H' {s with heap:=h',toks:=t'}:=by
 obtain⟨m,⟨o,es,M,ho,r⟩,_⟩:=id I.loc;obtain⟨sl,J⟩:=u.any ho I.free `s
 exact I.step (ch:=[]) (λ_ z=>nomatch z) (λb o _ F _ e n=>u.keep b o e n F `s) (λb o _ F _ e n=>u.slot b o e n F `s) (λb o _ e n=>u.free b o e n `s) (λb o _ e=>u.there b o e `s) u.tups u.frzs u.tbls (λO hm=>by
  obtain⟨o',B,y,j,L⟩:=hm;rw[ho] at j;cases j;exact{_,B,y,J,L}) hok I.bare
def Inv.call {M:Drawn}{ch:List Addr}(I:Inv X pins σ H s)(u:Un (fT X.stack) ch H H' s.heap h')(hok:d7 X.prog X.w H' h')(R:AllBare g')
 (y:∀b∈ch,(b∈X.ex\/X.s₀.heap.objs.size<=b)/\b≠X.env.locals/\(∀x c,X.env.cells.lookup x=some c->c≠b)/\∀p∈X.pn++pins,p.1≠b) :
 Inv X pins σ H' {s with heap:=h',gens:=g',drawn:=M,toks:=t'}:=by
 obtain⟨m,⟨o,es,U,ho,r⟩,_⟩:=id I.loc;obtain⟨sl,L⟩:=u.any ho I.free λz=>(y _ z).2.1 rfl;exact I.step y (λb o L O j e n=>u.keep b o e n (λz=>(Rg.mp (I.stkSub b z)).elim L O) j) (λb o _ _ j e n=>u.any e n j) (λb o j e n=>u.free b o e n j) (λb o j e=>u.there b o e j) u.tups u.frzs u.tbls (λW hm=>by
  obtain⟨o',J,F,B,S⟩:=hm;rw[ho] at B;cases B;exact{_,J,F,L,S}) hok R
def Inv.turned {j:Addr}(I:Inv X pins σ H s)(k:∀b o,b≠j->s.heap.get? b=some o->h'.get? b=some o)(hn:H j=none)(F:j≠X.env.locals)
 (h1:j∈X.ex\/X.s₀.heap.objs.size<=j) (h2:∀x c,X.env.cells.lookup x=some c->c≠j) (h3:∀p∈X.pn++pins,p.1≠j):Inv X pins σ H {s with heap:=h',toks:=t'}:=by
 have B:∀b u,H b=some u->b≠j:=λb u e z=>by rw[z,hn] at e;cases e
 refine I.step (ch:=[j]) (λb L=>?_) (λb o _ _ y e _=>k b o (λz=>y (by simp[z])) e) (λb o _ _ y e _=>{o.slots,k b o (λz=>y (by simp[z])) e}) (λ_ _ _ _ n=>n)
  (λb o y e=>{o,k b o (λz=>y (by simp[z])) e}) (λ_ _ e=>e) (λ_ _ _ e=>e) (λb ps e=>{#[],by rw[e];simp}) (λm hm=>?_) (λb u e=>?_) I.bare
 ·have e:b=j:=by simpa using L
  subst e;exact⟨h1,F,h2,h3⟩
 ·obtain⟨o,es,J,ho,r⟩:=hm;exact{o,es,J,k _ o (RF F) ho,r}
 ·refine(I.hok b u e).stay (λc v y q=>k c v ?_ q) (λ_ q=>q) λ_ _ q=>q;rcases y with z|z
  ·rw[z];exact B b u e
  ·exact B c _ z
def Inv.tok (I:Inv X pins σ H s)(t:Nat):Inv X pins σ H {s with toks:=t}:=I.un Un.refl I.hok
def Inv.kept (I:Inv X pins σ H s)(k:∀b u,s.heap.get? b=some u->h'.get? b=some u):Inv X pins σ H {s with heap:=h',toks:=t'}:=I.un (Un.kept k) (I.hok.kept k)
def Inv.laid (I:Inv X pins σ H s)(k:∀b u,s.heap.get? b=some u->h'.get? b=some u)(j:s.heap.objs.size<=a)(new:eA X.prog X.w (upd H a o) h' a o) :
 Inv X pins σ (upd H a o) {s with heap:=h',toks:=t'}:=I.un (Un.laid k j (I.hok.fresh j)) (I.hok.laid k j new)
def Inv.write (I:Inv X pins σ H s)(mu:Fx (H x))(he:e=x\/H e=some (.own x))(k:∀b u,b≠e->s.heap.get? b=some u->h'.get? b=some u)(j:∃u,h'.get? e=some u)
 (new:eA X.prog X.w (upd H x o) h' x o):Inv X pins σ (upd H x o) {s with heap:=h',toks:=t'}:=I.un (Un.write mu he k j) (I.hok.write mu he k j new)
def Inv.pins_of (I:Inv X pins σ H s)(h:∀p∈j,s.heap.get? p.1=some p.2/\H p.1=none/\p.1≠X.env.locals/\p.1∉X.fs/\∀v,p.2.data≠.cell v):Inv X j σ H s:=
 {I.ok,I.os,I.bare,I.base,I.loc,I.cell,I.free,I.freeC,λp y=>(QR.mp y).elim (λz=>I.pin p (RD _ z)) (h p),I.hok,I.len}
def oH {N:List Str}(y:N.Nodup){i j:Nat}(a:N[i]?=some x)(b:N[j]?=some x):i=j:=by
 obtain⟨h1,e1⟩:=Qs.mp a;obtain⟨h2,e2⟩:=Qs.mp b;exact(List.getElem_inj y).mp (e1.trans e2.symm)
def rM {M:Model}(I:Inv X pins σ H s)(hN:X.N.Nodup)(hi:X.N[i]?=some x)(J:Loc X.env.scope x)(r:RelV v u)
 (h:∀s',Inv X pins (σ.set i (some v)) H s'->(∃a,R5 a s.heap s'.heap/\(a=X.env.locals\/X.env.cells.lookup x=some a))->Q () s') (hf:X.fn x=true\/X.env.scope.names.lookup x=some .local:=by first|exact .inl rfl|exact .inr rfl|assumption):wpAny M A (storeName X.env x u) Q E s:=by
 obtain⟨m,hn,hl⟩:=id I.loc;have hcls:(X.env.scope.kind==.class||(X.env.scope.kind==.module&&X.env.locals != X.env.globals))=false:=by rw[I.ok.kind];rfl
 have O:i<σ.length:=by rw[I.len];exact(Qs.mp hi).1
 have cne:=I.cne;have B:∀{a:Addr}{h':Heap},(∃o,s.heap.get? a=some o/\H a=none)->R5 a s.heap h'->d7 X.prog X.w H h':=λ{a h'} ha hs b ob e=>by
  obtain⟨_,_,L⟩:=ha;refine(I.hok b ob e).stay (λc w' F q=>(hs.2 c ?_).trans q) (λ_ q=>q) λ_ _ q=>q;rintro rfl;rcases F with rfl|F
  ·rw[L] at e;cases e
  ·rw[L] at F;cases F
 rcases J with hk|hk
 ·refine wpAny_storeName_local hk hn (λh' hn' hs=>?_) hcls;obtain⟨oL,_,_,hoL,_⟩:=id hn;refine h _ {I.ok,I.os,I.bare,{λb o e n R J=>?_,λb o e n R J=>?_,I.base.free,λb o e J=>?_,I.base.tups,I.base.frzs,I.base.tbls},{_,hn',λj y v' e1 e2 e3=>?_},λy c e=>?_,I.free,I.freeC,λp hp=>?_,B ⟨oL,hoL,I.free⟩ hs,by simpa using I.len} {_,hs,.inl rfl}
  ·exact(hs.2 b (Q1 (QL (QO e) I.ok.above))).trans (I.base.keep b o e n R J)
  ·obtain⟨sl,e1⟩:=I.base.slot b o e n R J;exact{sl,(hs.2 b (Q1 (QL (QO e) I.ok.above))).trans e1}
  ·obtain⟨o',e1⟩:=I.base.there b o e J;exact{o',(hs.2 b (Q1 (QL (QO e) I.ok.above))).trans e1}
  ·by_cases U:j=i
   ·subst U;rw[hi] at e1;cases e1;rw[QI O] at e2;cases e2;exact{u,r,.inl {hk,`s}}
   ·rw[Qv (RF U)] at e2;obtain⟨u',r',q⟩:=hl j y v' e1 e2 e3;refine{u',r',?_};rcases q with⟨k,e⟩|⟨k,c,e,z⟩
    ·refine .inl {k,?_};have:y≠x:=λe=>U (oH hN e1 (e ▸ hi));simp[this,e]
    ·exact .inr {k,c,e,z.sameBut hs (cne y c e)}
  ·obtain⟨w',z⟩:=I.cell y c e;exact{w',z.sameBut hs (cne y c e)}
  ·obtain⟨e,n,ne,nf,d⟩:=I.pin p hp;exact{(hs.2 p.1 ne).trans e,n,ne,nf,d}
 ·have S:X.fn x=true:=by
   rcases hf with z|z
   ·exact z
   ·rw[z] at hk;cases hk
  obtain⟨c,F⟩:=I.ok.has x (.inl hk);obtain⟨w',z⟩:=I.cell x c F;refine wpAny_storeName_cell I.ok.kind hk F z (λh' W hs=>?_);obtain⟨oc,hoc,hocd⟩:=id z;refine h {s with heap:=h'} {I.ok,I.os,I.bare,{λb o e n R J=>?_,λb o e n R J=>?_,I.base.free,λb o e J=>?_,I.base.tups,I.base.frzs,I.base.tbls},{m,hn.sameBut hs (RF (cne x c F)),λj y v' e1 e2 e3=>?_},λy c' e=>?_,I.free,I.freeC,λp hp=>?_,B {oc,hoc,I.freeC x c F} hs,by simpa using I.len} {c,hs,.inr F}
  ·exact(hs.2 b (Q1 (QL (QO e) (I.ok.cab x c S F)))).trans (I.base.keep b o e n R J)
  ·obtain⟨sl,e1⟩:=I.base.slot b o e n R J;exact{sl,(hs.2 b (Q1 (QL (QO e) (I.ok.cab x c S F)))).trans e1}
  ·obtain⟨o',e1⟩:=I.base.there b o e J;exact{o',(hs.2 b (Q1 (QL (QO e) (I.ok.cab x c S F)))).trans e1}
  ·by_cases U:j=i
   ·subst U;rw[hi] at e1;cases e1;rw[QI O] at e2;cases e2;exact{u,r,.inr {.inl hk,c,F,W}}
   ·rw[Qv (RF U)] at e2;obtain⟨u',r',q⟩:=hl j y v' e1 e2 e3;refine{u',r',?_};rcases q with q|⟨k,c',e,z'⟩
    ·exact .inl q
    ·refine .inr {k,c',e,z'.sameBut hs ?_};rintro rfl;exact U (oH hN e1 (I.ok.inj _ _ _ e F ▸ hi))
  ·by_cases Y:c'=c
   ·subst Y;exact{_,W}
   ·obtain⟨w2,z2⟩:=I.cell y c' e;exact{w2,z2.sameBut hs Y}
  ·obtain⟨e,n,ne,nf,d⟩:=I.pin p hp;refine{(hs.2 p.1 ?_).trans e,n,ne,nf,d};intro q;rw[q,hoc] at e;have q':=Qz e;exact d w' (by rw[<- q'];exact hocd)
def tO (I:Inv X pins σ H s)(y:X.N.Nodup)(hi:X.N[i]?=some x)(z:Loc X.env.scope x)(r:RelV v u)
 (h:∀s',Inv X pins (σ.set i (some v)) H s'->Q () s') (hf:X.fn x=true\/X.env.scope.names.lookup x=some .local:=by first|exact .inl rfl|exact .inr rfl|assumption):wpAny M A (storeName X.env x u) Q E s:=
 rM I y hi z r (λs' j _=>h s' j) hf
def Inv.call' (I:Inv X pins σ H s)(ho:s'.os=s.os)(u:Un (fT X.stack) ch H H' s.heap s'.heap)(hok:d7 X.prog X.w H' s'.heap)(y:AllBare s'.gens)
 (j:∀b∈ch,(b∈X.ex\/X.s₀.heap.objs.size<=b)/\b≠X.env.locals/\(∀x c,X.env.cells.lookup x=some c->c≠b)/\∀p∈X.pn++pins,p.1≠b):Inv X pins σ H' s':=by
 obtain⟨h',B,z,F,o'⟩:=s';have e:=ho;subst e;exact I.call u hok y j
end
abbrev XK:=Qt->Option Addr->Hp->Prop
abbrev St:=List (Option V)
abbrev VK:=V->Hp->Prop
abbrev TE:=St->Hp->VK->Prop
abbrev TT:=St->Hp->(Bool->Hp->Prop)->Prop
abbrev TA:=St->Hp->(List V->Hp->Prop)->Prop
structure Ends where
 nx:St->Hp->Prop
 rt:VK
 bk:St->Hp->Prop:=λ_ _=>False
 ct:St->Hp->Prop:=λ_ _=>False
abbrev TS:=Ends->St->Hp->Prop
def EP (X:Cx)(pins:List (Addr×Obj))(σ:St)(Q:VK)(u:Qt)(s':QC):Prop:=∃v H',Inv X pins σ H' s'/\RelV v u/\Q v H'
def TP (X:Cx)(pins:List (Addr×Obj))(σ:St)(Q:Bool->Hp->Prop)(b:Bool)(s':QC):Prop:=∃H',Inv X pins σ H' s'/\Q b H'
def AP (X:Cx)(pins:List (Addr×Obj))(σ:St)(Q:List V->Hp->Prop)(us:List Qt)(s':QC):Prop:=∃j H',Inv X pins σ H' s'/\Vals j us/\Q j H'
def SP (X:Cx)(pins:List (Addr×Obj))(D:Ends)(f:Flow)(s':QC):Prop:=
 match f with
 |.next=>∃j H',Inv X pins j H' s'/\D.nx j H'
 |.brk=>∃j H',Inv X pins j H' s'/\D.bk j H'
 |.cont=>∃j H',Inv X pins j H' s'/\D.ct j H'
 |.ret u=>∃v j H',Inv X pins j H' s'/\RelV v u/\D.rt v H'
def PE (X:Cx)(e:Expr)(t:TE):Prop:=
 ∀(pins:List (Addr×Obj)) (s:QC) (σ:St) (H:Hp) (Q:VK),Inv X pins σ H s->t σ H Q->wpAny (model X.prog X.w) X.A (eval e X.env) (EP X pins σ Q) X.xe s
def PT (X:Cx)(e:Expr)(t:TT):Prop:=
 ∀(pins:List (Addr×Obj)) (s:QC) (σ:St) (H:Hp) (Q:Bool->Hp->Prop),Inv X pins σ H s->t σ H Q->wpAny (model X.prog X.w) X.A (isTrue e X.env (eval e X.env)) (TP X pins σ Q) X.xe s
def PW (X:Cx)(e:Expr)(t:TT):Prop:=
 ∀(whole:Sem Qt) (pins:List (Addr×Obj)) (s:QC) (σ:St) (H:Hp) (Q:Bool->Hp->Prop),Inv X pins σ H s->t σ H Q->wpAny (model X.prog X.w) X.A (isTrue e X.env whole) (TP X pins σ Q) X.xe s
def PW.pt (h:PW X e t):PT X e t:=h _
def PA (X:Cx)(es:List Expr)(t:TA):Prop:=
 ∀(pos:Pos) (pins:List (Addr×Obj)) (s:QC) (σ:St) (H:Hp) (Q:List V->Hp->Prop),Inv X pins σ H s->t σ H Q->wpAny (model X.prog X.w) X.A (spliced (backTo pos (starEach es X.env))) (AP X pins σ Q) X.xe s
def PS (X:Cx)(st:Stmt)(t:TS):Prop:=
 ∀(pins:List (Addr×Obj)) (s:QC) (σ:St) (H:Hp) (D:Ends),Inv X pins σ H s->t D σ H->wpAny (model X.prog X.w) X.A (exec st X.env) (SP X pins D) X.xe s
def kG (X:Cx)(st:List Stmt)(t:TS):Prop:=
 ∀(pins:List (Addr×Obj)) (s:QC) (σ:St) (H:Hp) (D:Ends),Inv X pins σ H s->t D σ H->wpAny (model X.prog X.w) X.A (execs st X.env) (SP X pins D) X.xe s
def aO {j:Type}{t:Sem j}{Q Q':j->QC->Prop}{M:Model}{A:R9}{E:Qt->QC->Prop}{s:QC}(h:wpAny M A t Q E s)(y:∀a s,Q a s->Q' a s):wpAny M A t Q' E s:=wpAny_mono h y λ_ _ x=>x
section
variable{X:Cx}
def OD (i:Nat):TE:=λσ H Q=>∃v,σ[i]?=some (some v)/\Q v H
def tC (v:V):TE:=λ_ H Q=>Q v H
def Ag (F:X.N[i]?=some x)(J:Bp X.env.scope x)(hd:(x==("__debug__":Str))=false:=by decide)(z:(x==("__classdict__":Str))=false:=by decide):PE X (.Name x pos) (OD i):=by
 intro pins s σ H Q I h;obtain⟨v,e,h⟩:=h;obtain⟨m,hn,hl⟩:=I.loc;obtain⟨u,r,l⟩:=hl i x v F e J;have y:EP X pins σ Q u s:=⟨v,H,I,r,h⟩;rcases l with⟨hk,hm⟩|⟨hk,c,B,j⟩
 ·exact wpAny_Name (wpAny_loadName_local I.ok.kind hk hn hm y) hd
 ·rcases hk with hk|hk
  ·exact wpAny_Name (wpAny_loadName_cell I.ok.kind hk B j y) hd
  ·exact wpAny_Name (wpAny_loadName_free I.ok.kind hk B j y z) hd
def Ka {i j pos}:PE X (.Constant (.int i) j pos) (tC (.int i)):=λ_ _ _ H _ I h=>wpAny_Constant_int {.int i,H,I.tok _,{_,rfl},h}
def xK {b j pos}:PE X (.Constant (.bool b) j pos) (tC (.bl b)):=λ_ _ _ H _ I h=>Constant_bool {.bl b,H,I,rfl,h}
def J8 {j pos}:PE X (.Constant .none j pos) (tC .non):=λ_ _ _ H _ I h=>Constant_none {.non,H,I,rfl,h}
def J5 {x j pos}:PE X (.Constant (.str x) j pos) (tC (.str x)):=λ_ _ _ H _ I h=>Calls.Constant_str {.str x,H,I.tok _,{_,rfl},h}
def Gl (X:Cx)(x:Str):Prop:=X.env.kindOf x=some .globalImplicit
def gy (I:Inv X pins σ H s)(j:Gl X x)(hm:X.mg x=some u)(h:Q u s)
 (hd:(x==("__debug__":Str))=false:=by decide):wpAny (model X.prog X.w) X.A (eval (.Name x pos) X.env) Q E s:=
 Calls.Name_function_global I.ok.kind j (Calls.loadGlobal_global (by rw[I.ok.glob];exact I.mod.glob.keeps I.bk) hm h) hd
def gV (I:Inv X pins σ H s)(j:Gl X x)(hm:X.mg x=none)(y:bootBuiltins x=some u)(h:Q u s)
 (hn:x≠"__name__":=by decide) (hd:(x==("__debug__":Str))=false:=by decide):wpAny (model X.prog X.w) X.A (eval (.Name x pos) X.env) Q E s:=by
 obtain⟨z,h1,h2⟩:=I.mod.blt;exact Calls.Name_function_global I.ok.kind j (Calls.loadGlobal_builtin (by rw[I.ok.glob];exact I.mod.glob.keeps I.bk) hm (by rw[I.ok.blt];exact h1.keeps I.bk) ((h2 x hn).trans y) h) hd
def hZ (j:Gl X x)(hm:X.mg x=some u)(r:RelV v u)(hd:(x==("__debug__":Str))=false:=by decide):PE X (.Name x pos) (tC v):=
 λ_ _ _ H _ I h=>gy I j hm ⟨v,H,I,r,h⟩ hd
def wm (j:Gl X x)(hm:X.mg x=none)(y:bootBuiltins x=some u)(r:RelV v u)(hn:x≠"__name__":=by decide)(hd:(x==("__debug__":Str))=false:=by decide):PE X (.Name x pos) (tC v):=
 λ_ _ _ H _ I h=>gV I j hm y ⟨v,H,I,r,h⟩ hn hd
variable{a b:Expr}{ta tb:TE}{pos:Pos}
variable{tA tB':TT}{rest:List Expr}
def dI (t u:TT):TT:=λσ H Q=>t σ H λc H1=>if c=true then u σ H1 Q else Q false H1
def fJ (t u:TT):TT:=λσ H Q=>t σ H λc H1=>if c=true then Q true H1 else u σ H1 Q
def bM (t:TT):TT:=λσ H Q=>t σ H λc H1=>Q (!c) H1
def GX (j:PT X a tA):PW X (.BoolOp .And [a] pos) tA:=by
 intro y pins s σ H Q I h;refine isTrue_and (aO (j pins s σ H Q I h) λc s1 e=>?_);cases c with
 |true=>exact isTrue_and_nil e
 |false=>exact e
def JV (j:PT X a tA):PW X (.BoolOp .Or [a] pos) tA:=by
 intro y pins s σ H Q I h;refine isTrue_or (aO (j pins s σ H Q I h) λc s1 e=>?_);cases c with
 |false=>exact isTrue_or_nil e
 |true=>exact e
def JW (z:PT X a tA)(B:PW X (.BoolOp .And (b::rest) pos) tB'):PW X (.BoolOp .And (a::b::rest) pos) (dI tA tB'):=by
 intro F pins s σ H Q I h;refine isTrue_and (aO (z pins s σ H _ I h) λc s1 ⟨H1,j,y⟩=>?_);cases c with
 |true=>exact B F pins s1 σ H1 Q j y
 |false=>exact⟨H1,j,y⟩
def MI (z:PT X a tA)(B:PW X (.BoolOp .Or (b::rest) pos) tB'):PW X (.BoolOp .Or (a::b::rest) pos) (fJ tA tB'):=by
 intro F pins s σ H Q I h;refine isTrue_or (aO (z pins s σ H _ I h) λc s1 ⟨H1,j,y⟩=>?_);cases c with
 |true=>exact⟨H1,j,y⟩
 |false=>exact B F pins s1 σ H1 Q j y
def JZ (j:PT X a tA):PT X (.UnaryOp .Not a pos) (bM tA):=by
 intro pins s σ H Q I h;exact isTrue_not (j pins s σ H (λc H1=>Q (!c) H1) I h)
def Mz (ta tb:TE):TE:=λσ H Q=>ta σ H λx H1=>∃c,x=.bl c/\if c=true then tb σ H1 Q else Q (.bl false) H1
def OH (ta tb:TE):TE:=λσ H Q=>ta σ H λx H1=>∃c,x=.bl c/\if c=true then Q (.bl true) H1 else tb σ H1 Q
def Mv (ta:TE):TE:=λσ H Q=>ta σ H λx H1=>∃c,x=.bl c/\Q (.bl (!c)) H1
def J6 {op}(h:PE X a t):PE X (.BoolOp op [a] pos) t:=λpins s σ H Q I j=>BoolOp_one (h pins s σ H Q I j)
def Kc (z:PE X a ta)(B:PE X (.BoolOp .And (b::rest) pos) tb):PE X (.BoolOp .And (a::b::rest) pos) (Mz ta tb):=by
 intro pins s σ H Q I h;refine BoolOp_and (aO (z pins s σ H _ I h) λv s1 ⟨x,H1,y,r1,j⟩=>?_);obtain⟨c,rfl,j⟩:=j;cases r1;refine tqp ?_;cases c with
 |true=>exact B pins s1 σ H1 Q y j
 |false=>exact{.bl false,H1,y,rfl,j}
def MM (z:PE X a ta)(B:PE X (.BoolOp .Or (b::rest) pos) tb):PE X (.BoolOp .Or (a::b::rest) pos) (OH ta tb):=by
 intro pins s σ H Q I h;refine BoolOp_or (aO (z pins s σ H _ I h) λv s1 ⟨x,H1,y,r1,j⟩=>?_);obtain⟨c,rfl,j⟩:=j;cases r1;refine tqp ?_;cases c with
 |false=>exact B pins s1 σ H1 Q y j
 |true=>exact{.bl true,H1,y,rfl,j}
def J7 (z:PE X a ta):PE X (.UnaryOp .Not a pos) (Mv ta):=by
 intro pins s σ H Q I h;refine UnaryOp_ (aO (z pins s σ H _ I h) λv s1 ⟨x,H1,y,r1,j⟩=>?_);obtain⟨c,rfl,j⟩:=j;cases r1;exact not_of (tqp {.bl (!c),H1,y,rfl,j})
def tIf (t:TT)(ta tb:TE):TE:=λσ H Q=>t σ H λc H1=>if c=true then ta σ H1 Q else tb σ H1 Q
def uj (F:PT X c tA)(z:PE X a ta)(B:PE X b tb):PE X (.IfExp c a b pos) (tIf tA ta tb):=by
 intro pins s σ H Q I h;refine wpAny_IfExp (aO (F pins s σ H _ I h) λd s1 ⟨H1,j,y⟩=>?_);cases d with
 |true=>exact z pins s1 σ H1 Q j y
 |false=>exact B pins s1 σ H1 Q j y
end
def cF (K:Qr)(H:Hp)(a:Addr)(xs:List V):Prop:=
 Rd H a (.lst xs)\/
  ∃(o:Obj) (j:Array Qt) (n:Nat),K.lookup a=some o/\o.cls=.type "list"/\o.dict=none/\o.data=.seq j n/\j.size<=sizeLine/\Vals xs j.toList
def dD (K:Qr)(H:Hp)(a:Addr)(xs:List V):Prop:=
 Rd H a (.tup xs)\/
  ∃(o:Obj) (j:Array Qt) (n:Nat),K.lookup a=some o/\o.cls=.type "tuple"/\o.data=.seq j n/\j.size<=sizeLine/\Vals xs j.toList
noncomputable def PX:Qt->Option V
 |.none=>some .non
 |.bool b=>some (.bl b)
 |.int i _=>some (.int i)
 |.str x _=>some (.str x)
 |.bytes b _=>some (.byt b)
 |.float b _=>some (.flt b)
 |.ref a=>some (.ref a)
 |.type n=>some (.ty n)
 |_=>none
def RelV.abs (r:RelV x u):PX u=some x:=by
 cases x with
 |non=>cases r;rfl
 |bl _=>cases r;rfl
 |int _=>obtain⟨t,rfl⟩:=r;rfl
 |str _=>obtain⟨t,rfl⟩:=r;rfl
 |byt _=>obtain⟨t,rfl⟩:=r;rfl
 |flt _=>obtain⟨t,rfl⟩:=r;rfl
 |ref _=>cases r;rfl
 |ty _=>cases r;rfl
def RelV.inj (r:RelV x u)(q:RelV y u):x=y:=Qz (r.abs.symm.trans q.abs)
def Vals.inj:∀{xs ys:List V}{us:List Qt},Vals xs us->Vals ys us->xs=ys
 |_,_,_,.nil,.nil=>rfl
 |_,_,_,.cons r t,.cons j y=>by rw[r.inj j,Vals.inj t y]
section
variable{X:Cx}{pins:List (Addr×Obj)}{σ:St}{H:Hp}{s:QC}{a:Addr}{xs ys:List V}
def cF.of {K:Qr}(h:H a=some (.lst xs)):cF K H a xs:=.inl (.inl h)
def dD.of {K:Qr}(h:H a=some (.tup xs)):dD K H a xs:=.inl (.inl h)
def Inv.list (I:Inv X pins σ H s)(h:cF X.K H a xs):∃j:List Qt,Vals xs j/\PlainL s.heap a j.toArray/\xs.length<=sizeLine:=by
 rcases h with h|⟨o,j,n,hk,y,hd,hs,B,r⟩
 ·obtain⟨z,j,n,r,e⟩:=h.ok I.hok;exact{j,r,{_,n,e,rfl,rfl,rfl},z}
 ·refine{j.toList,r,{o,n,I.kIn a o hk,y,hd,by simpa using hs},?_}
  have e:=r.length;simp only[SA] at e;omega
def Inv.tuple (I:Inv X pins σ H s)(h:dD X.K H a xs):∃j:List Qt,Vals xs j/\IsTup s.heap a j.toArray/\xs.length<=sizeLine:=by
 rcases h with h|⟨o,j,n,hk,y,hs,B,r⟩
 ·obtain⟨z,j,r,p⟩:=h.ok I.hok;exact⟨j,r,p,z⟩
 ·refine{j.toList,r,{o,I.kIn a o hk,y,n,by simpa using hs},?_}
  have e:=r.length;simp only[SA] at e;omega
def Inv.list_inj (I:Inv X pins σ H s)(h:cF X.K H a xs)(h':cF X.K H a ys):xs=ys:=by
 obtain⟨y,r,⟨o,n,e,_,_,d⟩,_⟩:=I.list h;obtain⟨j,F,⟨o',J,B,_,_,z⟩,_⟩:=I.list h';rw[e] at B;cases B;rw[d] at z;injection z with d1 _
 have:y=j:=by simpa using congrArg Array.toList d1
 subst this;exact r.inj F
def Inv.tuple_inj (I:Inv X pins σ H s)(h:dD X.K H a xs)(h':dD X.K H a ys):xs=ys:=by
 obtain⟨y,r,⟨o,e,_,n,d⟩,_⟩:=I.tuple h;obtain⟨j,F,⟨o',B,_,J,z⟩,_⟩:=I.tuple h';rw[e] at B;cases B;rw[d] at z;injection z with d1 _
 have:y=j:=by simpa using congrArg Array.toList d1
 subst this;exact r.inj F
end
section
variable{X:Cx}{st:Stmt}{rest:List Stmt}{t u:TS}{e:Expr}{te:TE}{pos:Pos}
def El:TS:=λD σ H=>D.nx σ H
def OF (t u:TS):TS:=λD σ H=>t {D with nx:=u D} σ H
def GZ:kG X [] El:=λ_ _ σ H _ I h=>wpAny_execs_nil ⟨σ,H,I,h⟩
def Cy (h1:PS X st t)(h2:kG X rest u):kG X (st::rest) (OF t u):=by
 intro pins s σ H D I h;refine wpAny_execs_cons (aO (h1 pins s σ H {D with nx:=u D} I h) λf s1 q=>?_)
 cases f with
 | next=>
   obtain⟨j,H',y,q⟩:=q;exact h2 pins s1 j H' D y q
 |ret v=>exact q
 |brk=>exact q
 |cont=>exact q
def G1:PS X (.Pass pos) El:=λ_ _ σ H _ I h=>wpAny_Pass ⟨σ,H,I,h⟩
def Inv.quiet (I:Inv X pins σ H s):interactive X.env=false:=by simp[interactive,I.ok.kind]
def Mx (te:TE):TS:=λD σ H=>te σ H λ_ H1=>D.nx σ H1
def nj (he:PE X e te)(hs:swapsWith e none pos.line X.env=pure false:=by rfl):PS X (.Expr e pos) (Mx te):=by
 intro pins s σ H D I h;exact wpAny_Expr_any (aO (he pins s σ H _ I h) λv s1 ⟨x,H1,j,r1,y⟩=>⟨σ,H1,j,y⟩) I.quiet hs
def OG (te:TE):TS:=λD σ H=>te σ H D.rt
def Aa (he:PE X e te):PS X (.Return (some e) pos) (OG te):=by
 intro pins s σ H D I h;exact wpAny_Return_some (aO (he pins s σ H _ I h) λv s1 ⟨x,H1,j,r1,y⟩=>⟨x,σ,H1,j,r1,y⟩)
def Mr:TS:=λD _ H=>D.rt .non H
def G0:PS X (.Return none pos) Mr:=λ_ _ σ H _ I h=>wpAny_Return_none {.non,σ,H,I,rfl,h}
def OJ (c:TT)(t u:TS):TS:=λD σ H=>c σ H λb H1=>if b=true then t D σ H1 else u D σ H1
def MJ (F:PT X c tc)(z:kG X a t)(B:kG X b u):PS X (.If c a b pos) (OJ tc t u):=by
 intro pins s σ H D I h;refine wpAny_If (aO (F pins s σ H _ I h) λd s1 ⟨H1,j,y⟩=>?_);cases d with
 |true=>exact z pins s1 σ H1 D j y
 |false=>exact B pins s1 σ H1 D j y
end
abbrev TG:=V->St->Hp->(St->Hp->Prop)->Prop
abbrev xo:=List V->St->Hp->(St->Hp->Prop)->Prop
def PG (X:Cx)(j:Expr)(t:TG):Prop:=
 ∀(pins:List (Addr×Obj)) (s:QC) (σ:St) (H:Hp) (v:V) (u:Qt) (Q:St->Hp->Prop),Inv X pins σ H s->RelV v u->t v σ H Q->
  wpAny (model X.prog X.w) X.A (assign j X.env u) (λ_ s'=>∃y H',Inv X pins y H' s'/\Q y H') X.xe s
def vE (X:Cx)(ts:List Expr)(t:xo):Prop:=
 ∀(pins:List (Addr×Obj)) (s:QC) (σ:St) (H:Hp) (z:List V) (y:List Qt) (Q:St->Hp->Prop),Inv X pins σ H s->Vals z y->t z σ H Q->
  wpAny (model X.prog X.w) X.A (assignInOrder ((assignEach ts X.env).map (·.2)) y) (λ_ s'=>∃j H',Inv X pins j H' s'/\Q j H') X.xe s
abbrev DD:=V->V->V->Hp->(Hp->Prop)->Prop
def DH (X:Cx)(t:DD):Prop:=
 ∀(pins:List (Addr×Obj)) (s:QC) (σ:St) (H:Hp) (o i v:V) (y j u:Qt) (Q:Hp->Prop),Inv X pins σ H s->RelV o y->RelV i j->RelV v u->t o i v H Q->
  wpAny (model X.prog X.w) X.A (setItem y j u) (λ_ s'=>∃H',Inv X pins σ H' s'/\Q H') X.xe s
section
variable{X:Cx}{pos:Pos}
def Nc (i:Nat):TG:=λv σ H Q=>Q (σ.set i (some v)) H
def qD (y:X.N.Nodup)(hi:X.N[i]?=some x)(z:Loc X.env.scope x)(hf:X.fn x=true\/X.env.scope.names.lookup x=some .local:=by first|exact .inl rfl|exact .inr rfl|assumption):PG X (.Name x pos) (Nc i):=by
 intro pins s σ H v u Q I r h;exact wpAny_assign_Name (tO I y hi z r (λs' j=>{_,H,j,h}) hf)
noncomputable def bH:xo:=λj σ H Q=>j=[]/\Q σ H
def c6 (t:TG)(u:xo):xo:=λy σ H Q=>∃v r,y=v::r/\t v σ H λj H'=>u r j H' Q
def wh:vE X [] bH:=by
 intro pins s σ H y j Q I r h;obtain⟨e,h⟩:=h;subst e;cases r;exact assignInOrder_nil ⟨σ,H,I,h⟩
def oG (h1:PG X e t)(h2:vE X es u)
 (hs:(assignEach (e::es) X.env).map (·.2)=assign e X.env::(assignEach es X.env).map (·.2):=by rfl):vE X (e::es) (c6 t u):=by
 intro pins s σ H J F Q I r h;obtain⟨v,vr,e1,h⟩:=h;subst e1;cases r with
 | cons r B=>
   rw[hs];refine assignInOrder_cons (aO (h1 pins s σ H _ _ _ I r h) λ_ s1 ⟨j,H1,y,z⟩=>?_);exact h2 pins s1 j H1 _ _ Q y B z
def bW (K:Qr)(n:Nat)(t:xo):TG:=λv σ H Q=>∃a xs,v=.ref a/\dD K H a xs/\xs.length=n/\t xs σ H Q
def uh (F:X.calm=true)(h:vE X es t)
 (hn:(assignEach es X.env).length=n:=by rfl) (j:(assignEach es X.env).findIdx? (·.1)=none:=by rfl):PG X (.Tuple es k pos) (bW X.K n t):=by
 intro pins s σ H v u Q I r y;obtain⟨a,xs,e1,J,hl,y⟩:=y;subst e1;cases r;obtain⟨O,z,L,R⟩:=I.tuple J;refine assign_Tuple_tuple (I.ok.hd F) L (by simp[hn,<- hl,z.length]) j λh' M=>?_
 have B:=I.kept (t':=s.toks) λb o e=>M b o (Q1 (QO e)) e;exact h pins _ σ H xs _ Q B (by simpa using z) y
def Pw (to y:TE)(t:DD):TG:=λv σ H Q=>to σ H λo H1=>y σ H1 λi H2=>t o i v H2 λj=>Q σ j
def Af (ho:PE X o to)(hi:PE X i ti)(hs:DH X t)
 (M:∀v,assign (.Subscript o i pos) X.env v=(do
  let j <- holding [v] (eval o X.env)
  let z <- holding [v,j] (eval i X.env)
  standAt pos
  holding [v,j,z] (setItem j z v)
  release [v,j,z] []):=by intro _;rfl):PG X (.Subscript o i pos) (Pw to ti t):=by
 intro pins s σ H v u Q I r h;rw[M];refine tqa (tqo (aO (ho pins s σ H _ I h) λj s1 ⟨x,H1,F,r1,O⟩=>?_));refine tqa (tqo (aO (hi pins s1 σ H1 _ F O) λz s2 ⟨y,H2,J,r2,R⟩=>?_));refine tqa (wpAny_standAt (tqa (tqo (aO (hs pins s2 σ H2 x y v j z u _ J r1 r2 r R) λ_ U ⟨B,L,S⟩=>?_))));exact wpAny_release ⟨σ,B,L,S⟩
def ON (te:TE)(g:TG):TS:=λD σ H=>te σ H λx H1=>g x σ H1 D.nx
def pF (he:PE X e te)(y:PG X tg g)(hs:swapsWithSole [tg] e pos.line X.env=pure false:=by rfl)(z:swappedStores [tg] e X.env=pure none:=by rfl)
 (h1:(assignEach [tg] X.env).map (·.2)=[assign tg X.env]:=by rfl):PS X (.Assign [tg] e pos) (ON te g):=by
 intro pins s σ H D I h;refine wpAny_Assign_stores (aO (he pins s σ H _ I h) λv s1 ⟨x,H1,j,r1,B⟩=>?_) hs z;rw[h1];exact aO (y pins s1 σ H1 x v _ j r1 B) λ_ s2 q=>q
end
section
variable{X:Cx}{pos:Pos}
def Jk (c:TT)(tb:TS):TS:=λD σ H=>∃W:Nat->St->Hp->Prop,(∃m,W m σ H)/\∀m σ H,W m σ H->
 c σ H λb H1=>if b=true then ∃N:St->Hp->Prop,(∀j H',N j H'->∃y,y<m/\W y j H')/\tb {D with nx:=N,ct:=N,bk:=D.nx} σ H1 else D.nx σ H1
def Cz (Y:PassesOwn (model X.prog X.w) X.A X.env X.xe)(hc:PT X c tc)(hb:kG X body tb):PS X (.While c body [] pos) (Jk tc tb):=by
 intro pins s σ H D I h;obtain⟨W,⟨m0,w0⟩,turn⟩:=h;refine wpAny_While (codeAny_whileLoop (λn s'=>∃B H',Inv X pins B H' s'/\W n B H') ?_ m0 ⟨σ,H,I,w0⟩);rintro n s1 ⟨y,H1,I1,w1⟩;refine wpAny_passesOwn Y (aO (hc pins s1 y H1 _ I1 (turn n y H1 w1)) λb s2 ⟨H2,S,F⟩=>?_);cases b with
 | true=>
   obtain⟨N,U,F⟩:=F;rw[if_pos rfl];refine wpAny_passesOwn Y (aO (hb pins s2 y H2 _ S F) λf s3 J=>?_);cases f with
   | next=>
     obtain⟨j,z,L,O⟩:=J;obtain⟨M,hm,R⟩:=U j z O;exact⟨M,hm,j,z,L,R⟩
   | cont=>
     obtain⟨j,z,L,O⟩:=J;obtain⟨M,hm,R⟩:=U j z O;exact⟨M,hm,j,z,L,R⟩
   |brk=>exact J
   |ret v=>exact J
 | false=>
   rw[if_neg QZ];exact wpAny_execs_nil ⟨y,H2,S,F⟩
end
structure It where
 go:Nat->Hp->Prop
 yld:Nat->Hp->V->Hp->Prop
 stop:Nat->Hp->Prop
def fz (X:Cx)(pins:List (Addr×Obj))(H:Hp)(b:Addr):Prop:=
 H b=none/\b≠X.env.locals/\b∉X.fs/\(b∈X.ex\/X.s₀.heap.objs.size<=b)/\(∀x c,X.env.cells.lookup x=some c->c≠b)/\∀p∈X.pn++pins,p.1≠b
def Inv.fpOk (I:Inv X pins σ H s)(j:s.heap.objs.size<=b)(hn:H' b=none):fz X pins H' b:=by
 refine{hn,Rn (QL I.lt j),I.nofs j,.inr (QH I.sz j),λx c e z=>?_,λp y z=>?_}
 ·obtain⟨v,q⟩:=I.cell x c e;exact absurd (QL q.lt (by rw[z];exact j)) (RM _)
 ·exact absurd (QL (QO (I.pin p y).1) (by rw[z];exact j)) (RM _)
structure Turn (P:Rv) (w:Rf) (K:Qr) (tg:Expr) (J:It) (fp:List Addr) (it:Addr) (tn:Nat->Heap->Prop):Prop where
 mem:it∈fp
 obj:∀i h,tn i h->∀b∈fp,∃o,h.get? b=some o/\∀v,o.data≠.cell v
 keep:∀i h h',tn i h->(∀b∈fp,∀o,h.get? b=some o->h'.get? b=some o)->tn i h'
 item:∀(X:Cx),X.prog=P->X.w=w->X.K=K->X.calm=true->∀(i:Nat) (pins:List (Addr×Obj)) (s:QC) (σ:St) (H:Hp) (E:Qt->QC->Prop),Inv X pins σ H s->(∀b∈fp,fz X pins H b)->tn i s.heap->J.go i H->
  wpAny (model P w) X.A (pyNext (.ref it)) (λr s1=>∃u,r=some u/\
   wpAny (model P w) X.A (letOwnedTupleGo tg (.ref it) u) (λ_ s2=>∃x H',Inv X pins σ H' s2/\RelV x u/\J.yld i H x H'/\tn (i+1) s2.heap/\∀b∈fp,H' b=none) E s1) E s
 done:∀(X:Cx),X.prog=P->X.w=w->X.K=K->X.calm=true->∀(i:Nat) (pins:List (Addr×Obj)) (s:QC) (σ:St) (H:Hp) (E:Qt->QC->Prop),Inv X pins σ H s->(∀b∈fp,fz X pins H b)->tn i s.heap->J.stop i H->
  wpAny (model P w) X.A (pyNext (.ref it)) (λr s1=>r=none/\Inv X pins σ H s1) E s
 self:∀(A:R9) (i:Nat) (s:QC) (Q:Qt->QC->Prop) (E:Qt->QC->Prop),tn i s.heap->Q (.ref it) s->wpAny (model P w) A (pyIter (.ref it)) Q E s
abbrev TI:=St->Hp->(It->Hp->Prop)->Prop
def Me (X:Cx)(pins:List (Addr×Obj))(σ:St)(tg:Expr)(R:It->Hp->Prop)(j:Qt)(s2:QC):Prop:=
 ∃(z:Addr) (y:List Addr) (B:Nat->Heap->Prop) (J:It) (H':Hp),j=.ref z/\Inv X pins σ H' s2/\Turn X.prog X.w X.K tg J y z B/\B 0 s2.heap/\(∀b∈y,fz X pins H' b)/\R J H'
def PI (X:Cx)(tg j:Expr)(y:TI):Prop:=
 ∀(pins:List (Addr×Obj)) (s:QC) (σ:St) (H:Hp) (R:It->Hp->Prop),Inv X pins σ H s->y σ H R->
  wpAny (model X.prog X.w) X.A (eval j X.env) (λv s1=>wpAny (model X.prog X.w) X.A (pyIter v) (Me X pins σ tg R) X.xe s1) X.xe s
def yj (ho:s.heap.get? it=some o)(y:o.cls=.type n)(hd:o.data=.fields vs)
 (hn:["enumerate","zip","dict_itemiterator","dict_reverseitemiterator","odict_iterator","itertools.zip_longest","itertools.pairwise"].contains n=false) (j:Q () s):wpAny M A (letOwnedTupleGo tg (.ref it) u) Q E s:=by
 cases tg<;>first
  |exact tqb j
  |(cases u<;>first
   |exact tqb j
   | (refine tqa (wpAny_load ho ?_)
      rw[y,hd];show wpAny M A (if (["enumerate","zip","dict_itemiterator","dict_reverseitemiterator","odict_iterator","itertools.zip_longest","itertools.pairwise"].contains n&&vs[0]?==some (rawInt _))=true then _ else _) Q E s;rw[if_neg (by intro h;rw[hn,Bool.false_and] at h;cases h)]
      exact tqb j))
def Mh (K:Qr)(a:Addr):It:=
 {λi H=>∃xs x,cF K H a xs/\xs[i]?=some x,λi H x H'=>H'=H/\∀xs,cF K H a xs->xs[i]?=some x,λi H=>∃xs,cF K H a xs/\xs.length<=i}
def Mg (K:Qr)(a:Addr):It:=
 {λi H=>∃xs x,dD K H a xs/\xs[i]?=some x,λi H x H'=>H'=H/\∀xs,dD K H a xs->xs[i]?=some x,λi H=>∃xs,dD K H a xs/\xs.length<=i}
def FA (lo:Int)(n:Nat):It:={λi _=>i<n,λi H x H'=>H'=H/\x=.int (lo+i),λi _=>n<=i}
def zk {K:Qr}(a y:Addr):Turn P w K tg (Mh K a) [y] y (λi h=>h.IsListIter y a i) where
 mem:=`s
 obj:=λi h st b j=>by
  have e:b=y:=by simpa using j
  subst e;obtain⟨o,e,c,d⟩:=st;exact{o,e,λv z=>by rw[d] at z;cases z}
 keep:=λi h h' st k=>st.at λo e=>k y `s o e
 item:=by
  intro X S Y R hc i pins s σ H E I hf st U;subst S Y R;obtain⟨xs,x,F,hx⟩:=U;obtain⟨its,rv,p,hz⟩:=I.list F;obtain⟨u,hu,ru⟩:=rv.get hx;obtain⟨J,f1,f2,L,M,O⟩:=hf y `s
  refine wpAny_pyNext_list_item st p.isList (by simpa using hu) λh' B sb=>?_
  have I1:=I.turned (t':=s.toks) (λb o j e=>(sb.2 b j).trans e) J f1 L M O;obtain⟨o,e,c,d⟩:=id B;exact{u,rfl,yj e c d `d {x,H,I1,ru,{rfl,λys hy=>by rw[I.list_inj hy F];exact hx},B,λb j=>(hf b j).1}}
 done:=by
  intro X S Y R hc i pins s σ H E I hf st U;subst S Y R;obtain⟨xs,F,hx⟩:=U;obtain⟨its,rv,p,hz⟩:=I.list F;obtain⟨J,f1,f2,L,M,O⟩:=hf y `s
  have hl:=rv.length;exact wpAny_pyNext_list_end (I.ok.hd hc) st p.isList `o λh' eb=>{rfl,I.turned (λb o j e=>eb b o j e) J f1 L M O}
 self:=λ_ _ _ _ _ st h=>wpAny_pyIter_listiter st h
def xv {K:Qr}(a y:Addr):Turn P w K tg (Mg K a) [y] y (λi h=>h.IsTupleIter y a i) where
 mem:=`s
 obj:=λi h st b j=>by
  have e:b=y:=by simpa using j
  subst e;obtain⟨o,e,c,d⟩:=st;exact{o,e,λv z=>by rw[d] at z;cases z}
 keep:=λi h h' st k=>st.at λo e=>k y `s o e
 item:=by
  intro X S Y R hc i pins s σ H E I hf st U;subst S Y R;obtain⟨xs,x,F,hx⟩:=U;obtain⟨its,rv,p,hz⟩:=I.tuple F;obtain⟨u,hu,ru⟩:=rv.get hx;obtain⟨J,f1,f2,L,M,O⟩:=hf y `s
  refine wpAny_pyNext_tuple_item st (p) (by simpa using hu) λh' B sb=>?_
  have I1:=I.turned (t':=s.toks) (λb o j e=>(sb.2 b j).trans e) J f1 L M O;obtain⟨o,e,c,d⟩:=id B;exact{u,rfl,yj e c d `d {x,H,I1,ru,{rfl,λys hy=>by rw[I.tuple_inj hy F];exact hx},B,λb j=>(hf b j).1}}
 done:=by
  intro X S Y R hc i pins s σ H E I hf st U;subst S Y R;obtain⟨xs,F,hx⟩:=U;obtain⟨its,rv,p,hz⟩:=I.tuple F;obtain⟨J,f1,f2,L,M,O⟩:=hf y `s
  have hl:=rv.length;exact wpAny_pyNext_tuple_end (I.ok.hd hc) st (p) `o λh' eb=>{rfl,I.turned (λb o j e=>eb b o j e) J f1 L M O}
 self:=λ_ _ _ _ _ st h=>wpAny_pyIter_tupleiter st h
def xw {K:Qr}(j:Addr)(lo:Int)(n:Nat):Turn P w K tg (FA lo n) [j] j (λi h=>IsRangeIter h j (lo+(i:Nat)*1) ((n:Int)-(i:Nat)) 1) where
 mem:=`s
 obj:=λi h st b y=>by
  have e:b=j:=by simpa using y
  subst e;exact{_,st,λv z=>by
   have z':=z;cases z'}
 keep:=λi h h' st k=>k j `s _ st
 item:=by
  intro X R Y O S i pins s σ H E I hf st U;subst R Y O;obtain⟨F,f1,f2,J,L,M⟩:=hf j `s
  have W:=Walks.range (prog:=X.prog) (w:=X.w) (I.ok.hd S) j lo 1 n;refine W.item i s _ _ U st λv h' tk hv B kk=>?_;obtain⟨t,rfl⟩:=hv;have I1:Inv X pins σ H {s with heap:=h',toks:=tk}:=I.turned (λb o y e=>kk b o (by simpa using y) e) F f1 J L M
  refine{_,rfl,yj B rfl rfl `d {.int (lo+i),H,I1,{t,?_},⟨rfl,rfl⟩,B,λb y=>(hf b y).1}}
  rw[Int.mul_one]
 done:=by
  intro X R Y O S i pins s σ H E I hf st U;subst R Y O;obtain⟨F,f1,f2,J,L,M⟩:=hf j `s
  exact wpAny_pyNext_range_end (I.ok.hd S) st (by have:n<=i:=U;omega) λh' eb=>{rfl,I.turned (λb o y e=>eb b o y e) F f1 J L M}
 self:=λ_ _ _ _ _ st h=>wpAny_pyIter_rangeiter st h
section
variable{X:Cx}{tg:Expr}
def Nb (K:Qr)(tl:TE):TI:=λσ H R=>tl σ H λx H1=>∃a,x=.ref a/\(∃xs,cF K H1 a xs)/\R (Mh K a) H1
def Pu (K:Qr)(tl:TE):TI:=λσ H R=>tl σ H λx H1=>∃a,x=.ref a/\(∃xs,dD K H1 a xs)/\R (Mg K a) H1
def G6 (hl:PE X l tl):PI X tg l (Nb X.K tl):=by
 intro pins s σ H R I h;refine aO (hl pins s σ H _ I h) λv s1 ⟨x,H1,j,r1,F⟩=>?_;obtain⟨a,e,⟨xs,z⟩,q⟩:=F;subst e;cases r1;obtain⟨B,L,p,J⟩:=j.list z;refine wpAny_pyIter_list p.isList ?_;refine{s1.heap.objs.size,[s1.heap.objs.size],_,_,H1,rfl,j.kept λb o e=>Qu _ e,zk a _,{_,QU _ rfl,rfl,rfl},λb y=>?_,q};have e:b=s1.heap.objs.size:=by simpa using y
 subst e;exact j.fpOk (QA _) (j.hok.fresh (QA _))
def J3 (hl:PE X l tl):PI X tg l (Pu X.K tl):=by
 intro pins s σ H R I h;refine aO (hl pins s σ H _ I h) λv s1 ⟨x,H1,j,r1,F⟩=>?_;obtain⟨a,e,⟨xs,z⟩,q⟩:=F;subst e;cases r1;obtain⟨B,L,p,J⟩:=j.tuple z;refine wpAny_pyIter_tuple (p) ?_;refine{s1.heap.objs.size,[s1.heap.objs.size],_,_,H1,rfl,j.kept λb o e=>Qu _ e,xv a _,{_,QU _ rfl,rfl,rfl},λb y=>?_,q};have e:b=s1.heap.objs.size:=by simpa using y
 subst e;exact j.fpOk (QA _) (j.hok.fresh (QA _))
def Cs {lo hi:Int}(I:Inv X pins σ H s)(h1:-(2^62)<=lo)(h2:lo<2^62)(h3:-(2^62)<=hi)(h4:hi<2^62)
 (q:R (FA lo (hi-lo).toNat) H):wpAny (model X.prog X.w) X.A (pyIter (.ref s.heap.objs.size)) (Me X pins σ tg R) E {s with heap:=s.heap.push {cls:=.type "range",data:=.fields #[.int lo t,.int hi u,.int 1 v]},toks:=tk}:=by
 refine wpAny_pyIter_range (IsRange.new ..) (small_one h1 h2 h3 h4) ?_;have j:Inv X pins σ H {s with heap:=s.heap.push {cls:=.type "range",data:=.fields #[.int lo t,.int hi u,.int 1 v]},toks:=tk}:=I.kept λb o e=>Qu _ e
 refine{(s.heap.push {cls:=.type "range",data:=.fields #[.int lo t,.int hi u,.int 1 v]}).objs.size,[(s.heap.push {cls:=.type "range",data:=.fields #[.int lo t,.int hi u,.int 1 v]}).objs.size],_,_,H,rfl,
  j.kept λb o e=>Qu _ e,xw _ lo (hi-lo).toNat,?_,λb y=>?_,q}
 ·have e1:lo+((0:Nat):Int)*1=lo:=`s
  have e2:(((hi-lo).toNat:Nat):Int)-((0:Nat):Int)=Builtin.Range.rangeSize lo hi 1:=by rw[rangeSize_one];split<;>omega
  rw[e1,e2];exact QU _ rfl
 ·have e:b=(s.heap.push {cls:=.type "range",data:=.fields #[.int lo t,.int hi u,.int 1 v]}).objs.size:=by simpa using y
  subst e;exact j.fpOk (QA _) (j.hok.fresh (QA _))
def Na (ta:TA):TI:=λσ H R=>ta σ H λy H1=>∃j:Int,y=[.int j]/\-(2^62)<=j/\j<2^62/\R (FA 0 j.toNat) H1
def Ae {ta:TA}{p pos:Pos}(F:Gl X "range")(hm:X.mg "range"=none)(B:PA X [a] ta)(hs:starEach [a] X.env=[(false,eval a X.env)]:=by rfl):PI X tg (.Call (.Name "range" p) [a] [] pos) (Na ta):=by
 intro pins s σ H R I h;refine Call_ (gV I F hm boot_range (RN (aO (B pos pins s σ H _ I h) λM s1 ⟨O,H1,z,r1,y⟩=>?_) hs rfl));obtain⟨j,e,y,J,q⟩:=y;subst e;cases r1 with
 | cons r L=>
   cases L;obtain⟨t,rfl⟩:=r;exact call_range_1 (Cs z `a `a y J (by simpa using q))
def OK (wi:TI)(g:TG)(tb:TS):TS:=λD σ H=>wi σ H λJ H1=>∃W:Nat->Nat->St->Hp->Prop,(∃m,W 0 m σ H1)/\∀i m σ H,W i m σ H->
 (J.stop i H/\D.nx σ H)\/(J.go i H/\∃N:St->Hp->Prop,(∀σ' H',N σ' H'->∃m',m'<m/\W (i+1) m' σ' H')/\∀x H',J.yld i H x H'->g x σ H' λσ2 H2=>tb {D with nx:=N,ct:=N,bk:=D.nx} σ2 H2)
noncomputable def pG (j:List Addr)(h:Heap):List (Addr×Obj):=j.filterMap λb=>(h.get? b).map λo=>(b,o)
def iR (j:b∈fp)(e:h.get? b=some o):(b,o)∈pG fp h:=List.mem_filterMap.mpr {b,j,by rw[e];rfl}
def Am (z:p∈pG fp h):p.1∈fp/\h.get? p.1=some p.2:=by
 obtain⟨b,y,e⟩:=List.mem_filterMap.mp z;cases q:h.get? b with
 |none=>rw[q] at e;cases e
 | some o=>
   rw[q] at e;have j:=Qz e;subst j;exact⟨y,q⟩
def Inv.pinned (I:Inv X pins σ H s)(hf:∀b∈y,fz X pins H b)(ho:∀b∈y,∃o,s.heap.get? b=some o/\∀v,o.data≠.cell v):Inv X (pins++pG y s.heap) σ H s:=
 I.pins_of λp L=>(QR.mp L).elim (λz=>I.pin p (Rb _ z)) λz=>by
  obtain⟨B,e⟩:=Am z;obtain⟨F,f1,J,_⟩:=hf p.1 B;obtain⟨o,j,d⟩:=ho p.1 B;rw[e] at j;cases j;exact⟨e,F,f1,J,d⟩
def Inv.unpinned (I:Inv X (pins++pl) σ H s):Inv X pins σ H s:=I.pins_of λp j=>I.pin p (Rb _ (RD _ j))
def J0 (hp:PassesOwn (model X.prog X.w) X.A X.env X.xe)(hc:X.calm=true)(hi:PI X tg iter wi)(hg:PG X tg g)(F:kG X body tb)
 (hs:∀x,foldedSetIterable iter X.env x=pure x:=by intro _;rfl):PS X (.For tg iter body [] pos) (OK wi g tb):=by
 intro pins s σ H D I h;refine wpAny_For (aO (hi pins s σ H _ I h) λv s1 h1=>aO h1 λitv s2 h2=>?_) hs;obtain⟨it,U,tn,J,H2,e,I2,T,st2,f2,W,⟨m0,w0⟩,turn⟩:=h2;subst e;have L:∀{H':Hp},(∀b∈U,H' b=none)->∀b∈U,fz X pins H' b:=λhn b F=>{hn b F,(f2 b F).2};refine codeAny_forLoop_any (λn s'=>∃i M H',Inv X pins M H' s'/\tn i s'.heap/\(∀b∈U,H' b=none)/\W i n M H') ?_ m0 {0,σ,H2,I2,st2,λb F=>(f2 b F).1,w0};rintro n s3 ⟨i,O,H3,I3,st3,Y,w3⟩;rcases turn i n O H3 w3 with⟨stop,qn⟩|⟨go,N,hN,step⟩
 ·refine wpAny_passesOwn hp (aO (T.done X rfl rfl rfl hc i pins s3 O H3 X.xe I3 (L Y) st3 stop) λr s4 ⟨hr,I4⟩=>?_);subst hr;exact wpAny_execs_nil ⟨O,H3,I4,qn⟩
 ·refine wpAny_passesOwn hp (aO (T.item X rfl rfl rfl hc i pins s3 O H3 X.xe I3 (L Y) st3 go) λr s4 ⟨u,hr,h4⟩=>?_);subst hr;refine wpAny_passesOwn hp (aO h4 λ_ s5 ⟨x,H5,I5,r5,y5,S,fr5⟩=>?_);have I5':=I5.pinned (L fr5) (T.obj _ _ S);refine wpAny_passesOwn hp (aO (hg _ s5 O H5 x u _ I5' r5 (step x H5 y5)) λ_ s6 ⟨σ6,H6,I6,q6⟩=>?_);refine wpAny_passesOwn hp (aO (F _ s6 σ6 H6 _ I6 q6) λf s7 R=>?_);have B:∀{j:St}{y:Hp},Inv X (pins++pG U s5.heap) j y s7->N j y->∃m,m<n/\∃i M H',Inv X pins M H' s7/\tn i s7.heap/\(∀b∈U,H' b=none)/\W i m M H':=λ{j y} z n7=>by
   obtain⟨m',hm,w7⟩:=hN j y n7;refine{m',hm,i+1,j,y,z.unpinned,T.keep _ _ _ S λb F o e=>(z.pin (b,o) (Rb _ (Rb _ (iR F e)))).1,λb F=>?_,w7};obtain⟨o,e,d⟩:=T.obj _ _ S b F;exact(z.pin (b,o) (Rb _ (Rb _ (iR F e)))).2.1
  cases f with
  |next=>obtain⟨j,y,z,n7⟩:=R;exact B z n7
  |cont=>obtain⟨j,y,z,n7⟩:=R;exact B z n7
  |brk=>obtain⟨j,y,z,R⟩:=R;exact⟨j,y,z.unpinned,R⟩
  |ret v=>obtain⟨x7,j,y,z,r7,R⟩:=R;exact⟨x7,j,y,z.unpinned,r7,R⟩
end
abbrev R2:=V->V->Hp->VK->Prop
def bF (X:Cx)(f:Qt->Qt->Sem Qt)(r:R2):Prop:=
 ∀(pins:List (Addr×Obj)) (s:QC) (σ:St) (H:Hp) (x y:V) (v u:Qt) (Q:VK),Inv X pins σ H s->RelV x v->RelV y u->r x y H Q->
  wpAny (model X.prog X.w) X.A (f v u) (EP X pins σ Q) X.xe s
def Mc (X:Cx)(f:Qt->Sem Qt)(r:V->Hp->VK->Prop):Prop:=
 ∀(pins:List (Addr×Obj)) (s:QC) (σ:St) (H:Hp) (x:V) (v:Qt) (Q:VK),Inv X pins σ H s->RelV x v->r x H Q->
  wpAny (model X.prog X.w) X.A (f v) (EP X pins σ Q) X.xe s
def b4 (X:Cx)(f:Qt)(r:List V->Hp->VK->Prop):Prop:=
 ∀(pins:List (Addr×Obj)) (s:QC) (σ:St) (H:Hp) (xs:List V) (j:List Qt) (Q:VK),Inv X pins σ H s->Vals xs j->r xs H Q->
  wpAny (model X.prog X.w) X.A (call f j) (EP X pins σ Q) X.xe s
def PZ (X:Cx)(r:V->Hp->(Bool->Hp->Prop)->Prop):Prop:=
 ∀(pins:List (Addr×Obj)) (s:QC) (σ:St) (H:Hp) (x:V) (v:Qt) (Q:Bool->Hp->Prop),Inv X pins σ H s->RelV x v->r x H Q->
  wpAny (model X.prog X.w) X.A (truthy v) (TP X pins σ Q) X.xe s
def zv (r:R2)(ta tb:TE):TE:=λσ H Q=>ta σ H λx H1=>tb σ H1 λy H2=>r x y H2 Q
def tUn (r:V->Hp->VK->Prop)(ta:TE):TE:=λσ H Q=>ta σ H λx H1=>r x H1 Q
def rI (C:Int->Int->Prop)(g:Int->Int->V):R2:=λx y H Q=>∃i j,x=.int i/\y=.int j/\C i j/\Q (g i j) H
def rV (g:Int->Int->V):R2:=λx y H Q=>∃i j,x=.int i/\y=.int j/\Q (g i j) H
def rU (g:Int->V):V->Hp->VK->Prop:=λx H Q=>∃i,x=.int i/\Q (g i) H
section
variable{X:Cx}{a b c:Expr}{ta tb tc:TE}{pos:Pos}
def Du (J:PE X a ta)(L:PE X b tb){R:V->V->Hp->Prop}(I:Inv X pins σ H s)
 (h:ta σ H λx H1=>tb σ H1 λy H2=>R x y H2) {f:Qt->Qt->Sem Qt}
 (hf:∀v u s2 x y H2,Inv X pins σ H2 s2->RelV x v->RelV y u->R x y H2->wpAny (model X.prog X.w) X.A (f v u) Q X.xe s2) :
 wpAny (model X.prog X.w) X.A (eval a X.env) (λv j=>wpAny (model X.prog X.w) X.A (eval b X.env) (λu z=>wpAny (model X.prog X.w) X.A (f v u) Q X.xe z) X.xe j) X.xe s:=by
 refine aO (J pins s σ H _ I h) λv s1 ⟨x,H1,B,r1,M⟩=>?_;refine aO (L pins s1 σ H1 _ B M) λu s2 ⟨y,H2,F,r2,O⟩=>?_;exact hf v u s2 x y H2 F r1 r2 O
def MN {r:R2}(ho:bF X (binaryOp op) r)(z:PE X a ta)(B:PE X b tb):PE X (.BinOp a op b pos) (zv r ta tb):=by
 intro pins s σ H Q I h;exact wpAny_BinOp (Du z B I h λv u s2 x y H2 j F J q=>ho pins s2 σ H2 x y v u Q j F J q)
def MK (ho:Mc X (unaryOp op) r)(y:PE X a ta):PE X (.UnaryOp op a pos) (tUn r ta):=by
 intro pins s σ H Q I h;exact UnaryOp_ (aO (y pins s σ H _ I h) λv s1 ⟨x,H1,j,r1,z⟩=>ho pins s1 σ H1 x v Q j r1 z)
def Ex {g:Int->Int->Int}
 (rule:∀(i j:Int) (t u:Tok) (s:QC) (Q:Qt->QC->Prop) (E:Qt->QC->Prop),C i j->Q (.int (g i j) s.toks) {s with toks:=s.toks+1}->wpAny (model X.prog X.w) X.A (f (.int i t) (.int j u)) Q E s) :
 bF X f (rI C λi j=>.int (g i j)):=by
 intro pins s σ H x y v u Q I B F h;obtain⟨i,j,rfl,rfl,z,q⟩:=h;obtain⟨t,rfl⟩:=B;obtain⟨J,rfl⟩:=F;exact rule i j t J s _ _ z {.int (g i j),H,I.tok _,{_,rfl},q}
def Kl {g:Int->Int->Int}
 (rule:∀(i j:Int) (t u:Tok) (s:QC) (Q:Qt->QC->Prop) (E:Qt->QC->Prop),Q (.int (g i j) s.toks) {s with toks:=s.toks+1}->wpAny (model X.prog X.w) X.A (f (.int i t) (.int j u)) Q E s) :
 bF X f (rV λi j=>.int (g i j)):=by
 intro pins s σ H x y v u Q I z B h;obtain⟨i,j,rfl,rfl,q⟩:=h;obtain⟨t,rfl⟩:=z;obtain⟨F,rfl⟩:=B;exact rule i j t F s _ _ {.int (g i j),H,I.tok _,{_,rfl},q}
def xP {g:Int->Int->Bool}
 (rule:∀(i j:Int) (t u:Tok) (s:QC) (Q:Qt->QC->Prop) (E:Qt->QC->Prop),Q (.bool (g i j)) s->wpAny (model X.prog X.w) X.A (f (.int i t) (.int j u)) Q E s) :
 bF X f (rV λi j=>.bl (g i j)):=by
 intro pins s σ H x y v u Q I z B h;obtain⟨i,j,rfl,rfl,q⟩:=h;obtain⟨t,rfl⟩:=z;obtain⟨F,rfl⟩:=B;exact rule i j t F s _ _ {.bl (g i j),H,I,rfl,q}
def Mm (i j:Int):Prop:=0<j/\j<1073741824
def Ml (i j:Int):Prop:=0<=j/\j<=1000000/\i.natAbs<2^64
def DK (i j:Int):Prop:=(-(2^64)<i/\i<2^64)\/(-(2^64)<j/\j<2^64)
def DK.ok {i j:Int}(h:DK i j):IntMulOk i j:=by
 rcases h with⟨h1,h2⟩|⟨h1,h2⟩
 ·exact .of_left (intBits_le_64 h1 h2)
 ·exact .of_right (intBits_le_64 h1 h2)
def Kk:bF X (binaryOp .Add) (rV λi j=>.int (i+j)):=Kl λ_ _ _ _ _ _ _ q=>add_int q
def Kd:bF X (binaryOp .Sub) (rV λi j=>.int (i-j)):=Kl λ_ _ _ _ _ _ _ q=>sub_int q
def Kg:bF X (binaryOp .Mult) (rI DK λi j=>.int (i*j)):=Ex λ_ _ _ _ _ _ _ y q=>mul_int q y.ok
def Hc:bF X (binaryOp .FloorDiv) (rI Mm λi j=>.int (i / j)):=Ex λi j _ _ _ _ _ y q=>by
 have h1:=y.1;have h2:=y.2;exact floordiv_int `a (by rw[Int.fdiv_eq_ediv_of_nonneg i `a];exact q) (.inl (PyProof.noPylong_small `a))
def Kh:bF X (binaryOp .Mod) (rI (λ_ j=>0<j) λi j=>.int (i % j)):=Ex λi j _ _ _ _ _ y q=>by
 have h1:=y;exact mod_int' `a (by rw[Int.fmod_eq_emod_of_nonneg i `a];exact q)
def Kf:bF X (binaryOp .Pow) (rI Ml λi j=>.int (i^j.toNat)):=Ex λ_ _ _ _ _ _ _ y q=>pow_int_small y.1 y.2.1 y.2.2 q
def unI {g:Int->Int}
 (rule:∀(i:Int) (t:Tok) (s:QC) (Q:Qt->QC->Prop) (E:Qt->QC->Prop),Q (.int (g i) s.toks) {s with toks:=s.toks+1}->wpAny (model X.prog X.w) X.A (f (.int i t)) Q E s) :
 Mc X f (rU λi=>.int (g i)):=by
 intro pins s σ H x v Q I j h;obtain⟨i,rfl,q⟩:=h;obtain⟨t,rfl⟩:=j;exact rule i t s _ _ {.int (g i),H,I.tok _,{_,rfl},q}
def IS:Mc X (unaryOp .USub) (rU λi=>.int (-i)):=unI λ_ _ _ _ _ q=>neg_int q
end
noncomputable def Jw:V->V->Bool
 |.non,.non=>true|.non,.int _=>true|.int _,.non=>true|.non,.bl _=>true|.bl _,.non=>true|.non,.str _=>true|.str _,.non=>true
 |.int _,.int _=>true|.bl _,.bl _=>true|.str _,.str _=>true|.byt _,.byt _=>true
 |.int _,.str _=>true|.str _,.int _=>true|.bl _,.str _=>true|.str _,.bl _=>true
 |_,_=>false
def rEq:R2:=λx y H Q=>Jw x y=true/\Q (.bl (decide (x=y))) H
def rNe:R2:=λx y H Q=>Jw x y=true/\Q (.bl (!decide (x=y))) H
def w8 {i j:Int}:decide (V.int i=V.int j)=(i==j):=by
 rw[RT];simp
def A5:decide (V.bl i=V.bl j)=(i==j):=by
 rw[RT];simp
def nM:decide (V.str i=V.str j)=(i==j):=by
 rw[RT];simp
def w9:decide (V.byt i=V.byt j)=(i.toList==j.toList):=by
 rw[RT];cases i;cases j;simp
section
variable{X:Cx}{a b c:Expr}{ta tb tc:TE}{pos:Pos}
def bh (I:Inv X pins σ H s)(q:Q (.bl k) H)(e:k=k'):EP X pins σ Q (.bool k') s:=by
 subst e;exact{.bl k,H,I,rfl,q}
def MU:bF X (compareOp .Eq) rEq:=by
 intro pins s σ H x y v u Q I F z h;obtain⟨hs,q⟩:=h;cases x with
 | non=>
   cases F;cases y with
   |non=>cases z;exact PySem.EqNone.eq_none_none (bh I q `s)
   |bl j=>cases z;exact PySem.EqNone.eq_none_bool (bh I q `s)
   |int j=>obtain⟨B,rfl⟩:=z;exact PySem.EqNone.eq_none_int (bh I q `s)
   |str j=>obtain⟨B,rfl⟩:=z;exact PySem.EqNone.eq_none_str (bh I q `s)
   |_=>exact absurd (hs) QZ
 | bl i=>
   cases F;cases y with
   |non=>cases z;exact PySem.EqNone.eq_bool_none (bh I q `s)
   |bl j=>cases z;exact eq_bool (bh I q A5)
   |str j=>obtain⟨B,rfl⟩:=z;exact PySem.EqMixed.eq_bool_str (bh I q `s)
   |_=>exact absurd (hs) QZ
 | int i=>
   obtain⟨t,rfl⟩:=F;cases y with
   |non=>cases z;exact PySem.EqNone.eq_int_none (bh I q `s)
   |int j=>obtain⟨B,rfl⟩:=z;exact eq_int (bh I q w8)
   |str j=>obtain⟨B,rfl⟩:=z;exact PySem.EqMixed.eq_int_str (bh I q `s)
   |_=>exact absurd (hs) QZ
 | str i=>
   obtain⟨t,rfl⟩:=F;cases y with
   |non=>cases z;exact PySem.EqNone.eq_str_none (bh I q `s)
   |bl j=>cases z;exact PySem.EqMixed.eq_str_bool (bh I q `s)
   |int j=>obtain⟨B,rfl⟩:=z;exact PySem.EqMixed.eq_str_int (bh I q `s)
   |str j=>obtain⟨B,rfl⟩:=z;exact eq_str (bh I q nM)
   |_=>exact absurd (hs) QZ
 | byt i=>
   obtain⟨t,rfl⟩:=F;cases y with
   |byt j=>obtain⟨B,rfl⟩:=z;exact PySem.W.eq_bytes (bh I q w9)
   |_=>exact absurd (hs) QZ
 |_=>cases y<;>exact absurd (hs) QZ
def MP:bF X (compareOp .NotEq) rNe:=by
 intro pins s σ H x y v u Q I F z h;obtain⟨hs,q⟩:=h;cases x with
 | non=>
   cases F;cases y with
   |non=>cases z;exact PySem.EqNone.ne_none_none (bh I q `s)
   |bl j=>cases z;exact PySem.EqNone.ne_none_bool (bh I q `s)
   |int j=>obtain⟨B,rfl⟩:=z;exact PySem.EqNone.ne_none_int (bh I q `s)
   |str j=>obtain⟨B,rfl⟩:=z;exact PySem.EqNone.ne_none_str (bh I q `s)
   |_=>exact absurd (hs) QZ
 | bl i=>
   cases F;cases y with
   |non=>cases z;exact PySem.EqNone.ne_bool_none (bh I q `s)
   |bl j=>cases z;exact ne_bool (bh I q (congrArg not A5))
   |str j=>obtain⟨B,rfl⟩:=z;exact PySem.EqMixed.ne_bool_str (bh I q `s)
   |_=>exact absurd (hs) QZ
 | int i=>
   obtain⟨t,rfl⟩:=F;cases y with
   |non=>cases z;exact PySem.EqNone.ne_int_none (bh I q `s)
   |int j=>obtain⟨B,rfl⟩:=z;exact ne_int (bh I q (congrArg not w8))
   |str j=>obtain⟨B,rfl⟩:=z;exact PySem.EqMixed.ne_int_str (bh I q `s)
   |_=>exact absurd (hs) QZ
 | str i=>
   obtain⟨t,rfl⟩:=F;cases y with
   |non=>cases z;exact PySem.EqNone.ne_str_none (bh I q `s)
   |bl j=>cases z;exact PySem.EqMixed.ne_str_bool (bh I q `s)
   |int j=>obtain⟨B,rfl⟩:=z;exact PySem.EqMixed.ne_str_int (bh I q `s)
   |str j=>obtain⟨B,rfl⟩:=z;exact ne_str (bh I q (congrArg not nM))
   |_=>exact absurd (hs) QZ
 | byt i=>
   obtain⟨t,rfl⟩:=F;cases y with
   |byt j=>obtain⟨B,rfl⟩:=z;exact PySem.W.ne_bytes (bh I q (congrArg not w9))
   |_=>exact absurd (hs) QZ
 |_=>cases y<;>exact absurd (hs) QZ
def MQ:bF X (compareOp .Lt) (rV λi j=>.bl (decide (i<j))):=xP λ_ _ _ _ _ _ _ q=>lt_int q
def MR:bF X (compareOp .LtE) (rV λi j=>.bl (decide (i<=j))):=xP λ_ _ _ _ _ _ _ q=>le_int q
def MS:bF X (compareOp .Gt) (rV λi j=>.bl (decide (j<i))):=xP λ_ _ _ _ _ _ _ q=>gt_int q
def MT:bF X (compareOp .GtE) (rV λi j=>.bl (decide (j<=i))):=xP λ_ _ _ _ _ _ _ q=>ge_int q
def Ak:bF X (compareOp .In) (λx y H Q=>∃i j,x=.str i/\y=.str j/\Q (.bl (!(Builtin.Str.occurrences j i 0 j.length 1).isEmpty)) H):=by
 intro pins s σ H x y v u Q I z B h;obtain⟨i,j,rfl,rfl,q⟩:=h;obtain⟨t,rfl⟩:=z;obtain⟨F,rfl⟩:=B;exact in_str (bh I q rfl)
def Ki:bF X (compareOp .Is) (λx y H Q=>y=.non/\Q (.bl (decide (x=.non))) H):=by
 intro pins s σ H x y v u Q I j z h;obtain⟨rfl,q⟩:=h;cases z;refine is_none_gen (bh I q ?_);cases x<;>first
  |(cases j;rfl)
  |(obtain⟨t,rfl⟩:=j;rfl)
def Hb:bF X (compareOp .IsNot) (λx y H Q=>y=.non/\Q (.bl (!decide (x=.non))) H):=by
 intro pins s σ H x y v u Q I j z h;obtain⟨rfl,q⟩:=h;cases z;refine isnot_none_gen (bh I q ?_);cases x<;>first
  |(cases j;rfl)
  |(obtain⟨t,rfl⟩:=j;rfl)
def um:bF X (compareOp .NotIn) (λx y H Q=>∃i j,x=.str i/\y=.str j/\Q (.bl (!(!(Builtin.Str.occurrences j i 0 j.length 1).isEmpty))) H):=by
 intro pins s σ H x y v u Q I z B h;obtain⟨i,j,rfl,rfl,q⟩:=h;obtain⟨t,rfl⟩:=z;obtain⟨F,rfl⟩:=B;exact notIn_str (bh I q rfl)
def qE {r:R2}(ho:bF X (compareOp op) r)(z:PE X a ta)(B:PE X b tb)(hm:behindInMarks op b=false):PE X (.Compare a [op] [b] pos) (zv r ta tb):=by
 intro pins s σ H Q I h;exact wpAny_Compare1 (Du z B I h λv u s2 x y H2 j F J q=>ho pins s2 σ H2 x y v u Q j F J q) hm
def Ek (t:TE):TT:=λσ H Q=>t σ H λx H'=>∃k,x=.bl k/\Q k H'
def qB (ho:bF X (compareOp op) r)(L:PE X a ta)(M:PE X b tb)(hm:behindInMarks op b=false):PT X (.Compare a [op] [b] pos) (Ek (zv r ta tb)):=by
 intro pins s σ H Q I h;refine wpAny_isTrue_Compare1 (aO (L pins s σ H _ I h) λv s1 ⟨x,H1,B,r1,O⟩=>aO (M pins s1 σ H1 _ B O) λu s2 ⟨y,H2,F,r2,R⟩=>
  aO (ho pins s2 σ H2 x y v u _ F r1 r2 R) λc W ⟨z,j,J,U,k,e,S⟩=>?_) hm
 subst e;cases U;exact tqp ⟨j,J,S⟩
def tJ (r r':R2)(ta tb tc:TE):TE:=λσ H Q=>ta σ H λx H1=>tb σ H1 λy H2=>r x y H2 λz j=>∃k,z=.bl k/\
 (if k=true then tc σ j λF B=>r' y F B Q else Q (.bl false) j)
def CD (ho:bF X (compareOp op) r)(j:bF X (compareOp op') r')(S:PE X a ta)(U:PE X b tb)(W:PE X c tc)
 (hm:lastMarks [op,op'] [b,c]=false:=by with_unfolding_all rfl):PE X (.Compare a [op,op'] [b,c] pos) (tJ r r' ta tb tc):=by
 intro pins s σ H Q I h;refine Compare_chain (aO (S pins s σ H _ I h) λv s1 ⟨x,H1,M,r1,Y⟩=>chain_link (aO (U pins s1 σ H1 _ M Y) λu s2 ⟨y,H2,O,r2,q2⟩=>
  aO (ho pins s2 σ H2 x y v u _ O r1 r2 q2) λd s3 ⟨z,B,F,r3,k,e,J⟩=>?_)) hm
 subst e;cases r3;refine tqp ?_;cases k with
 |false=>exact ite_ff {.bl false,B,F,rfl,J}
 |true=>exact ite_tt (chain_last (aO (W pins s3 σ B _ F J) λw' s4 ⟨z',L,R,r4,q4⟩=>j pins s4 σ L y z' u w' Q R r2 r4 q4))
def Cw (ho:bF X (compareOp op) r)(j:bF X (compareOp op') r')(Y:PE X a ta)(hb:PE X b tb)(hc:PE X c tc)
 (hm:lastMarks [op,op'] [b,c]=false:=by with_unfolding_all rfl):PT X (.Compare a [op,op'] [b,c] pos) (Ek (tJ r r' ta tb tc)):=by
 intro pins s σ H Q I h;refine isTrue_chain (aO (Y pins s σ H _ I h) λv s1 ⟨x,H1,O,r1,q1⟩=>test_link (aO (hb pins s1 σ H1 _ O q1) λu s2 ⟨y,H2,R,r2,q2⟩=>
  aO (ho pins s2 σ H2 x y v u _ R r1 r2 q2) λd s3 ⟨z,B,F,r3,k,e,J⟩=>?_)) hm
 subst e;cases r3;refine tqp ?_;cases k with
 | false=>
   obtain⟨k',W,q'⟩:=J;cases W;exact ite_ff ⟨B,F,q'⟩
 | true=>
   refine ite_tt (test_last (aO (hc pins s3 σ B _ F J) λw' s4 ⟨z',L,S,r4,q4⟩=>aO (j pins s4 σ L y z' u w' _ S r2 r4 q4) λd' s5 ⟨z2,M,U,r5,k2,e2,q5⟩=>?_));subst e2;cases r5;exact tqp ⟨M,U,q5⟩
def DC (K:Qr)(x:V)(H:Hp)(k:Bool):Prop:=
 match x with
 |.non=>k=false
 |.bl b=>k=b
 |.int i=>k=(i != 0)
 |.str y=>y.length<=sizeLine/\k=((y.length:Int) != 0)
 |.byt y=>y.size<=sizeLine/\k=((y.size:Int) != 0)
 |.ref p=>(∃xs,cF K H p xs/\k=!xs.isEmpty)\/(∃xs,dD K H p xs/\k=!xs.isEmpty)\/∃kvs,H p=some (.dK kvs)/\k=!kvs.isEmpty
 |_=>False
def yi {κ:Type}{kvs:List (κ×V)}{vs:List (κ×Qt)}(r:KV kvs vs):(!vs.isEmpty)=!kvs.isEmpty:=by
 cases r<;>rfl
def lq {xs:List V}{its:List Qt}(r:Vals xs its):(!its.toArray.isEmpty)=!xs.isEmpty:=by
 cases r<;>simp
def jm:(sizeLine:Nat)<2^63:=by rw[sizeLine_eq];decide
def Ji:PZ X (λx H Q=>∃k,DC X.K x H k/\Q k H):=by
 intro pins s σ H x v Q I rx h;obtain⟨k,e,q⟩:=h;have hl:=jm;have hs:=sizeLine_eq;cases x with
 | non=>
   cases rx;have e':=e;subst e';exact truthy_none ⟨H,I,q⟩
 | bl b=>
   cases rx;have e':=e;subst e';exact tqp ⟨H,I,q⟩
 | int i=>
   obtain⟨t,rfl⟩:=rx;have e':=e;subst e';exact PySem.P.truthy_int ⟨H,I,q⟩
 | str y=>
   obtain⟨t,rfl⟩:=rx;obtain⟨hy,e'⟩:y.length<=sizeLine/\k=((y.length:Int) != 0):=e;subst e';exact PySem.P.truthy_str `a {H,I.tok _,q}
 | byt y=>
   obtain⟨t,rfl⟩:=rx;obtain⟨hy,e'⟩:y.size<=sizeLine/\k=((y.size:Int) != 0):=e;subst e';exact PySem.W.truthy_bytes `a {H,I.tok _,q}
 | ref p=>
   cases rx;have e':=e;rcases e' with⟨xs,hx,e'⟩|⟨xs,hx,e'⟩|⟨kvs,hx,e'⟩
   ·subst e';obtain⟨its,r,pl,hz⟩:=I.list hx;have hlen:=r.length;exact wpAny_truthy_list pl.isList (by simp only[QE];omega) {H,I.tok _,by rw[lq r];exact q}
   ·subst e';obtain⟨its,r,pl,hz⟩:=I.tuple hx;have hlen:=r.length;exact truthy_tuple pl (by simp only[QE];omega) {H,I.tok _,by rw[lq r];exact q}
   ·subst e';obtain⟨hz,hS,vs,r,m⟩:kvs.length<=sizeLine/\(p==sysModules)=false/\∃vs,KV kvs vs/\s.heap.DictOf (ky X.prog X.w) p vs:=I.hok p _ hx;have hlen:=Paired.length r;exact wpAny_truthy_dict hS m `a {H,I.tok _,by rw[yi r];exact q}
 |_=>exact(e).elim
def Cu (y:PE X a ta)(he:∀whole,isTrue a X.env whole=(do let v <- whole;standAt a.pos;holding [v] (truthy v))) :
 PT X a (λσ H Q=>ta σ H λx H'=>∃k,DC X.K x H' k/\Q k H'):=by
 intro pins s σ H Q I h;exact isTrue_plain (aO (y pins s σ H _ I h) λv s1 ⟨x,H1,j,r1,z⟩=>Ji pins s1 σ H1 x v Q j r1 z) (he _)
def xO:bF X (binaryOp .Add) (λx y H Q=>∃i j,x=.str i/\y=.str j/\i.length+j.length<=sizeLine/\Q (.str (i++j)) H):=by
 intro pins s σ H x y v u Q I B F h;obtain⟨i,j,rfl,rfl,z,q⟩:=h;obtain⟨t,rfl⟩:=B;obtain⟨J,rfl⟩:=F;exact add_str (λJ tk=>{.str (i++j),H,I.tok _,{_,rfl},q}) z
def vals1 (r:Vals [x] us):∃u,us=[u]/\RelV x u:=by
 cases r with
 |cons r1 r2=>cases r2;exact{_,rfl,r1}
def vals2 (r:Vals [x,y] us):∃u j,us=[u,j]/\RelV x u/\RelV y j:=by
 cases r with
 | cons r1 r2=>
   cases r2 with
   |cons z B=>cases B;exact{_,_,rfl,r1,z}
end
structure pd (h:Heap) (x dx C:Addr) (mA:Str->Option Qt):Prop where
 obj:h.get? x=some (PySem.W.instObj C dx)
 ns:h.Ns1 dx mA
 ne:dx≠x
set_option tactic.hygienic true in
def Az {h:Heap}(n:h.Ns1 dx mA):∃od,h.get? dx=some od/\∀name,PySem.W.lookIn name od=some (mA name):=by
 obtain⟨o,es,I,ho,hd,hk,_,hm⟩:=n;refine{o,ho,λname=>?_};have e:=hm name;unfold nsFind findBy at e;rw[<- Array.find?_toList] at e;unfold PySem.W.lookIn;rw[hd];dsimp only;split
 ·rename_i y q;rw[q] at e;exact congrArg some e
 ·rename_i q;rw[q] at e;have a:es.toList.any (·.refKey)=false:=by
   rw[List.any_eq_false];intro y F;obtain⟨z,t,j⟩:=hk y (Array.mem_toList_iff.mp F);simp[DictEntry.refKey,j]
  have B:¬ es.toList.any (·.refKey)=true:=by rw[a];exact QZ
  rw[if_neg B];exact congrArg some e
def pd.look (I:pd h x dx C mA):∃od,PySem.W.InstAt h x (PySem.W.instObj C dx) C (some od)/\∀name,PySem.W.lookIn name od=some (mA name):=
 let⟨od,ho,hl⟩:=Az I.ns
 {od,⟨I.obj,rfl,rfl,ho⟩,hl}
section
variable{prog:Rv}{w:Rf}{A:R9}{E:Qt->QC->Prop}{s:QC}{K:Qr}{x dx C f:Addr}{mA:Str->Option Qt}{name:Str}{v:Qt}
def get_map (X:K.In s.heap)(I:pd s.heap x dx C mA)(z:PySem.W.plainGet K C name=true)(hh:PySem.W.hasDictIn K C=true)
 (y:PySem.W.findIn K (.ref C) name=some none) (B:mA name=some v) (j:PySem.W.handedIn v=true) (h:Q v {s with toks:=s.toks+1}) :
 wpAny (model prog w) A (getAttr (.ref x) name expr) Q E s:=by
 obtain⟨od,J,hl⟩:=I.look;exact PySem.W.get_value X J (PySem.W.plainGet_of z).1 (PySem.W.findObj_own hh y rfl (by rw[hl,B])) j h
def Dd (X:K.In s.heap)(I:pd s.heap x dx C mA)(j:PySem.W.plainGet K C name=true)
 (hf:PySem.W.findIn K (.ref C) name=some (some (.ref f))) (y:PySem.W.isFn K (.ref f)=true) (z:mA name=none) (h:Q (.ref f,[.ref x]) s) :
 wpAny (model prog w) A (getMethod (.ref x) name pl) Q E s:=by
 obtain⟨od,J,hl⟩:=I.look;exact PySem.W.method_fn X J (PySem.W.plainGet_of j).1 (PySem.W.plainGet_of j).2 hf (SV.mp y) (by show(PySem.W.lookIn name od).map (·.isSome)=some false;rw[hl,z];rfl) h
def GC (X:K.In s.heap)(I:pd s.heap x dx C mA)
 (hs:PySem.W.findIn K (.ref C) "__setattr__"=some (some (.builtin "object.__setattr__"))) (U:PySem.W.plainOver K C=true) (Y:PySem.W.takerIn K C name=some none) (hh:PySem.W.hasDictIn K C=true)
 (hw:PySem.Within mA ns) (hsz:ns.length<=sizeLine)
 (h:∀h',pd h' x dx C (λy=>if y=name then some v else mA y)->R5 dx s.heap h'->Q () {s with heap:=h',toks:=s.toks+2}) :
 wpAny (model prog w) A (setAttr (.ref x) name v) Q E s:=by
 obtain⟨od,J,hl⟩:=I.look;refine PySem.W.set_plain X J hs (PySem.W.osa_open X J U Y λb=>?_);obtain⟨cd,S,F⟩:=PySem.W.any_some hh;have hx:=I.obj;refine tqa (tqb (tqa (tqa (wpAny_loadPart hx (tqa (PySem.W.Looks.here (PySem.W.looks_clsIn X S) ?_))))));rw[F];refine tqb (tqa (tqb (tqa ?_)));refine wpAny_nsSet1 I.ns λh' j z=>?_;obtain⟨oD,R,O,M,L,B⟩:=j.count (PySem.Within.cons name v hw);refine tqa (wpAny_lookBehind M (by rw[L];exact pastItsLine_dict (QH B (by rw[Rx];omega))) ?_)
 exact tqb (h _ {(z.2 _ (RF I.ne)).trans I.obj,j,I.ne} z)
def CS (X:K.In s.heap)(hm:PySem.W.makesIn K C=true)
 (hi:PySem.W.findIn K (.ref C) "__init__"=some (some (.ref f))) (hf:PySem.W.typeIn K (.ref f)=some (.type "function"))
 (h:codeAny (model prog w) (A.under (.builtin "type.__call__" {.ref C::vs,kw})) (.call (.ref f) {.ref (s.heap.objs.size+1)::vs,kw}) (PySem.W.InitBack (s.heap.objs.size+1) R)
  {s with heap:=(s.heap.push PySem.W.emptyDict).push (PySem.W.instObj C s.heap.objs.size)}) :
 codeAny (model prog w) A (.call (.ref C) ⟨vs,kw⟩) R s:=by
 obtain⟨j,g,d,t,os⟩:=s;exact PySem.W.make_core (PySem.W.makes_of X hm) (PySem.W.looks_findIn X hi) (λself=>PySem.W.bind_fn X self hf) (.inl rfl) h
end
noncomputable def cP (f:Str)(v:V):List (Str×V)->List (Str×V)
 |[]=>[(f,v)]
 |(g,x)::r=>if g=f then(g,v)::r else(g,x)::cP f v r
theorem nZ (f g:Str)(v:V):∀fs:List (Str×V),(cP f v fs).lookup g=if g=f then some v else fs.lookup g
 | []=>by
   show List.lookup g [(f,v)]=_;by_cases h:g=f
   ·have j:=SV.mpr h;simp only[List.lookup,j,if_pos h]
   ·have j:=RC.mpr h;simp only[List.lookup,j,if_neg h]
 | (k,x)::r=>by
   have y:=nZ f g v r;rw[show cP f v ((k,x)::r)=(if k=f then(k,v)::r else(k,x)::cP f v r) from rfl];by_cases hk:k=f
   ·rw[if_pos hk];by_cases h:g=k
    ·have j:=SV.mpr h;simp only[List.lookup,j,if_pos (h.trans hk)]
    ·have j:=RC.mpr h;simp only[List.lookup,j,if_neg (λe:g=f=>h (e.trans hk.symm))]
   ·rw[if_neg hk];by_cases h:g=k
    ·have j:=SV.mpr h;simp only[List.lookup,j,if_neg (λe:g=f=>hk (h.symm.trans e))]
    ·have j:=RC.mpr h;simp only[List.lookup,j];exact y
theorem mD (f:Str)(v:V):∀fs:List (Str×V),f∈(cP f v fs).map (·.1)/\∀g,g∈fs.map (·.1)->g∈(cP f v fs).map (·.1)
 |[]=>{by simp[cP],λg h=>by simp at h}
 | (k,x)::r=>by
   obtain⟨j,y⟩:=mD f v r;rw[show cP f v ((k,x)::r)=(if k=f then(k,v)::r else(k,x)::cP f v r) from rfl];by_cases hk:k=f
   ·rw[if_pos hk];subst hk;exact{`s,λg h=>by simpa using h}
   ·rw[if_neg hk];refine{?_,λg h=>?_}
    ·rw[Ry];exact QD _ j
    ·rw[Ry] at h ⊢;rcases Rg.mp h with e|e
     ·exact List.mem_cons.mpr (.inl e)
     ·exact QD _ (y g e)
theorem n4 (f:Str)(v:V):∀fs:List (Str×V),(cP f v fs).length<=fs.length+1
 |[]=>by simp[cP]
 | (k,x)::r=>by
   have j:=n4 f v r;rw[show cP f v ((k,x)::r)=(if k=f then(k,v)::r else(k,x)::cP f v r) from rfl];by_cases hk:k=f
   ·rw[if_pos hk,Rx,Rx];omega
   ·rw[if_neg hk,Rx,Rx];omega
def j8.some_of (r:j8 (some v) o):∃u,o=some u/\RelV v u:=by
 cases o with
 |none=>exact(r).elim
 |some u=>exact⟨u,rfl,r⟩
def j8.none_of (r:j8 none o):o=none:=by
 cases o with
 |none=>rfl
 |some u=>exact(r).elim
def AY (r:RelV v u):PySem.W.handedIn u=true:=by
 cases v with
 |non=>cases (r);rfl
 |bl b=>cases (r);rfl
 |int i=>obtain⟨t,e⟩:=(r);cases e;rfl
 |str x=>obtain⟨t,e⟩:=(r);cases e;rfl
 |byt b=>obtain⟨t,e⟩:=(r);cases e;rfl
 |flt b=>obtain⟨t,e⟩:=(r);cases e;rfl
 |ref a=>cases (r);rfl
 |ty n=>cases (r);rfl
section
variable{P:Rv}{w:Rf}{H H':Hp}{h h':Heap}{a C dx:Addr}{fs fs':List (Str×V)}
def nE (hok:d7 P w H h)(e:H a=some (.ins C dx fs)):∃mA,pd h a dx C mA/\(∀f,j8 (fs.lookup f) (mA f))/\PySem.Within mA (fs.map (·.1))/\fs.length<=1000/\H dx=some (.own a):=by
 obtain⟨d,z,ne,ob,mA,n,r,q⟩:=(hok a _ e);exact{mA,⟨ob,n,ne⟩,r,q,z,d}
end
structure iG (K:Qr) (C:Addr):Prop where
 pg:PySem.W.plainGet K C Str.empty=true
 hd:PySem.W.hasDictIn K C=true
 po:PySem.W.plainOver K C=true
 sa:PySem.W.findIn K (.ref C) "__setattr__"=some (some (.builtin "object.__setattr__"))
def iG.get {K:Qr}(c:iG K C)(f:Str):PySem.W.plainGet K C f=true:=c.pg
def jC (K:Qr)(C:Addr)(f:Str):Prop:=PySem.W.findIn K (.ref C) f=some none
def jC.taker {K:Qr}(n:jC K C f):PySem.W.takerIn K C f=some none:=by
 unfold PySem.W.takerIn;rw[show PySem.W.findIn K (.ref C) f=some none from n];rfl
structure Meth (K:Qr) (C:Addr) (m:Str) (f:Addr):Prop where
 at_:PySem.W.findIn K (.ref C) m=some (some (.ref f))
 fn:PySem.W.isFn K (.ref f)=true
 kp:PySem.W.keepIn K (.ref f)=true
section
variable{X:Cx}{pins:List (Addr×Obj)}{σ:St}{H:Hp}{s:QC}{a C dx:Addr}{fs:List (Str×V)}{f:Str}{v:V}{A:R9}{E:Qt->QC->Prop}
def yk (I:Inv X pins σ H s)(e:H a=some (.ins C dx fs))(c:iG X.K C)(n:jC X.K C f)(l:fs.lookup f=some v)
 (h:∀u s',Inv X pins σ H s'->RelV v u->Q u s'):wpAny (model X.prog X.w) A (getAttr (.ref a) f b) Q E s:=by
 obtain⟨mA,O,r,_,_,_⟩:=nE I.hok e;obtain⟨u,y,j⟩:=j8.some_of (by rw[<- l];exact r f)
 exact get_map I.kIn O (c.get f) c.hd n y (AY j) (h u _ (I.tok _) j)
def iS (I:Inv X pins σ H s)(e:H a=some (.ins C dx fs))(c:iG X.K C)(k:Meth X.K C m g)(l:fs.lookup m=none)
 (h:Q (.ref g,[.ref a]) s):wpAny (model X.prog X.w) A (getMethod (.ref a) m pl) Q E s:=by
 obtain⟨mA,O,r,_,_,_⟩:=nE I.hok e;have hn:=j8.none_of (by rw[<- l];exact r m)
 exact Dd I.kIn O (c.get m) k.at_ k.fn hn h
def xE (I:Inv X pins σ H s)(e:H a=some (.ins C dx fs))(c:iG X.K C)(n:jC X.K C f)(hl:fs.length<1000)(R:RelV y u)
 (h:∀s',Inv X pins σ (upd H a (.ins C dx (cP f y fs))) s'->Q () s'):wpAny (model X.prog X.w) A (setAttr (.ref a) f u) Q E s:=by
 obtain⟨mA,O,r,B,_,ho⟩:=nE I.hok e;have M:(fs.map (·.1)).length<=sizeLine:=by rw[Qx,sizeLine_eq];omega
 refine GC I.kIn O c.sa c.po n.taker c.hd B M λh' j S=>h _ ?_;have hd:∃o,h'.get? dx=some o:=let{o,_,_,F,_}:=j.ns;⟨o,F⟩
 refine I.write (by rw[e];exact True.intro) (.inr ho) (λb q J z=>(S.2 b J).trans z) hd ?_
 refine{by rw[av O.ne];exact ho,?_,O.ne,j.obj,_,j.ns,λg=>?_,λg L=>?_}
 ·have:=n4 f y fs;omega
 ·show j8 ((cP f y fs).lookup g) (if g=f then some u else mA g);rw[nZ];by_cases q:g=f
  ·rw[if_pos q,if_pos q];exact R
  ·rw[if_neg q,if_neg q];exact r g
 ·by_cases q:g=f
  ·rw[q];exact(mD f y fs).1
  ·refine(mD f y fs).2 g (B g λz=>L ?_);show(if g=f then some u else mA g)=none;rw[if_neg q];exact z
def Inv.made (I:Inv X pins σ H s):Inv X pins σ (upd (upd H s.heap.objs.size (.own (s.heap.objs.size+1))) (s.heap.objs.size+1) (.ins C s.heap.objs.size []))
 {s with heap:=(s.heap.push PySem.W.emptyDict).push (PySem.W.instObj C s.heap.objs.size)}:=by
 have e1:(s.heap.push PySem.W.emptyDict).get? s.heap.objs.size=some PySem.W.emptyDict:=QU s.heap rfl;have e2:((s.heap.push PySem.W.emptyDict).push (PySem.W.instObj C s.heap.objs.size)).get? (s.heap.objs.size+1)=some (PySem.W.instObj C s.heap.objs.size):=by
  have:=QU (s.heap.push PySem.W.emptyDict) (o:=PySem.W.instObj C s.heap.objs.size) rfl
  rwa [R3] at this
 have z:(s.heap.push PySem.W.emptyDict).Ns s.heap.objs.size (λ_=>none):={PySem.W.emptyDict,#[],_,e1,rfl,(λe he=>absurd he `s),λ_=>rfl}
 have j:=I.laid (o:=.own (s.heap.objs.size+1)) (t':=s.toks) (λb u q=>Qu _ q) (QA _) {_,e1};refine j.laid (λb u q=>Qu _ q) (Nat.le_of_eq (R3 _ _)) ?_;have ne:s.heap.objs.size≠s.heap.objs.size+1:=Q1 (Nat.lt_succ_self _);refine{by rw[av ne,bG],RU _,ne,e2,λ_=>none,(Heap.Ns1.of_empty z).at λo q=>Qu _ q,λ_=>True.intro,λy B=>absurd rfl B}
def Ip (y:attributeBase e f env (eval e env)=eval e env)
 (h:wpAny (model prog w) A (eval e env) (λo j=>wpAny (model prog w) A (getAttr o f true) Q E j) E s):wpAny (model prog w) A (eval (.Attribute e f pos) env) Q E s:=
 Attribute_any_ h (by rw[arm_eval_Attribute,y])
end
def OL (K:Qr)(ta:TE)(f:Str):TE:=λσ H Q=>ta σ H λx H1=>∃a C dx fs v,x=.ref a/\H1 a=some (.ins C dx fs)/\iG K C/\jC K C f/\fs.lookup f=some v/\Q v H1
def OP (K:Qr)(ta tv:TE)(f:Str):TS:=λD σ H=>tv σ H λy H1=>ta σ H1 λx H2=>∃a C dx fs,x=.ref a/\H2 a=some (.ins C dx fs)/\iG K C/\jC K C f/\fs.length<1000/\
 D.nx σ (upd H2 a (.ins C dx (cP f y fs)))
section
variable{X:Cx}{o e value:Expr}{f:Str}{pos pos' tpos:Pos}{ta tv:TE}
def Kb (he:PE X e ta)(B:attributeBase e f X.env (eval e X.env)=eval e X.env):PE X (.Attribute e f pos) (OL X.K ta f):=by
 intro pins s σ H Q I h;refine Ip B (aO (he pins s σ H _ I h) λu s1 ⟨x,H1,j,J,a,C,dx,fs,v,ex,z,c,n,l,q⟩=>?_);subst ex;obtain rfl:u=Value.ref a:=J;exact yk j z c n l λL s2 y F=>⟨v,H1,y,F,q⟩
def J1 (J:PE X o ta)(L:PE X value tv)(hs:swapsWith value (some (.Attribute o f pos')) pos.line X.env=pure false):PS X (.Assign [.Attribute o f pos'] value pos) (OP X.K ta tv f):=by
 intro pins s σ H D I h;refine plainObj_wpAny_Assign_Attribute (aO (L pins s σ H _ I h) λu s1 ⟨y,H1,j,S,q⟩=>aO (J pins s1 σ H1 _ j q) λM s2 ⟨x,H2,z,R,a,C,dx,fs,ex,F,c,n,l,O⟩=>?_) hs;subst ex;obtain rfl:M=Value.ref a:=R;exact xE z F c n l S λU B=>{σ,_,B,O}
end
section
variable{X:Cx}{pins:List (Addr×Obj)}{σ:St}{H:Hp}{s:QC}{A:R9}{E:Qt->QC->Prop}{Q:Qt->QC->Prop}{c:Qt}{b:Bool}
inductive iN (K:Qr) (H:Hp):V->Qt->Prop where
 |non:iN K H .non (.type "NoneType")
 |bl (x:Bool):iN K H (.bl x) (.type "bool")
 |int (i:Int):iN K H (.int i) (.type "int")
 |str (x:Str):iN K H (.str x) (.type "str")
 |flt (x:UInt64):iN K H (.flt x) (.type "float")
 |lst {a:Addr}{xs:List V} (e:H a=some (.lst xs)):iN K H (.ref a) (.type "list")
 |frz {a:Addr}{o:Obj}{xs:List V} (e:H a=some (.frz o (.lst xs))):iN K H (.ref a) (.type "list")
 |tup {a:Addr}{xs:List V} (e:H a=some (.tup xs)):iN K H (.ref a) (.type "tuple")
 |dK {a:Addr}{kvs:List (Key×V)} (e:H a=some (.dK kvs)):iN K H (.ref a) (.type "dict")
 |dT {a:Addr}{kvs:List (List Key×V)} (e:H a=some (.dT kvs)):iN K H (.ref a) (.type "dict")
 |ins {a C dx:Addr}{fs:List (Str×V)} (e:H a=some (.ins C dx fs)) (cl:iG K C) (ha:PySem.W.findIn K (.ref C) "__class__"=some (some (.builtin "object.__class__")))
  (hn:PySem.W.specialIn K (.builtin "object.__class__") "__get__"=some (some (.builtin "getset_descriptor.__get__"))) (htk:PySem.W.takesIn K (.builtin "object.__class__")=some true)
  (hm:PySem.W.mroIn K C (.type "object")=some true):iN K H (.ref a) (.ref C)
def jP (I:Inv X pins σ H s)(B:RelV x u)(ty:iN X.K H x t)(e:PySem.W.kitOne X.K t c=some b)(h:∀tk,Q (.bool b) {s with toks:=tk}) :
 wpAny (model X.prog X.w) A (call (.builtin "isinstance") [u,c]) Q E s:=by
 cases ty with
 |non=>cases (B);exact RH PySem.W.kitx_none I.kIn True.intro e (λz=>nomatch z) h
 |bl y=>cases (B);exact RH PySem.W.kitx_bool I.kIn True.intro e (λz=>nomatch z) h
 |int i=>obtain⟨t,q⟩:=(B);cases q;exact RH PySem.W.kitx_int I.kIn True.intro e (λz=>nomatch z) h
 |str y=>obtain⟨t,q⟩:=(B);cases q;exact RH PySem.W.kitx_str I.kIn True.intro e (λz=>nomatch z) h
 |flt y=>obtain⟨t,q⟩:=(B);cases q;exact RH PySem.W.kitx_float I.kIn True.intro e (λz=>nomatch z) h
 | @lst a xs j=>
   cases (B);obtain⟨_,_,n,_,h1⟩:=(I.hok a _ j);exact RH PySem.W.kitx_list I.kIn {_,h1,rfl} e (λz=>nomatch z) h
 | @frz a ob xs j=>
   cases (B);obtain⟨_,_,_,n,_,h1⟩:=(I.hok a _ j);exact RH PySem.W.kitx_list I.kIn {_,h1,rfl} e (λz=>nomatch z) h
 | @tup a xs j=>
   cases (B);obtain⟨_,_,_,p⟩:=(I.hok a _ j);obtain⟨o,h1,h2,_⟩:=p;exact RH PySem.W.kitx_tuple I.kIn ⟨o,h1,h2⟩ e (λz=>nomatch z) h
 | @dK a L j=>
   cases (B);obtain⟨_,_,S,_,p⟩:=(I.hok a _ j);obtain⟨o,es,M,h1,h2,_⟩:=p;exact RH PySem.W.kitx_dict I.kIn ⟨o,h1,h2.1⟩ e (λz=>nomatch z) h
 | @dT a L j=>
   cases (B);obtain⟨_,_,xs,_,o,es,M,h1,h2,_⟩:=(I.hok a _ j);exact RH PySem.W.kitx_dict I.kIn ⟨o,h1,h2.1⟩ e (λz=>nomatch z) h
 | @ins a C dx fs j cl R hn F hm=>
   cases (B);obtain⟨mA,O,_⟩:=nE I.hok j;obtain⟨od,J,_⟩:=O.look;exact RH (PySem.W.kitx_own (cl.get _) cl.hd R hn F hm) I.kIn J e (λz=>nomatch z) h
end
structure bP (k:Nat) (A:R9):Prop where
 hd:A.handled=none
 dp:A.depth+3*k+5<recursionLimit
 un:A.units+16*k+200<cLine
 gd:A.guards=some []
def bP.mono (r:bP k A)(h:j<=k):bP j A:={r.hd,by have:=r.dp;omega,by have:=r.un;omega,r.gd}
def bP.deeper (r:bP (k+1) A)(env:Env):bP k (A.deeper env):=
 {r.hd,by have:=r.dp;show A.depth+1+3*k+5<_;omega,by have:=r.un;show A.units+3+16*k+200<_;omega,r.gd}
def xZ {A:R9}:(A.under (.builtin "type.__call__" {.ref C::us,kw})).depth=A.depth+1:=by
 first|rfl|simp[Around.under,Code.weight,Code.isCreation,Code.isGuard,Code.isCaller,Code.frames,Code.isFrame,guardIds]
def xY {A:R9}:(A.under (.builtin "type.__call__" {.ref C::us,kw})).units=A.units+1:=by
 first|rfl|simp[Around.under,Code.cUnits,Code.frames,Code.isFrame]
def bP.make (r:bP (k+1) A)(C:Addr)(us:List Qt)(j:List (Str×Qt)):bP k (A.under (.builtin "type.__call__" {.ref C::us,j})):=
 {r.hd,by have:=r.dp;rw[xZ];omega,by have:=r.un;rw[xY];omega,r.gd}
def bP.depth (r:bP k A):A.depth<recursionLimit:=by have:=r.dp;omega
def bP.units (r:bP k A):A.units+64<cLine:=by have:=r.un;omega
def Jl:TA:=λ_ H Q=>Q [] H
def My (ta:TE)(j:TA):TA:=λσ H Q=>ta σ H λx H1=>j σ H1 λxs H2=>Q (x::xs) H2
section
variable{X:Cx}{e:Expr}{es:List Expr}{te:TE}{t:TA}{pos:Pos}
def cY:PA X [] Jl:=λ_ _ _ _ H Q I h=>Calls.spliced_nil {[],H,I,.nil,h}
def bC (z:PE X e te)(hr:PA X es t)(hs:starEach (e::es) X.env=(false,eval e X.env)::starEach es X.env:=by rfl):PA X (e::es) (My te t):=by
 intro pos pins s σ H Q I h;rw[hs];refine Calls.spliced_cons (aO (z pins s σ H _ I h) λu s1 ⟨x,H1,j,r1,B⟩=>?_);exact aO (hr pos pins s1 σ H1 _ j B) λJ s2 ⟨xs,H2,y,r2,F⟩=>{x::xs,H2,y,.cons r1 r2,F}
def OE (t:TA):TE:=λσ H Q=>t σ H λxs H1=>xs.length<=sizeLine/\∀p,H1 p=none->Q (.ref p) (upd H1 p (.tup xs))
def OI (t:TA):TE:=λσ H Q=>t σ H λxs H1=>xs.length<=sizeLine/\∀p,H1 p=none->Q (.ref p) (upd H1 p (.lst xs))
def J4 {x1}(h:PA X es t):PE X (.Tuple es x1 pos) (OE t):=by
 intro pins s σ H Q I y;refine wpAny_Tuple_spliced (aO (h pos pins s σ H _ I y) λB s1 ⟨xs,H1,j,r,z,q⟩=>{by rw[<- r.length];exact z,?_})
 have hf:=j.hok.fresh (QA _);refine{.ref s1.heap.objs.size,upd H1 s1.heap.objs.size (.tup xs),j.laid (λb u e=>Qu _ e) (QA _) ?_,rfl,q _ hf};exact{z,B,r,{_,QU _ rfl,rfl,_,rfl}}
def J9 (h:PA X es t):PE X (.List es pos) (OI t):=by
 intro pins s σ H Q I y;refine wpAny_List_spliced (aO (h pos pins s σ H _ I y) λB s1 ⟨xs,H1,j,r,z,q⟩=>{by rw[<- r.length];exact z,?_})
 have hf:=j.hok.fresh (QA _);refine{.ref s1.heap.objs.size,upd H1 s1.heap.objs.size (.lst xs),j.laid (λb u e=>Qu _ e) (QA _) ?_,rfl,q _ hf};exact{z,B,0,r,QU _ rfl}
end
abbrev Sp:=List V->Hp->VK->XK->Prop
abbrev vG:=List Env->Hp->QC->XK->Qt->QC->Prop
structure pf (P:Rv) (w:Rf) (K:Qr) (mg:Str->Option Qt) (base:Heap) (A:R9) (outer:List Env) (s:QC) (H:Hp):Prop where
 frames:A.frames=some outer
 mod:Mod K mg base
 bs:∀b o,base.get? b=some o->s.heap.get? b=some o/\H b=none
 bsz:base.objs.size<=s.heap.objs.size
 funs:s.heap.FunFrames base outer
 frf:∀b∈fT outer,H b=none
 hok:d7 P w H s.heap
 bare:AllBare s.gens
def CE (outer:List Env)(P:Rv)(w:Rf)(H:Hp)(s:QC)(Q:VK)(u:Qt)(s':QC):Prop:=
 ∃v H',s'.os=s.os/\AllBare s'.gens/\Un (fT outer) [] H H' s.heap s'.heap/\d7 P w H' s'.heap/\RelV v u/\Q v H'
def CR (CX:vG)(outer:List Env)(P:Rv)(w:Rf)(H:Hp)(s:QC)(Q:VK)(E:XK)(r:Result)(s':QC):Prop:=
 match r with
 |.ok (.ret u)=>CE outer P w H s Q u s'
 |.ok _=>False
 |.error e=>CX outer H s E e s'
structure hD (P:Rv) (w:Rf) (K:Qr) (mg:Str->Option Qt) (base:Heap) (CX:vG) (k:Nat) (f:Addr) (fd:FuncData) (ps:List Str) (sp:Sp):Prop where
 len:∀vs H Q E,sp vs H Q E->vs.length=ps.length
 run:∀(A:R9) (outer:List Env) (s:QC) (H:Hp) (args:Args) (us:List Qt) (vs:List V) (Q:VK) (E:XK),bP k A->pf P w K mg base A outer s H->BindsTo s fd args (ps.zip us)->Vals vs us->sp vs H Q E->
  codeAny (model P w) A (.call (.ref f) args) (CR CX outer P w H s Q E) s
def pf.make {K:Qr}(e:pf P w K mg base A outer s H)(C:Addr)(us:List Qt)(j:List (Str×Qt)) :
 pf P w K mg base (A.under (.builtin "type.__call__" {.ref C::us,j})) outer s H:={by first|exact e.frames|(simpa[Around.under,Code.envs,Code.isFrame,pushEnvs] using e.frames),e.mod,e.bs,e.bsz,e.funs,e.frf,e.hok,e.bare}
section
variable{X:Cx}{pins:List (Addr×Obj)}{σ:St}{H:Hp}{s s':QC}
def Inv.env0 (I:Inv X pins σ H s):pf X.prog X.w X.K X.mg X.base X.A X.stack s H:=
 {I.ok.frames,I.ok.mod,I.bs,QH I.ok.bsz I.sz,I.stack,I.stkFree,I.hok,I.bare}
def Inv.after (I:Inv X pins σ H s)(h:CE X.stack X.prog X.w H s Q u s'):EP X pins σ Q u s':=by
 obtain⟨v,H',os,bare,un,hok,r,q⟩:=h;obtain⟨y,g,d,t,j⟩:=s';obtain rfl:j=s.os:=os;exact{v,H',I.call un hok bare (λb z=>absurd z `s),r,q}
end
def Em (sp:Sp)(dvs:List V)(E:XK)(t:TA):TE:=λσ H Q=>t σ H λvs H1=>sp (vs++dvs) H1 Q E
def xy (C:Addr)(m:Str)(sp:Sp)(dvs:List V)(E:XK)(ta:TE)(t:TA):TE:=λσ H Q=>ta σ H λx H1=>∃a dx fs,x=.ref a/\H1 a=some (.ins C dx fs)/\fs.lookup m=none/\
 t σ H1 λj H2=>sp (x::(j++dvs)) H2 Q E
def Mw (C:Addr)(sp:Sp)(dvs:List V)(E:XK)(t:TA):TE:=λσ H Q=>t σ H λj H1=>∀x dx,H1 x=none->H1 dx=none->dx≠x->
 sp (.ref x::(j++dvs)) (upd (upd H1 dx (.own x)) x (.ins C dx [])) (λv H2=>v=.non/\Q (.ref x) H2) E
def Binds (K:Qr)(fd:FuncData)(ps:List Str)(ds:List Qt):Prop:=
 ∀(s:QC) (j:List Qt),K.In s.heap->(j++ds).length=ps.length->BindsTo s fd {j,[]} (ps.zip (j++ds))
def Binds.all {K:Qr}(h:∀us:List Qt,us.length=ps.length->bindArgs fd {us,[]}=pure (ps.zip us)):Binds K fd ps []:=λs us _ hl=>by
 rw[Q8] at hl ⊢;exact .of_eq (h us hl)
def Passes (CX:vG)(X:Cx)(E:XK):Prop:=∀(pins:List (Addr×Obj)) (σ:St) (H:Hp) (s:QC) (e:Qt) (s':QC),Inv X pins σ H s->CX X.stack H s E e s'->X.xe e s'
section
variable{X:Cx}{CX:vG}{k:Nat}{f C:Addr}{fd:FuncData}{ps:List Str}{sp:Sp}{dvs:List V}{ds:List Qt}{E:XK}{x m:Str}{p pos apos:Pos}{e o:Expr}{es:List Expr}{ta:TE}{t:TA}
def pB (F:hD X.prog X.w X.K X.mg X.base CX k f fd ps sp)(hr:bP k X.A)(y:Binds X.K fd ps ds)(hd:Vals dvs ds)(z:Passes CX X E)
 (I:Inv X pins σ H s) (r:Vals vs us) (h:sp (vs++dvs) H Q E):wpAny (model X.prog X.w) X.A (call (.ref f) us) (EP X pins σ Q) X.xe s:=by
 have r2:=r.append hd;have hl:(us++ds).length=ps.length:=by rw[<- r2.length];exact F.len _ _ _ _ h
 refine wpAny_call (codeAny_mono (F.run X.A X.stack s H {us,[]} (us++ds) (vs++dvs) Q E hr I.env0 (y s us I.kIn hl) r2 h) λr s' j=>?_);cases r with
 |error e=>exact z pins σ H s e s' I j
 | ok fl=>
   cases fl with
   |ret u=>exact I.after j
   |next=>exact False.elim j
   |brk=>exact False.elim j
   |cont=>exact False.elim j
def G9 (F:hD X.prog X.w X.K X.mg X.base CX k f fd ps sp)(hr:bP k X.A)(L:Gl X x)(hm:X.mg x=some (.ref f))(hk:PySem.W.keepIn X.K (.ref f)=true)(J:Binds X.K fd ps ds)(hd:Vals dvs ds)(M:Passes CX X E)
 (B:PA X (e::es) t) (j:(x==("__debug__":Str))=false:=by decide) (he:starEach (e::es) X.env=(false,eval e X.env)::starEach es X.env:=by rfl) (y:(backTo pos (starEach es X.env)).any (·.1)=false:=by rfl) :
 PE X (.Call (.Name x p) (e::es) [] pos) (Em sp dvs E t):=by
 intro pins s σ H Q I h;refine wpAny_Call_Name_kw (gy I L hm ?_ j);refine Sn I.ok.mod.kin hk (aO (B pos pins s σ H _ I h) λO s1 ⟨R,H1,z,r,q⟩=>{z.kIn,?_}) he y;exact pB F hr J hd M z r q
def G7 (he:PE X o ta)(c:iG X.K C)(hm:Meth X.K C m f)(F:hD X.prog X.w X.K X.mg X.base CX k f fd ps sp)(hr:bP k X.A)(O:Binds X.K fd ps ds)(hd:Vals dvs ds)(S:Passes CX X E)(M:PA X (e::es) t)
 (y:starEach (e::es) X.env=(false,eval e X.env)::starEach es X.env:=by rfl) (j:(backTo pos (starEach es X.env)).any (·.1)=false:=by rfl)
 (R:eval (.Call (.Attribute o m apos) (e::es) [] pos) X.env=(do
  let J <- eval o X.env
  standAt apos.atName
  let(f,first) <- holding [J] (getMethod J m pl)
  callWith pos f first (backTo pos (starEach (e::es) X.env)) (backToKw pos (keywordEach [] X.env))):=by rfl) :
 PE X (.Call (.Attribute o m apos) (e::es) [] pos) (xy C m sp dvs E ta t):=by
 intro pins s σ H Q I h;refine PySem.W.methodCall_KW (aO (he pins s σ H _ I h) λu s1 ⟨x,H1,z,Y,a,dx,fs,ex,L,l,q⟩=>?_) R;subst ex;obtain rfl:u=Value.ref a:=Y;refine iS z L c hm l ?_;refine Sn I.ok.mod.kin hm.kp (aO (M pos pins s1 σ H1 _ z q) λus s2 ⟨vs,H2,B,r,U⟩=>{B.kIn,?_}) y j;exact pB (vs:=.ref a::vs) F hr O hd S B (.cons rfl r) U
def CC (he:PE X o ta)(c:iG X.K C)(hm:Meth X.K C m f)(F:hD X.prog X.w X.K X.mg X.base CX k f fd ps sp)(hr:bP k X.A)(B:Binds X.K fd ps ds)(hd:Vals dvs ds)(L:Passes CX X E)
 (J:eval (.Call (.Attribute o m apos) [] [] pos) X.env=(do
  let y <- eval o X.env
  standAt apos.atName
  let(f,first) <- holding [y] (getMethod y m pl)
  callWith pos f first (backTo pos (starEach [] X.env)) (backToKw pos (keywordEach [] X.env))):=by rfl) :
 PE X (.Call (.Attribute o m apos) [] [] pos) (xy C m sp dvs E ta Jl):=by
 intro pins s σ H Q I h;refine PySem.W.methodCall_KW (aO (he pins s σ H _ I h) λu s1 ⟨x,H1,j,M,a,dx,fs,ex,z,l,q⟩=>?_) J;subst ex;obtain rfl:u=Value.ref a:=M;refine iS j z c hm l ?_;exact PySem.W.callWith_K0 j.kIn hm.kp (pB (vs:=[.ref a]) F hr B hd L j (.cons rfl .nil) q)
structure Mk (K:Qr) (C f:Addr):Prop where
 makes:PySem.W.makesIn K C=true
 init:PySem.W.findIn K (.ref C) "__init__"=some (some (.ref f))
 fn:PySem.W.isFn K (.ref f)=true
 kp:PySem.W.keepIn K (.ref C)=true
def Cn (M:Mk X.K C f)(F:hD X.prog X.w X.K X.mg X.base CX k f fd ps sp)(hr:bP (k+1) X.A)(L:Binds X.K fd ps ds)(hd:Vals dvs ds)
 (O:Passes CX X E) (I:Inv X pins σ H s) (r:Vals vs us)
 (h:∀x dx,H x=none->H dx=none->dx≠x->sp (.ref x::(vs++dvs)) (upd (upd H dx (.own x)) x (.ins C dx [])) (λv H2=>v=.non/\Q (.ref x) H2) E) :
 wpAny (model X.prog X.w) X.A (call (.ref C) us) (EP X pins σ Q) X.xe s:=by
 have z:=h (s.heap.objs.size+1) s.heap.objs.size (I.hok.fresh (S0 _)) (I.hok.fresh (QA _)) (Q1 (Nat.lt_succ_self _));have y:=Inv.made (C:=C) I;have r2:Vals (V.ref (s.heap.objs.size+1)::(vs++dvs)) (Value.ref (s.heap.objs.size+1)::(us++ds)):=.cons rfl (r.append hd);have hl:(Value.ref (s.heap.objs.size+1)::us++ds).length=ps.length:=by
  have e:=r2.length;rw[F.len _ _ _ _ z] at e;exact e.symm
 refine wpAny_call (CS I.kIn M.makes M.init (SV.mp M.fn) (codeAny_mono (F.run _ X.stack _ _ {Value.ref (s.heap.objs.size+1)::us,[]} (Value.ref (s.heap.objs.size+1)::(us++ds)) _ _ E (hr.make C us [])
  (y.env0.make C us []) (L _ (Value.ref (s.heap.objs.size+1)::us) y.kIn hl) r2 z) λr s' j=>?_))
 cases r with
 |error e=>exact O pins σ _ _ e s' y j
 | ok fl=>
   cases fl with
   | ret u=>
     obtain⟨v,H',B,S,J,R⟩:=y.after j;subst J;exact{S,{V.ref (s.heap.objs.size+1),H',B,rfl,R}}
   |next=>exact False.elim j
   |brk=>exact False.elim j
   |cont=>exact False.elim j
def G8 (M:Mk X.K C f)(F:hD X.prog X.w X.K X.mg X.base CX k f fd ps sp)(hr:bP (k+1) X.A)(L:Gl X x)(hm:X.mg x=some (.ref C))(J:Binds X.K fd ps ds)(hd:Vals dvs ds)(O:Passes CX X E)
 (B:PA X (e::es) t) (j:(x==("__debug__":Str))=false:=by decide) (he:starEach (e::es) X.env=(false,eval e X.env)::starEach es X.env:=by rfl) (y:(backTo pos (starEach es X.env)).any (·.1)=false:=by rfl) :
 PE X (.Call (.Name x p) (e::es) [] pos) (Mw C sp dvs E t):=by
 intro pins s σ H Q I h;refine wpAny_Call_Name_kw (gy I L hm ?_ j);refine Sn I.ok.mod.kin M.kp (aO (B pos pins s σ H _ I h) λR s1 ⟨S,H1,z,r,q⟩=>{z.kIn,?_}) he y;exact Cn M F hr J hd O z r q
end
structure i8 (N P:List Str) (sc:Scope):Prop where
 kind:sc.kind=.function
 co:sc.isCoroutine=false
 gen:sc.isGenerator=false
 nd:N.Nodup
 pre:N.take P.length=P
 par:∀x∈P,sc.names.lookup x=some .local\/sc.names.lookup x=some .cell
 nofree:∀y∈sc.names,y.2≠.free
theorem sy {j:Str->Option NameKind}:∀{binds:List (Str×Qt)}{m:Str->Option Qt},(∀v,(x,v)∉binds)->bindL j binds m x=m x
 |[],_,_=>rfl
 | (n,v)::r,m,h=>by
   unfold bindL;rw[sy λw y=>h w (QD _ y)];split
   ·have:x≠n:=by rintro rfl;exact h v QS
    simp[this]
   ·rfl
def sD {j:Str->Option NameKind}:∀{binds:List (Str×Qt)}{m:Str->Option Qt},(∀v,(x,v)∉binds)->bindC j binds m x=m x
 |[],_,_=>rfl
 | (n,v)::r,m,h=>by
   unfold bindC;rw[sD λw y=>h w (QD _ y)];split
   ·rfl
   ·have:x≠n:=by rintro rfl;exact h v QS
    simp[this]
theorem sC {j:Str->Option NameKind}:∀{P:List Str}{vs:List Qt}{i:Nat}{m:Str->Option Qt},P.Nodup->P[i]?=some x->vs[i]?=some v->j x=some .local->
 bindL j (P.zip vs) m x=some v
 |[],_,_,_,_,h,_,_=>by simp at h
 |_::_,[],_,_,_,_,h,_=>by simp at h
 | p::P,w::vs,0,m,nd,h1,h2,hk=>by
   simp at h1 h2;subst h1;subst h2;show bindL j ((p,w)::P.zip vs) m p=_;unfold bindL;rw[sy λv y=>(RE.mp nd).1 (List.of_mem_zip y).1,if_pos hk];simp
 | p::P,w::vs,i+1,m,nd,h1,h2,hk=>by
   unfold bindL;exact sC (RE.mp nd).2 (by simpa using h1) (by simpa using h2) hk
theorem sE {j:Str->Option NameKind}:∀{P:List Str}{vs:List Qt}{i:Nat}{m:Str->Option Qt},P.Nodup->P[i]?=some x->vs[i]?=some v->j x≠some .local->
 bindC j (P.zip vs) m x=some v
 |[],_,_,_,_,h,_,_=>by simp at h
 |_::_,[],_,_,_,_,h,_=>by simp at h
 | p::P,w::vs,0,m,nd,h1,h2,hk=>by
   simp at h1 h2;subst h1;subst h2;show bindC j ((p,w)::P.zip vs) m p=_;unfold bindC;rw[sD λv y=>(RE.mp nd).1 (List.of_mem_zip y).1,if_neg hk];simp
 | p::P,w::vs,i+1,m,nd,h1,h2,hk=>by
   unfold bindC;exact sE (RE.mp nd).2 (by simpa using h1) (by simpa using h2) hk
noncomputable def start (N:List Str)(vs:List V):St:=vs.map some++List.replicate (N.length-vs.length) none
noncomputable def gn (CX:vG)(P:Rv)(w:Rf)(K:Qr)(mg:Str->Option Qt)(base:Heap)(N:List Str)(qual:Str)(j:Scope)(f:Addr)(cd:Qt)(A:R9)(outer:List Env)(s:QC)(H:Hp)(E:XK):Cx where
 prog:=P
 w:=w
 K:=K
 mg:=mg
 base:=base
 A:=A.deeper (envOfC qual j s.heap.objs.size f cd)
 N:=N
 s₀:=s
 H₀:=H
 env:=envOfC qual j s.heap.objs.size f cd
 outer:=outer
 stack:=envOfC qual j s.heap.objs.size f cd::outer
 ex:=[]
 calm:=true
 fn:=λ_=>true
 pn:=[]
 xe:=λe s'=>wpAny (model P w) (A.deeper (envOfC qual j s.heap.objs.size f cd)) (leaving (envOfC qual j s.heap.objs.size f cd) e) (λ_ y=>CX outer H s E e y) (λz y=>CX outer H s E z y) s'
def vd {sc:Scope}(h:sc.names.lookup x=some .cell):∃c,(cellsFrom n sc.names []).lookup x=some c:=by
 have q:=PySem.W.cellsFrom_some sc.names n [] (.inl h);exact Option.isSome_iff_exists.mp q
def AS {K:Qr}
 (S:i8 N ps scope) (hd:A.handled=none) (j:pf P w K mg base A outer s H) (hl:vs.length=ps.length) (r:Vals vs us)
 (x:InCallC s s.heap.objs.size (bindL (envOfC qual scope s.heap.objs.size f cd).kindOf (ps.zip us) λ_=>none) (cellsFrom (s.heap.objs.size+1) scope.names []) (bindC (envOfC qual scope s.heap.objs.size f cd).kindOf (ps.zip us) λ_=>none) s1) :
 Inv (gn CX P w K mg base N qual scope f cd A outer s H E) [] (start N vs) H s1:=by
 have O:ps.length<=N.length:=by have:=congrArg List.length S.pre;rw[R7] at this;omega
 obtain⟨h1,tk,rfl,hk⟩:=x.done;have F:∀b:Addr,b∉(gn CX P w K mg base N qual scope f cd A outer s H E).ex:=λb z=>absurd (show b∈([]:List Addr) from z) `s
 refine{{j.mod,S.kind,rfl,rfl,QA _,λy z c h1 h2=>?_,λy B=>?_,λy c _ h=>?_,λ_=>hd,Around.frames_deeper j.frames,.inr ⟨rfl,rfl⟩,λb z=>absurd z (F b),j.bs,j.bsz,λb _ _=>F b,λb z=>absurd z (F b),j.funs,j.frf},
  rfl,j.bare,Un.kept hk,{_,x.toInCall.ns,λi y v h1 h2 h3=>?_},λy c h=>{_,x.cell y c h},j.hok.fresh (QA _),λy c h=>?_,λp I=>absurd (show p∈([]:List (Addr×Obj)) from I) `s,j.hok.kept hk,?_}
 ·exact name_of_addr x.apart (SQ h1) (SQ h2)
 ·have B:=B;rcases B with B|B
  ·exact vd B
  ·exact absurd rfl (S.nofree _ (SQ B))
 ·exact Sk (x.above y c (SQ h))
 ·have hi:i<vs.length:=by
   unfold start at h2;by_cases hi:i<vs.length
   ·exact hi
   ·rw[QV (by simpa using hi)] at h2
    rw[SG] at h2;split at h2<;>cases h2
  have M:vs[i]?=some v:=by
   unfold start at h2;rw[QB (by simpa using hi),QX] at h2
   cases e:vs[i]? with
   |none=>rw[e] at h2;cases h2
   |some a=>rw[e] at h2;cases h2;rfl
  obtain⟨u,L,R⟩:=r.get M;have I:ps[i]?=some y:=by
   rw[<- S.pre,List.getElem?_take_of_lt `a];exact h1
  have J:ps.Nodup:=by rw[<- S.pre];exact S.nd.sublist (List.take_sublist _ _)
  refine{u,R,?_};rcases S.par y (Q0 I) with k|k
  ·exact .inl {k,sC J I L k}
  ·obtain⟨c,e⟩:=vd k;refine .inr {.inl k,c,e,?_};have q:=x.cell y c e;rw[sE J I L (by show scope.names.lookup y≠_;rw[k];decide)] at q
   exact q
 ·exact j.hok.fresh (Sk (x.above y c (SQ h)))
 ·unfold start;show _=N.length;rw[Q6,Qx,List.length_replicate];omega
def Nd {K:Qr}{dV kV L pm j ct oc:Qt}
 (lk:K.lookup f=some {oc,od,.func (PySem.W.fnOf name qual params body scope dV kV L pm an j ct),osl}) (U:PySem.W.codeIn K j qual=true) (S:i8 N ps scope)
 (len:∀vs H Q E,sp vs H Q E->vs.length=ps.length)
 (B:∀(A:R9) (outer:List Env) (s:QC) (H:Hp) (vs:List V) (Q:VK) (E:XK),bP k (A.deeper (envOfC qual scope s.heap.objs.size f j))->sp vs H Q E->
  ∃t,kG (gn CX P w K mg base N qual scope f j A outer s H E) body t/\t {nx:=λ_ H'=>Q .non H',rt:=Q} (start N vs) H) :
 hD P w K mg base CX (k+1) f (PySem.W.fnOf name qual params body scope dV kV L pm an j ct) ps sp:=by
 refine{len,λA outer s H args us vs Q E hr M hb r R=>?_};have hl:=len _ _ _ _ R;have KX:=M.mod.kin.keeps λb o e=>(M.bs b o e).1;have Y:=M.mod.nolimit.keeps λb o e=>(M.bs b o e).1;have F:∀y∈ps.zip us,scope.names.lookup y.1=some .local\/(scope.names.lookup y.1=some .cell/\((cellsFrom (s.heap.objs.size+1) scope.names []).lookup y.1).isSome=true):=λ⟨n,v⟩ hy=>by
  rcases S.par n (List.of_mem_zip hy).1 with q|q
  ·exact .inl q
  ·exact .inr {q,PySem.W.cellsFrom_some _ _ _ (.inl q)}
 refine codeAny_call_function hr.depth (KX _ _ lk) rfl S.co S.gen rfl (PySem.W.codeRec_of KX U) (hb _ _ _ _ ?_);refine wpAny_newFunctionEnv_cells S.kind F λenv he s1 x=>?_;subst he;refine{Y.keeps x.toInCall.keep,codeAny_func ?_};obtain⟨t,ht,hq⟩:=B A outer s H vs Q E (hr.deeper _) R;have I:Inv (gn CX P w K mg base N qual scope f j A outer s H E) [] (start N vs) H s1:=AS S hr.hd M hl r x;refine wpAny_mono (ht [] s1 (start N vs) H _ I hq) (λfl s' hs=>?_) λe s' hs=>hs;have O:∀{z:St}{H':Hp}{v:V}{u:Qt},Inv (gn CX P w K mg base N qual scope f j A outer s H E) [] z H' s'->RelV v u->Q v H'->CE outer P w H s Q u s':=
  λ{z H' v u} J rv q=>⟨v,H',J.os,J.bare,J.base,J.hok,rv,q⟩
 cases fl with
 | ret u=>
   obtain⟨v,z,H',J,rv,q⟩:=hs;exact O J rv q
 | next=>
   obtain⟨z,H',J,q⟩:=hs;exact O (v:=V.non) J rfl q
 | brk=>
   obtain⟨_,_,_,q⟩:=hs;exact False.elim q
 | cont=>
   obtain⟨_,_,_,q⟩:=hs;exact False.elim q
section
variable{X:Cx}{x:Str}{p pos:Pos}{e:Expr}{es:List Expr}{t:TA}{id T:String}{r:List V->Hp->VK->Prop}
def N4 (r:List V->Hp->VK->Prop)(t:TA):TE:=λσ H Q=>t σ H λj H1=>r j H1 Q
def gm (F:b4 X (.builtin id) r)(J:Gl X x)(hm:X.mg x=none)(L:bootBuiltins x=some (.builtin id))(B:PA X (e::es) t)(hn:x≠"__name__":=by decide)(j:(x==("__debug__":Str))=false:=by decide)
 (he:starEach (e::es) X.env=(false,eval e X.env)::starEach es X.env:=by rfl) (y:(backTo pos (starEach es X.env)).any (·.1)=false:=by rfl):PE X (.Call (.Name x p) (e::es) [] pos) (N4 r t):=by
 intro pins s σ H Q I h;refine wpAny_Call_Name_kw (gV I J hm L ?_ hn j);exact PyProof.Rows.callWith_builtin1 (aO (B pos pins s σ H _ I h) λO s1 ⟨R,H1,z,r1,M⟩=>F pins s1 σ H1 R O Q z r1 M) he y
def Ah (F:b4 X (.type T) r)(J:Gl X x)(hm:X.mg x=none)(L:bootBuiltins x=some (.type T))(B:PA X (e::es) t)(hn:x≠"__name__":=by decide)(j:(x==("__debug__":Str))=false:=by decide)
 (he:starEach (e::es) X.env=(false,eval e X.env)::starEach es X.env:=by rfl) (y:(backTo pos (starEach es X.env)).any (·.1)=false:=by rfl):PE X (.Call (.Name x p) (e::es) [] pos) (N4 r t):=by
 intro pins s σ H Q I h;refine wpAny_Call_Name_kw (gV I J hm L ?_ hn j);exact RN (aO (B pos pins s σ H _ I h) λO s1 ⟨R,H1,z,r1,M⟩=>F pins s1 σ H1 R O Q z r1 M) he y
end
end L2
namespace HT
open PySem PyProof.Rows
section
variable{prog:Rv}{w:Rf}{A:R9}{E:Qt->QC->Prop}{s:QC}
def Ih (W:IsTup s.heap t vs.toArray)(S:IsTup s.heap b ws.toArray)(R:vs≠[])
 (h1:ws=[]->Q (.ref t) s) (h2:ws≠[]->Q (.ref s.heap.objs.size) {s with heap:=s.heap.push {cls:=.type "tuple",data:=.seq (vs++ws).toArray}})
 (hsz:vs.length+ws.length<=sizeLine):wpAny (model prog w) A (binaryOp .Add (.ref t) (.ref b)) Q E s:=by
 obtain⟨⟨cls,O,data,sl⟩,ho,U,n,hd⟩:=id W;obtain⟨⟨M,y,I,z⟩,j,J,n2,L⟩:=id S;subst U hd J L;have e:vs.toArray++ws.toArray=(vs++ws).toArray:=`s
 by_cases B:ws=[]
 ·exact concat_meets {_,ho,rfl} {_,j,rfl} noFill_tuple_add seq_tuple_add PySem.F.slot_tuple_add PySem.F.entry_tuple_add (PySem.F.args_tuple_add_2 _ _)
   (tuple_addW1 t b vs.toArray ws.toArray n n2 O y sl z (by simpa using R) (by simp[B])) {ho,j,h1 B}
 ·refine concat_meets {_,ho,rfl} {_,j,rfl} noFill_tuple_add seq_tuple_add PySem.F.slot_tuple_add PySem.F.entry_tuple_add (PySem.F.args_tuple_add_2 _ _)
   (tuple_addW2 t b vs.toArray ws.toArray n n2 O y sl z (by simpa using R) (by simpa using B) (by rw[QE,QE];exact hsz)) {ho,j,?_}
  rw[e];exact h2 B
noncomputable def aR (n d:Nat):Option Int->Nat
 |none=>d
 |some v=>if v<0 then(v+(n:Int)).toNat else min v.toNat n
def xh (v:Int)(n d:Nat):(if v<0 then max (v+(n:Int)) 0 else min v (n:Int))=((aR n d (some v):Nat):Int):=by
 show(if v<0 then max (v+(n:Int)) 0 else min v (n:Int))=(((if v<0 then(v+(n:Int)).toNat else min v.toNat n):Nat):Int);by_cases j:v<0
 ·simp only[if_pos j];omega
 ·simp only[if_neg j];omega
def yF (lo hi:Option Int)(n:Nat):Builtin.Slice.sliceAdjust lo hi 1 (n:Int)=(((aR n 0 lo:Nat):Int),((aR n n hi:Nat):Int)):=by
 refine Prod.ext ?_ ?_
 ·cases lo with
  |none=>rfl
  |some v=>exact xh v n 0
 ·cases hi with
  |none=>rfl
  |some v=>exact xh v n n
def xJ (i j:Nat):Builtin.Slice.slicePlaces (i:Int) (j:Int) 1=j-i:=by
 unfold Builtin.Slice.slicePlaces;split<;>omega
def pA (p:IsPart v o)(h:Q o s):wpAny (model prog w) A (Builtin.Slice.slicePartIndex v) Q E s:=by
 cases p with
 |none=>exact slicePart_none h
 |int i t=>exact slicePart_int h
def jc {lo hi:Option Int}{Q:Int×Int×Nat->QC->Prop}(hs:s.heap.IsSliceOf sl vl vu .none)(pl:IsPart vl lo)(B:IsPart vu hi)
 (h:Q (((aR n 0 lo:Nat):Int),1,aR n n hi-aR n 0 lo) s):wpAny (model prog w) A (Builtin.Slice.sliceApplied (.ref sl) (pure (n:Int))) Q E s:=by
 obtain⟨os,y,z,j⟩:=id hs;refine tqa (tqa (tqf y j rfl (tqa (tqf y j rfl (tqa (tqf y j rfl (tqb ?_)))))));refine tqa (slicePart_none ?_);rw[if_neg `d]
 refine tqa (pA pl (tqa (pA B (tqa (tqb ?_)))));show wpAny _ _ (match Builtin.Slice.sliceAdjust lo hi 1 (n:Int) with|(lo,hi)=>pure (lo,(1:Int),Builtin.Slice.slicePlaces lo hi 1)) _ _ s
 rw[yF lo hi n];show wpAny _ _ (pure (((aR n 0 lo:Nat):Int),(1:Int),Builtin.Slice.slicePlaces ((aR n 0 lo:Nat):Int) ((aR n n hi:Nat):Int) 1)) _ _ s;rw[xJ];exact tqb h
def CA (xs:Array Qt)(i k:Nat):((List.range k).filterMap λ(m:Nat)=>xs[((i:Int)+(m:Int)*1).toNat]?).toArray=((xs.toList.drop i).take k).toArray:=by
 have e:(λ(m:Nat)=>xs[((i:Int)+(m:Int)*1).toNat]?)=λm=>xs[i+m]?:=by
  funext m
  have:((i:Int)+(m:Int)*1).toNat=i+m:=`a
  rw[this]
 rw[e];have:=pick_run xs i k;rw[List.filterMap_map] at this;have e2:((λx=>xs[x]?)∘λx=>i+x)=λm=>xs[i+m]?:=rfl;rw[e2] at this;rw[this]
def nW {lo hi:Option Int}(y:IsTup s.heap t items)(hs:s.heap.IsSliceOf sl vl vu .none)(pl:IsPart vl lo)(M:IsPart vu hi)
 (L:¬ (aR items.size 0 lo=0/\aR items.size items.size hi=items.size))
 (h:Q (.ref s.heap.objs.size) {s with heap:=s.heap.push {cls:=.type "tuple",data:=.seq ((items.toList.drop (aR items.size 0 lo)).take (aR items.size items.size hi-aR items.size 0 lo)).toArray}})
 (hsz:items.size<=sizeLine):wpAny (model prog w) A (getItem (.ref t) (.ref sl)) Q E s:=by
 have j:sizeOk (.seq ((items.toList.drop (aR items.size 0 lo)).take (aR items.size items.size hi-aR items.size 0 lo)).toArray):=by
  show((items.toList.drop (aR items.size 0 lo)).take (aR items.size items.size hi-aR items.size 0 lo)).toArray.size<=sizeLine;rw[QE,R7,List.length_drop,SA];omega
 obtain⟨os,I,B,J⟩:=id hs;have z:s.TypeIs (.ref sl) "slice":=⟨os,I,B⟩;unfold getItem;try with_reducible refine tqo ?_
 first|refine tqa (tqb ?_)|skip
 refine tqa (wpAny_sequenceKey y.typeIs `d ?_)
 refine tqa (wpAny_callSpecial?_slot y.typeIs RR
  (wpAny_call_entry RR y.typeIs entry_tuple_getitem ?_ (args_tuple_getitem _ _)))
 show wpAny _ _ (Builtin.Tuple.tupleItemsOf (.ref t) >>= _) _ _ s;refine tqa (tupleItemsOf_ y ?_);refine tqa (wpAny_typeOf z ?_);rw[if_pos `d]
 refine tqa (jc hs pl M ?_);have F:¬ ((((aR items.size 0 lo:Nat):Int)==0&&(1:Int)==1&&(aR items.size items.size hi-aR items.size 0 lo)==items.size)=true):=by
  intro q;rw[Qw,Qw] at q;have O:=eq_of_beq q.1.1;have R:=eq_of_beq q.2;exact L {`a,`a}
 show wpAny _ _ (if (((aR items.size 0 lo:Nat):Int)==0&&(1:Int)==1&&(aR items.size items.size hi-aR items.size 0 lo)==items.size)=true then _ else _) _ _ s;rw[if_neg F,CA];first
  |exact tqa (wpAny_newObj_type (tqb {_,rfl,tqb h}) j)
  |exact tqa (wpAny_newObj_type (tqa (tqb (tqb {_,rfl,tqb h}))) j)
  |exact tqa (tqa (wpAny_newObj_type (tqb (tqb {_,rfl,tqb h})) j))
  |exact tqa (tqa (wpAny_newObj_type (tqb {_,rfl,tqb h}) j))
end
end HT
namespace L2
open PySem PySem.Spec PyProof.Rows
abbrev TO:=St->Hp->(Option Int->Hp->Prop)->Prop
def PO (X:Cx)(e:Option Expr)(t:TO):Prop:=
 ∀(pins:List (Addr×Obj)) (s:QC) (σ:St) (H:Hp) (Q:Option Int->Hp->Prop),Inv X pins σ H s->t σ H Q->
  wpAny (model X.prog X.w) X.A (evalPart e X.env) (λu s'=>∃o H',Inv X pins σ H' s'/\IsPart u o/\Q o H') X.xe s
def Gd:TO:=λ_ H Q=>Q none H
def Ms (t:TE):TO:=λσ H Q=>t σ H λx H1=>∃i,x=.int i/\Q (some i) H1
section
variable{X:Cx}{e:Expr}{te:TE}{lo hi:Option Expr}{tl th:TO}{pos p2:Pos}
def G4:PO X none Gd:=by
 intro pins s σ H Q I h;rw[evalPart_none];exact tqb {none,H,I,.none,h}
def G3 (h:PE X e te):PO X (some e) (Ms te):=by
 intro pins s σ H Q I y;rw[evalPart_some];refine aO (h pins s σ H _ I y) λu s1 ⟨x,H1,j,r1,z⟩=>?_;obtain⟨i,rfl,q⟩:=z;obtain⟨t,rfl⟩:=r1;exact{some i,H1,j,.int i t,q}
def mX (X:Cx)(r:V->Option Int->Option Int->Hp->VK->Prop):Prop:=
 ∀(pins:List (Addr×Obj)) (s:QC) (σ:St) (H:Hp) (x:V) (v j y:Qt) (lo hi:Option Int) (sl:Addr) (Q:VK),Inv X pins σ H s->RelV x v->s.heap.IsSliceOf sl j y .none->IsPart j lo->IsPart y hi->r x lo hi H Q->
  ∃T id,typeLookup (.type T) "__getitem__"=pure (some (.builtin id))/\s.TypeIs v T/\wpAny (model X.prog X.w) X.A (getItem v (.ref sl)) (EP X pins σ Q) X.xe s
def mX.or (h:mX X r)(h':mX X r'):mX X (λx lo hi H Q=>r x lo hi H Q\/r' x lo hi H Q):=by
 intro pins s σ H x v z B lo hi sl Q I y hs pl j q;rcases q with q|q
 ·exact h pins s σ H x v z B lo hi sl Q I y hs pl j q
 ·exact h' pins s σ H x v z B lo hi sl Q I y hs pl j q
def tSl (r:V->Option Int->Option Int->Hp->VK->Prop)(te:TE)(tl th:TO):TE:=λσ H Q=>te σ H λx H1=>tl σ H1 λl H2=>th σ H2 λu j=>r x l u j Q
def CB (hr:mX X r)(he:PE X e te)(hl:PO X lo tl)(U:PO X hi th):PE X (.Subscript e (.Slice lo hi none p2) pos) (tSl r te tl th):=by
 intro pins s σ H Q I h;refine Subscript_ (aO (he pins s σ H _ I h) λv s1 ⟨x,H1,F,r1,Y⟩=>?_);refine wpAny_Slice (aO (hl pins s1 σ H1 _ F Y) λy s2 ⟨l,H2,J,pl,q2⟩=>aO (U pins s2 σ H2 _ J q2) λz j ⟨u,B,L,W,q3⟩=>?_);rw[evalPart_none];refine tqb ?_;have M:Inv X pins σ B {j with heap:=j.heap.push {cls:=.type "slice",data:=.fields #[y,z,.none]}}:=L.kept λb ob q=>Qu _ q
 obtain⟨T,id,O,S,R⟩:=hr pins {j with heap:=j.heap.push {cls:=.type "slice",data:=.fields #[y,z,.none]}} σ B x v y z l u j.heap.objs.size Q M r1 (Heap.IsSliceOf.new ..) pl W q3
 exact tail_any S O R (by with_unfolding_all rfl)
def rb (xs:List V)(lo hi:Option Int):List V:=(xs.drop (HT.aR xs.length 0 lo)).take (HT.aR xs.length xs.length hi-HT.aR xs.length 0 lo)
def n9 (xs:List V)(lo hi:Option Int):(rb xs lo hi).length<=xs.length:=by
 unfold rb;rw[R7,List.length_drop];omega
def JO (K:Qr):V->Option Int->Option Int->Hp->VK->Prop:=λx lo hi H Q=>∃a xs,x=.ref a/\dD K H a xs/\
 ¬ (HT.aR xs.length 0 lo=0/\HT.aR xs.length xs.length hi=xs.length)/\∀p,H p=none->Q (.ref p) (upd H p (.tup (rb xs lo hi)))
def Js:mX X (JO X.K):=by
 intro pins s σ H x v O R lo hi sl Q I M hs pl L h;obtain⟨a,xs,rfl,J,F,q⟩:=h;cases M;obtain⟨y,r,z,B⟩:=I.tuple J;have j:y.toArray.size=xs.length:=by rw[QE];exact r.length.symm
 refine{"tuple",_,RR.lookup,z.typeIs,?_};refine HT.nW z hs pl L (by rw[j];exact F) ?_ (by rw[j];exact B)
 rw[j];refine{.ref s.heap.objs.size,_,I.laid (λb ob q=>Qu _ q) (QA _) ?_,rfl,q _ (I.hok.fresh (QA _))};exact{QH (n9 xs lo hi) B,_,(r.drop (HT.aR xs.length 0 lo)).take (HT.aR xs.length xs.length hi-HT.aR xs.length 0 lo),IsTup.new _ _}
def MH (K:Qr):R2:=λx y H Q=>∃a b xs ys,x=.ref a/\y=.ref b/\dD K H a xs/\dD K H b ys/\xs≠[]/\xs.length+ys.length<=sizeLine/\
 (ys=[]->Q (.ref a) H)/\(ys≠[]->∀p,H p=none->Q (.ref p) (upd H p (.tup (xs++ys))))
def Vals.nil_iff (r:Vals xs us):us=[]↔xs=[]:=by
 cases r with
 |nil=>simp
 |cons _ _=>simp
def Hd:bF X (binaryOp .Add) (MH X.K):=by
 intro pins s σ H x y v u Q I S U h;obtain⟨a,b,xs,ys,rfl,rfl,F,J,L,j,O,R⟩:=h;cases S;cases U;obtain⟨M,r1,p1,_⟩:=I.tuple F;obtain⟨B,r2,p2,_⟩:=I.tuple J;refine HT.Ih p1 p2 (λz=>L (r1.nil_iff.mp z)) (λz=>{.ref a,H,I,rfl,O (r2.nil_iff.mp z)}) (λz=>?_) (by rw[<- r1.length,<- r2.length];exact j)
 refine{.ref s.heap.objs.size,_,I.laid (λb ob q=>Qu _ q) (QA _) ?_,rfl,R (λw=>z (r2.nil_iff.mpr w)) _ (I.hok.fresh (QA _))};exact{by rw[Q6];exact j,_,r1.append r2,IsTup.new _ _}
end
def bT (n:Nat)(i:Int):Option Nat:=if 0<=i then(if i<n then some i.toNat else none) else if -(n:Int)<=i then some (i+n).toNat else none
def sI {y:Type}(xs:List y)(i:Int):Option y:=(bT xs.length i).bind λj=>xs[j]?
def wL {n:Nat}{i:Int}{j:Nat}(h:bT n i=some j):seqIndex? i n=some j/\j<n/\-(n:Int)<=i/\i<n:=by
 unfold bT at h;by_cases y:0<=i
 ·rw[if_pos y] at h;by_cases h1:i<n
  ·rw[if_pos h1] at h;have e:=Qz h;exact{by rw[seqIndex_of y h1,e],`a,`a,h1}
  ·rw[if_neg h1] at h;cases h
 ·rw[if_neg y] at h;by_cases h1:-(n:Int)<=i
  ·rw[if_pos h1] at h;have e:=Qz h;exact{by rw[seqIndex_neg `a h1,e],`a,h1,`a}
  ·rw[if_neg h1] at h;cases h
def rj {y:Type}{xs:List y}{i:Int}{v:y}(h:sI xs i=some v):∃j,seqIndex? i xs.length=some j/\xs[j]?=some v/\j<xs.length/\-(xs.length:Int)<=i/\i<xs.length:=by
 unfold sI at h;cases e:bT xs.length i with
 |none=>rw[e] at h;cases h
 | some j=>
   rw[e] at h;obtain⟨h1,h2,h3,h4⟩:=wL e;exact⟨j,h1,h,h2,h3,h4⟩
def gG (b:Expr):Prop:=∀o i,subscripted b false o i=operate [o,i] (getItem o i)
def jY (X:Cx)(r:R2):Prop:=
 ∀(value j:Expr) (pins:List (Addr×Obj)) (s:QC) (σ:St) (H:Hp) (x y:V) (v u:Qt) (Q:VK),Inv X pins σ H s->RelV x v->RelV y u->r x y H Q->
  subscripted j false v u=operate [v,u] (getItem v u)->wpAny (model X.prog X.w) X.A (subscriptTail value j v u) (EP X pins σ Q) X.xe s
def Fy (X:Cx)(id:String)(r:V->List V->Hp->VK->Prop):Prop:=
 ∀(pins:List (Addr×Obj)) (s:QC) (σ:St) (H:Hp) (x:V) (xs:List V) (v:Qt) (j:List Qt) (Q:VK),Inv X pins σ H s->RelV x v->Vals xs j->r x xs H Q->
  wpAny (model X.prog X.w) X.A (call (.builtin id) (v::j)) (EP X pins σ Q) X.xe s
section
variable{X:Cx}{a b:Expr}{ta tb:TE}{pos:Pos}
def jY.or (h:jY X r)(h':jY X r'):jY X (λx y H Q=>r x y H Q\/r' x y H Q):=by
 intro value j pins s σ H x y v u Q I z B q hs;rcases q with q|q
 ·exact h value j pins s σ H x y v u Q I z B q hs
 ·exact h' value j pins s σ H x y v u Q I z B q hs
def pH (hr:jY X r)(z:PE X a ta)(B:PE X b tb)(hs:gG b):PE X (.Subscript a b pos) (zv r ta tb):=by
 intro pins s σ H Q I h;exact Subscript_ (Du z B I h λv u s2 x y H2 j F J q=>hr a b pins s2 σ H2 x y v u Q j F J q (hs _ _))
def JS (K:Qr):R2:=λx y H Q=>∃p xs i v,x=.ref p/\y=.int i/\cF K H p xs/\sI xs i=some v/\Q v H
def JQ (K:Qr):R2:=λx y H Q=>∃p xs i v,x=.ref p/\y=.int i/\dD K H p xs/\sI xs i=some v/\Q v H
def JR:R2:=λx y H Q=>∃z i c,x=.str z/\y=.int i/\z.length<=sizeLine/\sI z.cps.toList i=some c/\Q (.str {#[c]}) H
def Hr:jY X (JS X.K):=by
 intro value M pins s σ H x y v u Q I W Y h hs;obtain⟨p,xs,i,z,rfl,rfl,U,he,q⟩:=h;cases W;obtain⟨t,rfl⟩:=Y;obtain⟨J,r,pl,hz⟩:=I.list U;obtain⟨j,h1,h2,h3,h4,S⟩:=rj he;obtain⟨w,O,L⟩:=r.get h2;have hl:=r.length;have hn:=jm;have B:EP X pins σ Q w s:=⟨z,H,I,L,q⟩;by_cases R:0<=i
 ·have F:i.toNat=j:=by
   rw[seqIndex_of R S] at h1;exact Qz h1
  exact item_listR pl.isList R `a (by rw[F];simpa using O) B hs
 ·have F:(i+(J.toArray.size:Int)).toNat=j:=by
   rw[seqIndex_neg `a h4] at h1
   rw[QE,<- hl];exact Qz h1
  exact subscriptTail_builtinR pl.isList.typeIs slot_list_getitem.lookup
   (wpAny_getItem_list_neg pl.isList `a (by rw[QE]<;>omega) `a (by rw[F];simpa using O) ⟨rfl,B⟩) hs
def KZ:jY X (JQ X.K):=by
 intro value J pins s σ H x y v u Q I R S h hs;obtain⟨p,xs,i,z,rfl,rfl,M,he,q⟩:=h;cases R;obtain⟨t,rfl⟩:=S;obtain⟨O,r,pl,W⟩:=I.tuple M;obtain⟨j,h1,h2,h3,h4,U⟩:=rj he;obtain⟨w,L,F⟩:=r.get h2;have hl:=r.length;have hn:=jm;have B:EP X pins σ Q w s:=⟨z,H,I,F,q⟩;exact subscriptTail_builtinR pl.typeIs slot_tuple_getitem.lookup
  (getItem_tuple pl `a `a (by rw[QE,<- hl];exact h1) (by simpa using L) ⟨rfl,B⟩) hs
def K0:jY X JR:=by
 intro value B pins s σ H x y v u Q I J L h hs;obtain⟨z,i,c,rfl,rfl,M,he,q⟩:=h;obtain⟨t,rfl⟩:=J;obtain⟨O,rfl⟩:=L;obtain⟨j,h1,h2,h3,h4,F⟩:=rj he;have hl:z.cps.toList.length=z.length:=by simp[Str.length]
 rw[hl] at h1 h4 F;have hn:=jm;exact tail_any (typeIs_str s z t) slot_str_getitem.lookup (getItem_str (by
  have e1:decide (i < -(2^63:Int))=false:=decide_eq_false `a
  have e2:decide (i≥2^63)=false:=decide_eq_false `a
  rw[e1,e2,Bool.or_false]) (by rw[h1];simpa using h2) {.str {#[c]},H,I.tok _,{_,rfl},q}) hs
def JT (K:Qr):R2:=λx y H Q=>JS K x y H Q\/JQ K x y H Q\/JR x y H Q
def K1:jY X (JT X.K):=Hr.or (KZ.or K0)
def xX (its:List Qt)(n j:Nat)(u:Qt):Obj.mapSeq (·.setIfInBounds j u) {cls:=.type "list",data:=.seq its.toArray n}={cls:=.type "list",data:=.seq (its.set j u).toArray n}:=by
 simp[Obj.mapSeq]
def Inv.lst (I:Inv X pins σ H s)(h:H p=some (.lst xs)) :
 ∃(j:List Qt) (n:Nat),Vals xs j/\s.heap.get? p=some {cls:=.type "list",data:=.seq j.toArray n}/\xs.length<=sizeLine:=by
 obtain⟨z,j,n,r,e⟩:=I.hok p _ h;exact⟨j,n,r,e,z⟩
def Inv.lstUpd {pins:List (Addr×Obj)}{σ:St}{H:Hp}{s:QC}{p:Addr}{xs ys:List V}{j its':List Qt}{n n':Nat}{f:Obj->Obj}(I:Inv X pins σ H s)(h:H p=some (.lst xs))
 (ho:s.heap.get? p=some {cls:=.type "list",data:=.seq j.toArray n}) (hf:f {cls:=.type "list",data:=.seq j.toArray n}={cls:=.type "list",data:=.seq its'.toArray n'}) (r:Vals ys its') (hz:ys.length<=sizeLine) (t:Nat) :
 Inv X pins σ (upd H p (.lst ys)) {s with heap:=s.heap.update p f,toks:=t}:=by
 have e:(s.heap.update p f).get? p=some {cls:=.type "list",data:=.seq its'.toArray n'}:=by
  rw[Sb f ho (by rw[hf]<;>rfl),hf]
 refine I.write (by rw[h];trivial) (.inl rfl) (λb u y q=>(R4 _ _ (RF y)).trans q) {_,e} ?_
 exact⟨hz,its',n',r,e⟩
def Eu:V->V->V->Hp->(Hp->Prop)->Prop:=λo i v H Q=>∃p xs k j,o=.ref p/\i=.int k/\H p=some (.lst xs)/\bT xs.length k=some j/\Q (upd H p (.lst (xs.set j v)))
def set_list:DH X Eu:=by
 intro pins s σ H o i v S R u Q I ro M O h;obtain⟨p,xs,k,j,rfl,rfl,F,J,q⟩:=h;cases ro;obtain⟨t,rfl⟩:=M;obtain⟨y,n,r,ho,L⟩:=I.lst F;obtain⟨h1,h2,h3,h4⟩:=wL J;have hl:=r.length;have hn:=jm;have z:Inv X pins σ (upd H p (.lst (xs.set j v))) {s with heap:=s.heap.update p (Obj.mapSeq (·.setIfInBounds j u))}:=
  I.lstUpd F ho (xX y n j u) (r.set O j) (by rw[List.length_set];exact L) s.toks
 by_cases B:0<=k
 ·have hk:k.toNat=j:=by
   rw[seqIndex_of B h4] at h1;exact Qz h1
  exact PySem.W.ki_setAt ho B `a (by rw[QE,<- hl];exact h4) (by rw[hk];exact{_,z,q})
 ·have hk:(k+(y.toArray.size:Int)).toNat=j:=by
   rw[seqIndex_neg `a h3] at h1
   rw[QE,<- hl];exact Qz h1
  exact PySem.W.ki_setBack ho `a (by rw[QE,<- hl];exact h3) `a (by rw[hk];exact{_,z,q})
def tX (lo hi:Option Int)(n:Nat):(sliceBounds lo hi none n).1=((HT.aR n 0 lo:Nat):Int)/\(sliceBounds lo hi none n).2.1=((HT.aR n n hi:Nat):Int)/\(sliceBounds lo hi none n).2.2=1:=by
 refine{?_,?_,rfl}
 ·cases lo with
  |none=>simp[sliceBounds,HT.aR]
  | some i=>
    simp only[sliceBounds,HT.aR,Option.getD_none,show(1:Int) > 0 by decide,if_true]
    by_cases h:i<0
    ·simp only[h,if_true]<;>omega
    ·simp only[h,if_false]<;>omega
 ·cases hi with
  |none=>simp[sliceBounds,HT.aR]
  | some i=>
    simp only[sliceBounds,HT.aR,Option.getD_none,show(1:Int) > 0 by decide,if_true]
    by_cases h:i<0
    ·simp only[h,if_true]<;>omega
    ·simp only[h,if_false]<;>omega
def sL (j:List Qt)(lo hi:Option Int):slicePick j.toArray lo hi none=((j.drop (HT.aR j.length 0 lo)).take (HT.aR j.length j.length hi-HT.aR j.length 0 lo)).toArray:=by
 obtain⟨h1,h2,h3⟩:=tX lo hi j.toArray.size;unfold slicePick;rw[h1,h2,h3];simp only[sliceRange_one,pick_run,QE]<;>rfl
def JP (K:Qr):V->Option Int->Option Int->Hp->VK->Prop:=λx lo hi H Q=>∃a xs,x=.ref a/\cF K H a xs/\∀p,H p=none->Q (.ref p) (upd H p (.lst (rb xs lo hi)))
def Gy:mX X (JP X.K):=by
 intro pins s σ H x v M O lo hi sl Q I L hs pl J h;obtain⟨a,xs,rfl,z,q⟩:=h;cases L;obtain⟨F,r,y,B⟩:=I.list z;have j:=r.length;refine{"list",_,slot_list_getitem.lookup,y.isList.typeIs,?_};refine wpAny_getItem_list_slice y.isList hs pl J .none `s ?_ (by rw[QE]<;>omega)
 rw[sL,<- j];refine{.ref s.heap.objs.size,_,I.laid (λb ob q=>Qu _ q) (QA _) ?_,rfl,q _ (I.hok.fresh (QA _))};exact{QH (n9 xs lo hi) B,_,0,(r.drop (HT.aR xs.length 0 lo)).take (HT.aR xs.length xs.length hi-HT.aR xs.length 0 lo),QU _ rfl}
def vh:b4 X (.builtin "len") (λxs H Q=>∃p ys,xs=[.ref p]/\(cF X.K H p ys\/dD X.K H p ys)/\Q (.int ys.length) H):=by
 intro pins s σ H xs L Q I r h;obtain⟨p,ys,rfl,y,q⟩:=h;obtain⟨u,rfl,J⟩:=vals1 r;cases J;have hn:=jm;rcases y with y|y
 ·obtain⟨z,B,pl,F⟩:=I.list y;have j:=B.length;exact Calls.call_len_list pl.isList (by simp only[QE]<;>omega) {.int ys.length,H,I.tok _,{s.toks+1,by rw[QE,j]},q}
 ·obtain⟨z,B,pl,F⟩:=I.tuple y;have j:=B.length;exact len_tuple pl (by simp only[QE]<;>omega) {.int ys.length,H,I.tok _,{s.toks+1,by rw[QE,j]},q}
def vg:b4 X (.builtin "len") (λxs H Q=>∃z,xs=[.str z]/\z.length<=sizeLine/\Q (.int z.length) H):=by
 intro pins s σ H xs y Q I r h;obtain⟨z,rfl,j,q⟩:=h;obtain⟨u,rfl,t,rfl⟩:=vals1 r;have hn:=jm;exact len_str `a {.int z.length,H,I.tok _,{_,rfl},q}
def b4.or (h:b4 X f r)(h':b4 X f r'):b4 X f (λxs H Q=>r xs H Q\/r' xs H Q):=by
 intro pins s σ H xs j Q I rs q;rcases q with q|q
 ·exact h pins s σ H xs j Q I rs q
 ·exact h' pins s σ H xs j Q I rs q
def vf:b4 X (.type "list") (λxs H Q=>∃p ys,xs=[.ref p]/\(cF X.K H p ys\/dD X.K H p ys)/\∀l,H l=none->Q (.ref l) (upd H l (.lst ys))):=by
 intro pins s σ H xs R Q I r h;obtain⟨p,ys,rfl,J,q⟩:=h;obtain⟨u,rfl,O⟩:=vals1 r;cases O;have B:∀(j:List Qt),Vals ys j->ys.length<=sizeLine->∀(h':Heap) (y:Nat),(∀b o',s.heap.get? b=some o'->h'.get? b=some o')->
  h'.get? s.heap.objs.size=some {cls:=.type "list",dict:=none,data:=.seq j.toArray y,slots:=#[]}->EP X pins σ Q (.ref s.heap.objs.size) {s with heap:=h'}:=λj z L h' y kp e=>
  {.ref s.heap.objs.size,_,I.laid kp (QA _) (show eA X.prog X.w _ h' _ (.lst ys) from⟨L,j,y,z,e⟩),rfl,q _ (I.hok.fresh (QA _))}
 rcases J with J|J
 ·obtain⟨j,z,pl,L⟩:=I.list J;have F:=z.length;obtain⟨o,ho,M,n,hd⟩:=pl.isList;exact call_list_seq p (.inl rfl) ho M hd (λh' y kp e=>B j z L h' y kp e) (by simp only[QE]<;>omega)
 ·obtain⟨j,z,pl,L⟩:=I.tuple J;have F:=z.length;obtain⟨o,ho,M,n,hd⟩:=pl;exact call_list_seq p (.inr rfl) ho M hd (λh' y kp e=>B j z L h' y kp e) (by simp only[QE]<;>omega)
def sP:b4 X (.type "tuple") (λxs H Q=>∃p ys,xs=[.ref p]/\((cF X.K H p ys/\∀l,H l=none->Q (.ref l) (upd H l (.tup ys)))\/(dD X.K H p ys/\Q (.ref p) H))):=by
 intro pins s σ H xs O Q I r h;obtain⟨p,ys,rfl,h⟩:=h;obtain⟨u,rfl,M⟩:=vals1 r;cases M;rcases h with⟨y,q⟩|⟨y,q⟩
 ·obtain⟨j,z,pl,J⟩:=I.list y;have F:=z.length;refine call_tuple_list pl.isList (λh' kp=>?_) (by simp only[QE]<;>omega)
  have B:=I.kept (t':=s.toks) kp;have L:Inv X pins σ (upd H h'.objs.size (.tup ys)) {s with heap:=h'.push {cls:=.type "tuple",data:=.seq j.toArray}}:=
   B.laid (λb o e=>Qu _ e) (QA _) ({J,j,z,IsTup.new _ _})
  exact{.ref h'.objs.size,_,L,rfl,q _ (B.hok.fresh (QA _))}
 ·obtain⟨j,z,pl,J⟩:=I.tuple y;exact call_tuple_same pl {.ref p,H,I,rfl,q}
def Jf (K:Qr)(T:String)(x:V)(H:Hp):Prop:=match x with
 |.str _=>T="str"
 |.int _=>T="int"
 |.ref p=>(T="list"/\∃xs,cF K H p xs)\/(T="tuple"/\∃o,K.lookup p=some o/\o.cls=.type "tuple"/\o.dict=none)\/
  (T="dict"/\((∃kvs,H p=some (.dK kvs))\/(∃kvs,H p=some (.dT kvs))\/∃es,H p=some (.dn es)))\/(T="set"/\∃S n,H p=some (.set S n))
 |_=>False
def zi (I:Inv X pins σ H s)(r:RelV x v)(ty:Jf X.K T x H) :
 s.TypeIs v T/\∀a,v=.ref a->∃ob,s.heap.get? a=some ob/\ob.dict=none:=by
 cases x with
 | str z=>
   obtain⟨t,rfl⟩:=r;cases (ty);exact{typeIs_str s z t,λ_ e=>nomatch e}
 | int i=>
   obtain⟨t,rfl⟩:=r;cases (ty);exact{typeIs_int s i t,λ_ e=>nomatch e}
 | ref p=>
   cases r;rcases ty with⟨rfl,xs,B⟩|⟨rfl,o,hk,y,hd⟩|⟨rfl,hk⟩|⟨rfl,S,n,hk⟩
   ·obtain⟨F,_,pl,_⟩:=I.list B;refine{pl.isList.typeIs,λa e=>?_};cases e;obtain⟨o,n,e,c,hd,_⟩:=pl;exact⟨o,e,hd⟩
   ·refine{{o,I.kIn p o hk,y},λa e=>?_};cases e;exact{o,I.kIn _ o hk,hd}
   ·have z:∃o,s.heap.get? p=some o/\o.ExactDict:=by
     rcases hk with⟨j,hk⟩|⟨j,hk⟩|⟨es,hk⟩
     rotate_left 2
     ·obtain⟨_,_,o,e,ex,_⟩:=I.hok p _ hk;exact⟨o,e,ex⟩
     ·obtain⟨_,_,_,_,o,_,_,e,ex,_⟩:=I.hok p _ hk;exact⟨o,e,ex⟩
     ·obtain⟨_,_,_,_,o,_,_,e,ex,_⟩:=I.hok p _ hk;exact⟨o,e,ex⟩
    obtain⟨o,e,ex⟩:=z;refine{⟨o,e,ex.1⟩,λa e2=>?_};cases e2;exact⟨o,e,ex.2.1⟩
   ·obtain⟨o,_,_,_,e,ex,_⟩:=I.hok p _ hk;refine{⟨o,e,ex.1⟩,λa e2=>?_};cases e2;exact⟨o,e,ex.2.1⟩
 |_=>exact False.elim ty
def OM (K:Qr)(T:String)(r:V->List V->Hp->VK->Prop)(to:TE):TE:=λσ H Q=>to σ H λx H1=>Jf K T x H1/\r x [] H1 Q
def tBM (K:Qr)(T:String)(r:V->List V->Hp->VK->Prop)(to:TE)(t:TA):TE:=λσ H Q=>to σ H λx H1=>Jf K T x H1/\t σ H1 λxs H2=>r x xs H2 Q
variable{o e:Expr}{es:List Expr}{to:TE}{t:TA}{name:Str}{apos cpos:Pos}{T id:String}{r:V->List V->Hp->VK->Prop}
def Ai (F:PlainAttrs T)(slot:Slot T name id)(z:typeOf (.builtin id)=pure (.type "method_descriptor"))(hm:Fy X id r)(ho:PE X o to)
 (j:attributeBase o name X.env (eval o X.env)=eval o X.env:=by rfl) (y:(apos.endLine==cpos.line)=true:=by rfl):PE X (.Call (.Attribute o name apos) [] [] cpos) (OM X.K T r to):=by
 intro pins s σ H Q I h;refine wpAny_Call_method0_late j y (aO (ho pins s σ H _ I h) λv s1 ⟨x,H1,B,r1,ty,J⟩=>?_);obtain⟨h1,h2⟩:=zi B r1 ty;exact{T,id,F,slot,z,h1,h2,Calls.callWith_builtin rfl (PySem.evalArgs_none (hm pins s1 σ H1 x [] v [] Q B r1 .nil J))}
def sU (R:PlainAttrs T)(slot:Slot T name id)(F:typeOf (.builtin id)=pure (.type "method_descriptor"))(hm:Fy X id r)(ho:PE X o to)(O:PA X (e::es) t)
 (y:attributeBase o name X.env (eval o X.env)=eval o X.env:=by rfl)
 (B:((backTo cpos (starEach (e::es) X.env)).all (λx=>!x.1)&&(backToKw cpos (keywordEach [] X.env)).all (λx=>x.1.isSome)
  && decide ((e::es).length+([]:List Keyword).length+(if ([]:List Keyword).isEmpty then 0 else 1)<30))=true:=by rfl)
 (z:(apos.endLine==cpos.line)=true:=by rfl) (hs:starEach (e::es) X.env=(false,eval e X.env)::starEach es X.env:=by rfl) (j:(backTo cpos (starEach es X.env)).any (·.1)=false:=by rfl) :
 PE X (.Call (.Attribute o name apos) (e::es) [] cpos) (tBM X.K T r to t):=by
 intro pins s σ H Q I h;refine wpAny_Call_method_late y B z rfl (aO (ho pins s σ H _ I h) λv s1 ⟨x,H1,J,r1,ty,S⟩=>?_);obtain⟨h1,h2⟩:=zi J r1 ty;refine{T,id,R,slot,F,h1,h2,?_};have L:=O cpos pins s1 σ H1 _ J S;rw[hs] at L ⊢;refine Calls.callWith_builtin (by show(false||(backTo cpos (starEach es X.env)).any (·.1))=false;rw[j]<;>rfl) (Calls.evalArgs_plain ?_)
 exact aO L λW s2 ⟨Y,H2,M,r2,U⟩=>hm pins s2 σ H2 x Y v W Q M r1 r2 U
end
def Mf (X:Cx)(id:String)(r:V->List V->Hp->VK->Prop):Prop:=
 ∀(pins:List (Addr×Obj)) (s:QC) (σ:St) (H:Hp) (x:V) (xs:List V) (v:Qt) (j:List Qt) (Q:VK),Inv X pins σ H s->RelV x v->Vals xs j->r x xs H Q->
  wpAny (model X.prog X.w) X.A (call (.builtin id) (v::j)) (EP X pins σ Q) X.xe s
def Vals.one:∀{x:V}{us:List Qt},Vals [x] us->∃u,us=[u]/\RelV x u
 |_,_,.cons r .nil=>{_,rfl,r}
def Vals.zero:∀{us:List Qt},Vals [] us->us=[]
 |_,.nil=>rfl
def Vals.dropLast (h:Vals xs us):Vals xs.dropLast us.dropLast:=by
 induction h with
 |nil=>exact .nil
 | cons r t j=>
   cases t with
   |nil=>exact .nil
   |cons q y=>exact .cons r j
def Vals.reverse (h:Vals xs us):Vals xs.reverse us.reverse:=by
 induction h with
 |nil=>exact .nil
 |cons r t j=>rw[List.reverse_cons,List.reverse_cons];exact Vals.append j (.cons r .nil)
def Vals.rep (h:Vals xs us):∀k:Nat,Vals (List.replicate k xs).flatten (List.replicate k us).flatten
 |0=>.nil
 | k+1=>by
   rw[Sj,Sj,SM,SM];exact Vals.append h (Vals.rep h k)
def yr {y:Type}(l:List y):l.eraseIdx (l.length-1)=l.dropLast:=by
 induction l with
 |nil=>rfl
 | cons a r j=>
   cases r with
   |nil=>rfl
   | cons b r=>
     have e:(a::b::r).length-1=((b::r).length-1)+1:=by
      have h1:(a::b::r).length=r.length+2:=rfl;have h2:(b::r).length=r.length+1:=rfl;omega
     rw[e,List.eraseIdx_cons_succ,j];all_goals rfl
theorem foldl_rep (j:List Qt):∀(k:Nat) (acc:List Qt),
 List.foldl (λx1 x2=>x1++x2) acc.toArray (List.replicate k j.toArray)=(acc++(List.replicate k j).flatten).toArray
 |0,acc=>`s
 | k+1,acc=>by
   have e:acc.toArray++j.toArray=(acc++j).toArray:=`s
   have e2:(acc++j)++(List.replicate k j).flatten=acc++(List.replicate (k+1) j).flatten:=by
    rw[Sj,SM,RA]
   rw[<- e2,<- foldl_rep j k (acc++j),<- e,Sj,List.foldl_cons]
section
variable{X:Cx}{pins:List (Addr×Obj)}{σ:St}{H:Hp}{s:QC}{l b:Addr}{xs ys zs:List V}
def Inv.lset {j its':List Qt}(I:Inv X pins σ H s)(y:H l=some (.lst xs))
 (e:s.heap.get? l=some {cls:=.type "list",data:=.seq j.toArray n}) (hf:f j.toArray=its'.toArray) (F:Vals ys its') (hz:ys.length<=sizeLine) :
 Inv X pins σ (upd H l (.lst ys)) {s with heap:=s.heap.update l (Obj.mapSeq f),toks:=t'}:=by
 have q:=PySem.IsL.update e f;rw[hf] at q;refine I.write (by rw[y];exact trivial) (.inl rfl) (λJ u z B=>(R4 s.heap (Obj.mapSeq f) (RF z)).trans B) {_,q} ?_
 exact{hz,its',_,F,q}
def Inv.lnew (I:Inv X pins σ H s)(j:Vals ys its)(hz:ys.length<=sizeLine) :
 Inv X pins σ (upd H s.heap.objs.size (.lst ys)) {s with heap:=s.heap.push {cls:=.type "list",data:=.seq its.toArray},toks:=t'}:=
 I.laid (λ_ _ q=>Qu _ q) (QA _) {hz,its,0,j,QU _ rfl}
def Inv.fresh (I:Inv X pins σ H s):H s.heap.objs.size=none:=I.hok.fresh (QA _)
def Inv.lstM (I:Inv X pins σ H s)(y:H l=some (.lst xs)):xs.length<=sizeLine/\∃(j:List Qt) (n:Nat),Vals xs j/\xs.length=j.length/\s.heap.get? l=some {cls:=.type "list",data:=.seq j.toArray n}:=by
 obtain⟨z,j,n,r,e⟩:=I.hok l _ y;exact⟨z,j,n,r,r.length,e⟩
def CJ (h:n<=sizeLine):Builtin.List.listTooLong n=false:=by
 exact decide_eq_false `a
end
section
variable{X:Cx}
def GU:V->List V->Hp->VK->Prop:=λx j H Q=>∃l xs y,x=.ref l/\j=[y]/\H l=some (.lst xs)/\xs.length<sizeLine/\Q .non (upd H l (.lst (xs++[y])))
def my:Mf X "list.append" GU:=by
 intro pins s σ H x S v R Q I M L h;obtain⟨l,xs,y,rfl,rfl,B,O,q⟩:=h;cases M;obtain⟨u,rfl,J⟩:=L.one;obtain⟨z,j,n,r,hl,e⟩:=I.lstM B;refine call_meets F.slot_list_append {_,e,rfl} F.entry_list_append (F.args_list_append_2 _ _) (PySem.list_append l j.toArray n u (by rw[QE];omega)) {e,?_}
 refine{.non,_,I.lset B e `s (r.append (.cons J .nil)) ?_,rfl,q}
 rw[Q6,List.length_singleton];omega
def OT:V->List V->Hp->VK->Prop:=λx j H Q=>∃l xs y,x=.ref l/\j=[]/\H l=some (.lst xs)/\xs[xs.length-1]?=some y/\Q y (upd H l (.lst xs.dropLast))
def KG:Mf X "list.pop" OT:=by
 intro pins s σ H x Y v W Q I U S h;obtain⟨l,xs,y,rfl,rfl,L,O,q⟩:=h;cases U;have B:=S.zero;subst B;obtain⟨z,j,n,r,hl,e⟩:=I.lstM L;obtain⟨u,M,R⟩:=r.get O;have J:j.toArray[j.toArray.size-1]?=some u:=by
  show j.toArray[j.length-1]?=some u;rw[<- Array.getElem?_toList,<- hl];exact M
 refine call_meets F.slot_list_pop {_,e,rfl} F.entry_list_pop (F.args_list_pop_1 _) (MeetsSeq.list_pop_last l j.toArray n u J (by rw[QE];omega)) {e,?_}
 refine{y,_,I.lset L e ?_ r.dropLast ?_,R,q}
 ·show j.toArray.eraseIdxIfInBounds (j.toArray.size-1)=j.dropLast.toArray;rw[QE,List.eraseIdxIfInBounds_toArray,yr]
 ·rw[List.length_dropLast];omega
def Ct:V->List V->Hp->VK->Prop:=λx j H Q=>∃l xs,x=.ref l/\j=[]/\H l=some (.lst xs)/\Q .non (upd H l (.lst xs.reverse))
def xU:Mf X "list.reverse" Ct:=by
 intro pins s σ H x O v M Q I L J h;obtain⟨l,xs,rfl,rfl,B,q⟩:=h;cases L;have j:=J.zero;subst j;obtain⟨z,y,n,r,hl,e⟩:=I.lstM B;refine call_meets F.slot_list_reverse {_,e,rfl} F.entry_list_reverse (F.args_list_reverse_1 _) (AutoSeq1.list_reverse_list_0 l y.toArray n (by rw[QE];omega)) {e,?_}
 refine{.non,_,I.lset B e `s r.reverse ?_,rfl,q}
 rw[List.length_reverse];omega
def OV:R2:=λx y H Q=>∃l b xs zs,x=.ref l/\y=.ref b/\H l=some (.lst xs)/\H b=some (.lst zs)/\xs.length+zs.length<=sizeLine/\∀p,H p=none->Q (.ref p) (upd H p (.lst (xs++zs)))
def Kj:bF X (binaryOp .Add) OV:=by
 intro pins s σ H x y v u Q I O R h;obtain⟨l,b,xs,zs,rfl,rfl,L,J,S,q⟩:=h;cases O;cases R;obtain⟨z,B,n,r,hl,e⟩:=I.lstM L;obtain⟨U,j,n2,r2,M,e2⟩:=I.lstM J;refine PySem.P.add_list e e2 ?_ (by rw[QE,QE];omega)
 have F:B.toArray++j.toArray=(B++j).toArray:=`s
 rw[F];exact{.ref _,_,I.lnew (r.append r2) (by rw[Q6];omega),rfl,q _ I.fresh}
def OS:R2:=λx y H Q=>∃l k xs,x=.ref l/\y=.int k/\H l=some (.lst xs)/\-(2^63)<=k/\k<2^63/\xs.length*k.toNat<=sizeLine/\
 ∀p,H p=none->Q (.ref p) (upd H p (.lst (List.replicate k.toNat xs).flatten))
def len_rep {y:Type}(xs:List y)(k:Nat):(List.replicate k xs).flatten.length=k*xs.length:=by
 induction k with
 |zero=>simp
 |succ k j=>rw[Sj,SM,Q6,j,Nat.succ_mul,Nat.add_comm]
def Ke:bF X (binaryOp .Mult) OS:=by
 intro pins s σ H x y v u Q I W Y h;obtain⟨l,k,xs,rfl,rfl,U,h1,h2,R,q⟩:=h;cases W;obtain⟨t,rfl⟩:=Y;obtain⟨z,j,n,r,hl,e⟩:=I.lstM U;have M:j.toArray.size*k.toNat<=sizeLine:=by rw[QE,<- hl];exact R
 have J:¬ j.toArray.size*k.toNat > (2^63-1) / 8:=by
  have:(sizeLine:Nat)<=(2^63-1) / 8:=`d
  omega
 have L:¬ (!Builtin.List.listFitsIndex k)=true:=by
  rw[fitsIndex_both h1 h2];exact QZ
 have B:¬ Builtin.List.listTooLong (j.toArray.size*k.toNat)=true:=by
  rw[CJ M];exact QZ
 have O:List.foldl (λx1 x2=>x1++x2) #[] (List.replicate (if j.toArray.isEmpty=true then 0 else k.toNat) j.toArray)=(List.replicate k.toNat j).flatten.toArray:=by
  have S:=λm=>by
   have:=foldl_rep j m [];rw[List.nil_append] at this;exact this
  rw[S];cases j with
  |nil=>simp
  |cons a r'=>rw[if_neg `s]
 refine wpAny_binaryOp_repeat_ref `d {_,e,rfl} (λs'=>typeIs_int s' k t) noFill_list_mul F.fills_int_mul F.slot_int_rmul repeat_list F.slot_int_index.lookup
  (call_meets F.slot_int_rmul (typeIs_int s k t) F.entry_int_rmul (F.args_int_rmul_2 _ _) (int___rmul___int_list k t l j.toArray n)
   {e,rfl,{_,e,rfl},call_meets F.slot_list_mul {_,e,rfl} F.entry_list_mul (F.args_list_mul_2 _ _) (AutoListH.list___mul___list_int_3 l j.toArray n k t L J B) {e,?_}})
 rw[O];exact{.ref _,_,I.lnew (r.rep k.toNat) (by rw[len_rep,Nat.mul_comm];exact R),rfl,q _ I.fresh}
end
end L2
namespace Att
open PySem PySem.W PySem.Calls PyProof.Rows
def pU:∀(ns:List Int) (vs:List Qt),WellAll P h vs (ns.map WData.int)->IntsAre vs ns:=by
 intro ns;induction ns with
 | nil=>
   intro vs w;rw[List.map_nil] at w;cases w;exact .nil
 | cons n ns j=>
   intro vs w;rw[Ry] at w;cases w with
   | cons a b=>
     cases a;exact .cons _ _ (j _ b)
def zR {l:OpenLaw}(hn:l.most=some n)
 (j:l.row.toRowW.claim.pre args=true) (I:WellAll P h vals args) :
 ∃a vs ns,vals=[Value.ref a]/\args=[WData.list (ns.map WData.int)]/\h.get? a=some {cls:=.type "list",data:=.seq vs.toArray}/\IntsAre vs ns/\ns.length<=n:=by
 have F:WShape.hasAll [] args [.list .int]=true:=(pre_splitW j).1;have J:l.pre.holds [] {args:=args}=true:=(pre_splitW j).2;obtain⟨d,r,rfl,h1,h2⟩:=hasAllW_cons F;obtain rfl:=hasAllW_nil h2;obtain⟨xs,rfl,h3⟩:=hasW_list h1;obtain⟨ns,rfl⟩:=items_int h3;have z:ns.length<=n:=by
  have h4:(WTm.not (.lt (.lit (.int (n:Int))) (.len (.arg 0)))).holds [] {args:=[.list (ns.map .int)]}=true:=by
   have h4:=(holds_andW J).1;rw[hn] at h4;exact h4
  have B:=condW_of h4 (w_not (w_lt w_lit (w_len_list (w_arg rfl))));rw[Qx] at B;refine Nat.le_of_not_lt λq=>?_;first
   |(rw[decide_eq_true q'] at B;exact absurd B `d)
   |(simp at B;omega)
 cases I with
 | cons L w2=>
   cases w2;cases L with
   |list ho y=>exact{_,_,ns,rfl,rfl,ho,pU ns _ y,z}
def Ac (l:OpenLaw)(args:List WData):l.row.toRowW.claim.post args (.bool true) args=true:=
 postW_of
  (show WShape.has [] (.bool true) .bool=true by first|rfl|decide|simp[WShape.has,WShape.arms,WShape.armsAll])
  (w_eq_bool (w_res rfl) w_lit) rfl
def attach_call {l:OpenLaw}
 (hn:l.most=some n) (L:d.params.defaults=[])
 (call:∀(w:Rf) (s₀ j:QC) (mg R:Str->Option Qt) (fa:Addr) (o:Obj) (pm cd y:Qt) (a:Addr) (vs:List Qt) (ns:List Int),
  Ground q loose [] XP w s₀ mg R j.heap->YP w j.heap->
  j.heap.get? fa=some o->o.data=.func (docDef d.name d.params d.body d.scope pm cd y)->j.heap.CodeRec cd d.name->mg d.name=some (.ref fa)->
  j.heap.get? a=some {cls:=.type "list",data:=.seq vs.toArray}->IntsAre vs ns->ns.length<=n->j.gens=#[]->
  codeAny (model l.prog w) callerA (.call (.ref fa) {[.ref a],[]}) (λr s'=>r=.ok (.ret (.bool true))/\OldK j.heap s'.heap/\s'.os=j.os/\AllBare s'.gens) j) :
 WalkO q loose XP YP l.row.toRowW d [] (λf vs=>PySem.call f vs):=by
 intro w s₀ j mg R G Y fa o pm cd y dV kV ho hd J U M hg S vals as I W hrd O hlo;obtain rfl:dV=.none:=Dflts.none U L;obtain rfl:kV=.none:=Dflts.noKw U;obtain⟨a,vs,ns,rfl,rfl,F,z,B⟩:=zR hn I O;refine enter_call (codeAny_mono (call w s₀ j mg R fa o pm cd y a vs ns G Y ho (fd_plain hd) J M F z B hg) λr s' hq=>?_);obtain⟨rfl,h2,h3,h4⟩:=hq;exact{.inl {.bool true,.bool true,[],rfl,λ_=>rfl,.bool true,Ac l _,λ_=>{List.Pairwise.nil,λ_ hm=>(nomatch hm)}},h2,h3,h4}
end Att
namespace L2
open PySem PySem.Spec PyProof.Rows
def rG:∀{vs:List Qt}{ns:List Int},IntsAre vs ns->Vals (ns.map V.int) vs
 |_,_,.nil=>.nil
 |_,_,.cons n t h=>.cons ⟨t,rfl⟩ (rG h)
def yJ (H:Hp):Prop:=∀b,H b=none\/∃o xs,H b=some (.frz o (.lst xs))
def CY {K:Qr}
 (KX:K.In s₁.heap) (M:s₁.heap.Ns mainGlobals mg) (j:s₁.heap.Ns builtinsNs mb) (hbb:∀x:Str,x≠"__name__"->mb x=bootBuiltins x) (L:s₁.heap.NoLimit) (hg:s₁.gens=#[])
 (Y:s₁.heap.get? a=some {cls:=.type "list",data:=.seq vs.toArray}) (hi:IntsAre vs ns) (hl:ns.length<=sizeLine) (hr:bP k callerA)
 (F:∀base:Heap,K.In base->base.Ns mainGlobals mg->hD P w K mg base CX k fa fd [x] sp) (I:∀(s:QC) (u:Qt),BindsTo s fd {[u],[]} [(x,u)])
 (hsp:∀H:Hp,yJ H->cF K H a (ns.map V.int)->sp [.ref a] H (λv _=>v=.bl true) λ_ _ _=>False)
 (hCX:∀H e s',CX [] H s₁ (λ_ _ _=>False) e s'->False) :
 codeAny (model P w) callerA (.call (.ref fa) {[.ref a],[]}) (λr s'=>r=.ok (.ret (.bool true))/\OldK s₁.heap s'.heap/\s'.os=s₁.os/\AllBare s'.gens) s₁:=by
 have rv:=rG hi;have R:=hi.length;have B:∀H:Hp,yJ H->cF K H a (ns.map V.int)->d7 P w H s₁.heap->(∀b,H b≠none->b=a)->(H a≠none->K.lookup a=none)->
  codeAny (model P w) callerA (.call (.ref fa) {[.ref a],[]}) (λr s'=>r=.ok (.ret (.bool true))/\OldK s₁.heap s'.heap/\s'.os=s₁.os/\AllBare s'.gens) s₁:=by
  intro H hO hS hok hA hK;have c8:∀{b:Addr}{o:Obj},s₁.heap.get? b=some o->H b=none->(mG s₁.heap H).get? b=some o:=λe n=>Dc e n;have noA:∀{b:Addr}{o:Obj}{es:Array Sl}{U:Nat},s₁.heap.get? b=some o->o.data=.dict es U->H b=none:=λ{b o es U} e d=>by
   cases q:H b with
   |none=>rfl
   | some u=>
     have e':=hA b (by rw[q];simp)
     subst e';rw[Y] at e;cases e;have d':=d;cases d'
  have y:∀{b:Addr}{m:Str->Option Qt},s₁.heap.Ns b m->(mG s₁.heap H).Ns b m:=λ{b m} ⟨o,es,U,e,d,r⟩=>{o,es,U,c8 e (noA e d),d,r};have J:=λb o e=>c8 (KX b o e) (by
   cases q:H b with
   |none=>rfl
   | some u=>
     have e':=hA b (by rw[q];simp)
     subst e';rw[hK (by rw[q];simp)] at e;cases e)
  have hM:Mod K mg (mG s₁.heap H):={J,y M,{mb,y j,hbb},let⟨mc,h1,h2⟩:=L;{mc,y h1,h2}}
  have e0:pf P w K mg (mG s₁.heap H) callerA [] s₁ H:={rfl,hM,λb o e=>He e,Nat.le_of_eq (AX _ _),trivial,λb j=>absurd (show b∈([]:List Addr) from j) `s,hok,.of_eq hg}
  refine codeAny_mono ((F _ J (y M)).run callerA [] s₁ H {[.ref a],[]} [.ref a] [.ref a] _ _ hr e0 (I s₁ (.ref a)) (.cons rfl .nil) (hsp H hO hS)) λr s' h=>?_;cases r with
  |error e=>exact(hCX H e s' h).elim
  | ok fl=>
    cases fl with
    |next=>exact False.elim h
    |brk=>exact False.elim h
    |cont=>exact False.elim h
    | ret u=>
      obtain⟨v,H',os,bare,un,O,r',q⟩:=h;have q':=q;subst q';obtain rfl:u=Value.bool true:=r';refine{rfl,OldK.of_keep λb o e=>?_,os,bare};cases q:H b with
      |none=>exact un.keep b o e q (by intro z;exact absurd (show b∈([]:List Addr) from z) `s) `s
      | some u=>
        rcases hO b with z|⟨ob,xs,z⟩
        ·rw[q] at z;cases z
        ·have z2:=un.frzs b ob _ z;obtain⟨e1,_⟩:=hok b _ z;obtain⟨e2,_⟩:=O b _ z2;rw[e] at e1;cases e1;exact e2
 cases hk:K.lookup a with
 | some o=>
   have e:=KX a o hk;rw[Y] at e;cases e;refine B (λ_=>none) (λ_=>.inl rfl) (.inr {_,vs.toArray,_,hk,rfl,rfl,rfl,by rw[QE,R];exact hl,by simpa using rv}) (λb u z=>by have S:=z;cases S) (λb z=>absurd rfl z) λz=>absurd rfl z
 | none=>
   refine B (λb=>if b=a then some (.frz {cls:=.type "list",data:=.seq vs.toArray} (.lst (ns.map V.int))) else none) (λb=>?_) (.inl (.inr {{cls:=.type "list",data:=.seq vs.toArray},if_pos rfl})) (λb u z=>?_) (λb z=>?_) λ_=>hk
   ·by_cases j:b=a
    ·exact .inr {_,_,if_pos j}
    ·exact .inl (if_neg j)
   ·by_cases j:b=a
    ·have S:=(if_pos j).symm.trans z;cases S;subst j;exact{Y,by rw[Qx];exact hl,vs,_,rv,Y}
    ·have S:=(if_neg j).symm.trans z;cases S
   ·by_cases j:b=a
    ·exact j
    ·exact absurd (if_neg j) z
def FQ {l:PySem.W.OpenLaw}{K:Sd->Qr}{CX:Rf->vG}{sp:Rf->Sp}
 (hn:l.most=some n) (M:n<=sizeLine) (J:d.params.defaults=[]) (hr:bP k callerA)
 (hY:∀(w:Rf) (h:Heap),YP w h->(K w.params).In h)
 (F:∀(w:Rf) (mg:Str->Option Qt) (fa:Addr) (h:Heap),(K w.params).In h->h.Ns mainGlobals mg->mg d.name=some (.ref fa)->
  ∃fd:FuncData,(∀(s:QC) (u:Qt),BindsTo s fd {[u],[]} [(x,u)])/\
   ∀base:Heap,(K w.params).In base->base.Ns mainGlobals mg->hD l.prog w (K w.params) mg base (CX w) k fa fd [x] (sp w))
 (O:∀(w:Rf) (H:Hp) (a:Addr) (ns:List Int),ns.length<=n->yJ H->cF (K w.params) H a (ns.map V.int)->sp w [.ref a] H (λv _=>v=.bl true) λ_ _ _=>False)
 (I:∀(w:Rf) (H:Hp) (s:QC) (e:Qt) (s':QC),CX w [] H s (λ_ _ _=>False) e s'->False) :
 PySem.W.WalkO q loose XP YP l.row.toRowW d [] (λf vs=>PySem.call f vs):=by
 refine Att.attach_call hn J λw s₀ B mg mb fa o pm cd S a vs ns G Y ho hd hcd L z y j hg=>?_;have R:=hY w _ Y;obtain⟨fd,hb,U⟩:=F w mg fa _ R G.T.g L;exact CY R G.T.g G.T.b G.T.builtins G.T.nolimit hg z y (QH j M) hr U hb (λH hO hS=>O w H a ns j hO hS) λH e s'=>I w H B e s'
noncomputable def inClass (s:Stmt)(j:Nat):Stmt:=match s with
 |.ClassDef _ _ _ body _ _ _ _ _ _ _=>body.getD j (.Pass {0,0,0,0})
 |_=>.Pass {0,0,0,0}
noncomputable def eZ (s:Stmt):Arguments:=match s with
 |.FunctionDef _ a _ _ _ _ _ _ _ _=>a
 |_=>{posonlyargs:=[],args:=[],vararg:=none,kwonlyargs:=[],kw_defaults:=[],kwarg:=none,defaults:=[]}
noncomputable def cQ (s:Stmt):List Stmt:=match s with
 |.FunctionDef _ _ b _ _ _ _ _ _ _=>b
 |_=>[]
noncomputable def a7 (s:Stmt):Scope:=match s with
 |.FunctionDef _ _ _ _ _ _ sc _ _ _=>sc
 |_=>{kind:=.function,names:=[],isGenerator:=false,isCoroutine:=false}
abbrev E0:XK:=λ_ _ _=>False
structure xp (K:Qr) (x qual:Str) (st:Stmt) (f:Addr) (fd:FuncData):Prop where
 ex:∃(oc:Qt) (od:Option Addr) (kV doc pm:Qt) (an:Option Addr) (cdv ct:Qt) (osl:Array (Option Qt)),
  fd=PySem.W.fnOf x qual (eZ st) (cQ st) (a7 st) .none kV doc pm an cdv ct/\K.lookup f=some {oc,od,.func fd,osl}/\PySem.W.codeIn K cdv qual=true
 kp:PySem.W.keepIn K (.ref f)=true
section
variable{P:Rv}{w:Rf}{K:Qr}{mg:Str->Option Qt}{base:Heap}
def Ld {x qual:Str}{st:Stmt}{f:Addr}{oc:Qt}{od B:Option Addr}{z:Array (Option Qt)}{kV y pm j ct:Qt}(l:K.lookup f=some {oc,od,.func (PySem.W.fnOf x qual (eZ st) (cQ st) (a7 st) .none kV y pm B j ct),z})
 (c:PySem.W.codeIn K j qual=true) (k:PySem.W.keepIn K (.ref f)=true):xp K x qual st f (PySem.W.fnOf x qual (eZ st) (cQ st) (a7 st) .none kV y pm B j ct):={⟨oc,od,kV,y,pm,B,j,ct,z,rfl,l,c⟩,k}
end
end L2
namespace LD
open PySem
inductive D where
 |non|bl (b:Bool)|int (i:Int)|str (x:Str)|tup (ds:List D)|lst (ds:List D)|frz (ds:List D)|cell (k:Nat)|fn (f:Nat)|exc (c:Nat) (p:Option Int)
 deriving Inhabited
abbrev Mem:=List (List D)
abbrev Env:=List (Option D)
inductive Res (α:Type) where
 |ok (a:α) (M:Mem)
 |err (x:D) (M:Mem)
 |bad
noncomputable def Res.bind {h j:Type}(r:Res h)(f:h->Mem->Res j):Res j:=match r with
 |.ok a M=>f a M
 |.err x M=>.err x M
 |.bad=>.bad
@[simp] theorem Res.bind_ok {h j:Type}(a:h)(M:Mem)(f:h->Mem->Res j):(Res.ok a M).bind f=f a M:=rfl
@[simp] theorem Res.bind_err {h j:Type}(x:D)(M:Mem)(f:h->Mem->Res j):(Res.err x M:Res h).bind f=.err x M:=rfl
@[simp] theorem Res.bind_bad {h j:Type}(f:h->Mem->Res j):(Res.bad:Res h).bind f=.bad:=rfl
inductive oo where
 |add|sub|mul|fdiv|mod|pow
 deriving DecidableEq
inductive jZ where
 |eq|ne|lt|le|gt|ge|isN|notN|isin|notin
 deriving DecidableEq
inductive Ty where
 |int|bool|str|tuple|list|own (c:Str)
 deriving DecidableEq
inductive xr where
 |len|tuple|list (m:Bool)|listR (m:Bool)|all|sum|repr
 deriving DecidableEq
inductive fK where
 |one (i:Nat)
 |tup (l:List Nat)
 |two (i:Nat) (l:List Nat)
noncomputable def sz:Nat:=16777216
noncomputable def ba (m:Bool)(ds:List D)(M:Mem):Res D:=if ds.length<=sz then(if m then .ok (.cell M.length) (M++[ds]) else .ok (.lst ds) M) else .bad
noncomputable def kZ (ds:List D)(M:Mem):Res D:=if ds.length<=sz then .ok (.tup ds) M else .bad
noncomputable def bL (M:Mem):D->Option (List D)
 |.lst h=>some h
 |.tup h=>some h
 |.frz h=>some h
 |.cell k=>M[k]?
 |_=>none
noncomputable def ff (M:Mem):D->Option (List D)
 |.lst h=>some h
 |.frz h=>some h
 |.cell k=>M[k]?
 |_=>none
noncomputable def jl (M:Mem):D->Option (List D)
 |.lst h=>some h
 |.cell k=>M[k]?
 |_=>none
noncomputable def aA:Nat->D->Bool
 |_,.non=>true
 |_,.bl _=>true
 |_,.int _=>true
 |_,.str x=>x.cps.all (· < 0x110000)
 |n+1,.tup h=>h.all (aA n)
 |n+1,.lst h=>h.all (aA n)
 |0,.tup _=>false
 |0,.lst _=>false
 |_,.frz _=>false
 |_,.cell _=>false
 |_,.fn _=>false
 |_,.exc _ _=>false
mutual
noncomputable def bZ:D->D->Bool
 |.non,.non=>true
 |.bl a,.bl b=>a==b
 |.bl a,.int b=>(if a then 1 else 0)==b
 |.int a,.bl b=>a==(if b then 1 else 0)
 |.int a,.int b=>a==b
 |.str a,.str b=>a==b
 |.tup a,.tup b=>dJ a b
 |.lst a,.lst b=>dJ a b
 |_,_=>false
noncomputable def dJ:List D->List D->Bool
 |[],[]=>true
 |a::r,b::t=>bZ a b&&dJ r t
 |[],_::_=>false
 |_::_,[]=>false
end
noncomputable def hI:D->Bool
 |.str _=>true
 |_=>false
def pZ (a b:D):Option Bool:=if hI a&&hI b||aA 64 a&&aA 64 b then some (bZ a b) else none
noncomputable def view (M:Mem):D->D
 | .cell k=>match M[k]? with
   |some h=>.lst h
   |none=>.cell k
 |.frz h=>.lst h
 |d=>d
noncomputable def c4:Nat->Mem->D->D
 |0,_,d=>d
 | n+1,M,.cell k=>match M[k]? with
   |some h=>.lst (h.map (c4 n M))
   |none=>.cell k
 |n+1,M,.frz h=>.lst (h.map (c4 n M))
 |n+1,M,.lst h=>.lst (h.map (c4 n M))
 |n+1,M,.tup h=>.tup (h.map (c4 n M))
 |_+1,_,d=>d
def mK (M:Mem)(a b:D):Option Bool:=match pZ (view M a) (view M b) with
 |some r=>some r
 |none=>pZ (c4 64 M a) (c4 64 M b)
def j3 (M:Mem):D->Option Bool
 |.non=>some false
 |.bl b=>some b
 |.int i=>some (i != 0)
 |.str x=>if x.cps.size<=sz then some (x.cps.size != 0) else none
 |.tup ds=>some (!ds.isEmpty)
 |.lst ds=>some (!ds.isEmpty)
 |.frz ds=>some (!ds.isEmpty)
 |.cell k=>(M[k]?).map λds=>!ds.isEmpty
 |.fn _=>none
 |.exc _ _=>none
def bT (n:Nat)(i:Int):Option Nat:=if 0<=i then(if i<n then some i.toNat else none) else if -(n:Int)<=i then some (i+n).toNat else none
def fP (m:Bool)(o:oo)(a b:D)(M:Mem):Res D:=match o,a,b with
 |.add,.int i,.int j=>.ok (.int (i+j)) M
 |.add,.str x,.str y=>if x.cps.size+y.cps.size<=sz then .ok (.str {x.cps++y.cps}) M else .bad
 |.add,.tup x,.tup y=>kZ (x++y) M
 | .add,a,b=>match jl M a,jl M b with
   |some x,some y=>ba m (x++y) M
   |_,_=>.bad
 |.sub,.int i,.int j=>.ok (.int (i-j)) M
 |.mul,.int i,.int j=>if (-(2^64)<i/\i<2^64)\/(-(2^64)<j/\j<2^64) then .ok (.int (i*j)) M else .bad
 |.mul,.tup x,.int j=>if x.length*j.toNat<=sz/\-(2^63)<=j/\j<2^63 then .ok (.tup (List.replicate j.toNat x).flatten) M else .bad
 | .mul,a,.int j=>match jl M a with
   |some x=>if x.length*j.toNat<=sz/\-(2^63)<=j/\j<2^63 then ba m (List.replicate j.toNat x).flatten M else .bad
   |none=>.bad
 |.fdiv,.int i,.int j=>if 0<j/\j<1073741824 then .ok (.int (i / j)) M else .bad
 |.mod,.int i,.int j=>if 0<j then .ok (.int (i % j)) M else .bad
 |.pow,.int i,.int j=>if 0<=j/\j<=1000000/\i.natAbs<2^64 then .ok (.int (i^j.toNat)) M else .bad
 |_,_,_=>.bad
def pW (x:D)(ds:List D):Option Bool:=if aA 64 x&&ds.all (aA 63) then some (ds.any λy=>bZ y x) else none
noncomputable def zx (x y:Str):Bool:=!(Builtin.Str.occurrences y x 0 y.length 1).isEmpty
noncomputable def intsOf:List D->Option (List Int)
 |[]=>some []
 |.int b::r=>(intsOf r).map (b::·)
 |_=>none
def mE:D->Option (List Int)
 |.tup h=>intsOf h
 |_=>none
def jN:List D->Option (List (List Int))
 |[]=>some []
 |d::r=>(mE d).bind λk=>(jN r).map (k::·)
def qN:D->Option (List (List Int))
 |.tup h=>jN h
 |_=>none
def isKey (c:Int)(d:D):Bool:=if c=77 then(mE d).isSome else if c=78 then(qN d).isSome else false
def cJ (M:Mem)(o:Nat):Option (Int×List D):=if 5000<=o then(match M[o-5000]? with
 |some (.int c::es)=>if c=77\/c=78 then some (c,es) else none
 |_=>none) else none
noncomputable def yt:D->D
 |.tup [k,_]=>k
 |d=>d
noncomputable def PD:D->D
 |.tup [_,v]=>v
 |d=>d
def cV (es:List D)(k:D):Option D:=(es.find? λe=>bZ (yt e) k).map PD
def putD (es:List D)(k v:D):List D:=if (cV es k).isSome then es.map (λe=>if bZ (yt e) k then .tup [yt e,v] else e) else es++[.tup [k,v]]
def inD (M:Mem)(o:Nat)(k:D):Option Bool:=(cJ M o).bind λq=>if isKey q.1 k then some (cV q.2 k).isSome else none
def getD (M:Mem)(o:Nat)(k:D):Option D:=(cJ M o).bind λq=>if isKey q.1 k then cV q.2 k else none
noncomputable def sY:D->Bool
 |.non=>true
 |_=>false
def bz (o:jZ)(a b:D)(M:Mem):Option Bool:=match o,a,b with
 |.eq,a,b=>mK M a b
 |.ne,a,b=>(mK M a b).map (!·)
 |.lt,.int i,.int j=>some (decide (i<j))
 |.le,.int i,.int j=>some (decide (i<=j))
 |.gt,.int i,.int j=>some (decide (j<i))
 |.ge,.int i,.int j=>some (decide (j<=i))
 |.isN,a,.non=>some (sY a)
 |.notN,a,.non=>some (!sY a)
 |.isin,.str x,.str y=>some (zx x y)
 |.notin,.str x,.str y=>some (!zx x y)
 |.isin,a,b=>(bL M b).bind (pW (view M a))
 |.notin,a,b=>((bL M b).bind (pW (view M a))).map (!·)
 |_,_,_=>none
def bO (a i:D)(M:Mem):Option D:=match a,i with
 |.str x,.int i=>if x.cps.size<=sz then(bT x.cps.size i).bind λj=>(x.cps[j]?).map λc=>.str {#[c]} else none
 |a,.int i=>(bL M a).bind λh=>(bT h.length i).bind λj=>h[j]?
 |_,_=>none
noncomputable def aR (n d:Nat):D->Option Nat
 |.non=>some d
 |.int v=>some (if v<0 then(v+(n:Int)).toNat else min v.toNat n)
 |_=>none
noncomputable def eE:Bool->D->Bool
 |true,.int _=>true
 |false,.non=>true
 |_,_=>false
noncomputable def cut {h:Type}(xs:List h)(lo hi:Nat):List h:=(xs.drop lo).take (hi-lo)
def fM (m:Bool)(a lo hi:D)(M:Mem):Res D:=match a with
 | .tup xs=>match aR xs.length 0 lo,aR xs.length xs.length hi with
   |some l,some h=>.ok (.tup (cut xs l h)) M
   |_,_=>.bad
 | a=>match ff M a with
   | some xs=>match aR xs.length 0 lo,aR xs.length xs.length hi with
     |some l,some h=>ba m (cut xs l h) M
     |_,_=>.bad
   |none=>.bad
def gW (t:Ty):D->Option Bool
 |.non=>some false
 |.bl _=>some (t==.bool||t==.int)
 |.int _=>some (t==.int)
 |.str _=>some (t==.str)
 |.tup _=>some (t==.tuple)
 |.lst _=>some (t==.list)
 |.frz _=>some (t==.list)
 |.cell _=>some (t==.list)
 |.fn _=>none
 |.exc _ _=>none
noncomputable def boolsOf:List D->Option (List Bool)
 |[]=>some []
 |.bl b::r=>(boolsOf r).map (b::·)
 |_=>none
def dB (f:xr)(ds:List D)(M:Mem):Res D:=match f,ds with
 |.len,[.str x]=>if x.cps.size<=sz then .ok (.int x.cps.size) M else .bad
 | .len,[d]=>match bL M d with
   |some xs=>.ok (.int xs.length) M
   |none=>.bad
 |.tuple,[.tup xs]=>.ok (.tup xs) M
 | .tuple,[d]=>match ff M d with
   |some xs=>.ok (.tup xs) M
   |none=>.bad
 | .list m,[d]=>match bL M d with
   |some xs=>ba m xs M
   |none=>.bad
 |.listR m,[.int n]=>if n<2^20 then ba m ((List.range n.toNat).map λ(k:Nat)=>D.int (k:Int)) M else .bad
 | .all,[d]=>match ff M d with
   | some xs=>match boolsOf xs with
     |some bs=>.ok (.bl (bs.all id)) M
     |none=>.bad
   |none=>.bad
 | .sum,[d]=>match ff M d with
   | some xs=>match intsOf xs with
     |some is=>.ok (.int is.sum) M
     |none=>.bad
   |none=>.bad
 |_,_=>.bad
noncomputable def cL:List Nat->List D->Env->Option Env
 |[],[],h=>some h
 |i::l,d::ds,h=>cL l ds (h.set i (some d))
 |_,_,_=>none
def bU (t:fK)(d:D)(Z:Env):Option Env:=match t,d with
 |.one i,d=>some (Z.set i (some d))
 |.tup l,.tup h=>cL l h Z
 |.two i l,.tup [d,.tup h]=>cL l h (Z.set i (some d))
 |.tup _,_=>none
 |.two _ _,_=>none
abbrev Walk:=Mem->Option (List D)
noncomputable def fj:Nat->List D->List D
 |_,[]=>[]
 |k,d::r=>.tup [.int k,d]::fj (k+1) r
noncomputable def iI:List D->List D->List D
 |a::r,b::t=>.tup [a,b]::iI r t
 |_,_=>[]
noncomputable def fC:List D->List D->List D->List D
 |a::r,b::t,c::q=>.tup [a,b,c]::fC r t q
 |_,_,_=>[]
def fZ {h:Type}(f:h->D->Mem->Res h)(w:Walk):Nat->Nat->h->Mem->Res h
 |0,_,_,_=>.bad
 | n+1,i,a,M=>match w M with
   |none=>.bad
   | some j=>match j[i]? with
     |none=>.ok a M
     |some d=>(f a d M).bind (fZ f w n (i+1))
def cU {h:Type}(f:h->D->Mem->Res h)(w:Walk)(a:h)(M:Mem):Res h:=fZ f w (((w M).getD []).length+1) 0 a M
noncomputable def bS {h:Type}(M:Mem):Option h->Res h
 |some a=>.ok a M
 |none=>.bad
@[simp] theorem OW {h:Type}(M:Mem)(a:h):bS M (some a)=.ok a M:=rfl
@[simp] theorem OX {h:Type}(M:Mem):(bS M none:Res h)=.bad:=rfl
inductive Fl where
 |next (Z:Env)
 |ret (d:D)
 |exc (x:D) (Z:Env)
def NQ {a b:Int}:bZ (.int a) (.int b)=(a==b):=rfl
end LD
namespace LD
open PySem PySem.Spec PyProof.Rows L2
structure Mu where
 pub:Nat->Option Addr
 priv:List Addr
 ob:Nat->Option Addr
def Mu.Mt (μ:Mu)(a:Addr):Prop:=(∃k,μ.pub k=some a)\/a∈μ.priv
abbrev Fa:=Nat->Option Addr
def KL (K:Qr)(a:Addr)(xs:List V):Prop:=
 ∃(o:Obj) (h:Array Qt) (n:Nat),K.lookup a=some o/\o.cls=.type "list"/\o.dict=none/\o.data=.seq h n/\h.size<=sizeLine/\Vals xs h.toList
def xm (C:Addr)(u:Option Addr)(a:Addr)(h:Heap):Prop:=∃o j,h.get? a=some o/\o.cls=.ref C/\o.dict=u/\o.data=.fields j/\1<j.size
noncomputable def Bz (c:Nat):Str:=if c=1 then "number" else "place"
def rn (H:Hp)(c:Nat)(h:Option Addr):Option Int->Prop
 |none=>h=none
 |some i=>∃d,h=some d/\H d=some (.xd [(Bz c,.int i)])
def eY (c:Nat):Nat:=1000+c
def fg (c:Nat):Nat:=900+c
section
variable(fa:Fa)(K:Qr)(μ:Mu)(H:Hp)
mutual
noncomputable def Rep:D->V->Prop
 |.non,v=>v=.non
 |.bl b,v=>v=.bl b
 |.int i,v=>v=.int i
 |.str x,v=>v=.str x
 |.tup j,v=>∃a h,v=.ref a/\dD K H a h/\aD j h
 |.lst j,v=>∃a h,v=.ref a/\(H a=some (.lst h)/\¬ μ.Mt a)/\aD j h
 |.frz j,v=>∃a h,v=.ref a/\((∃ob,H a=some (.frz ob (.lst h)))\/KL K a h)/\aD j h
 |.cell k,v=>∃a,v=.ref a/\μ.pub k=some a
 |.fn f,v=>∃a,v=.ref a/\(fa f=some a\/(fa f=none/\μ.ob f=some a))
 |.exc c p,v=>∃a C u,v=.ref a/\fa (eY c)=some C/\H a=some (.ext (xm C u a))/\rn H c u p
noncomputable def aD:List D->List V->Prop
 |[],h=>h=[]
 |d::ds,h=>∃v r,h=v::r/\Rep d v/\aD ds r
end
end
def IsX (o:HO):Prop:=(∃h,o=.ext h)\/∃fs,o=.xd fs
structure ExtW (μ:Mu) (H:Hp) (μ':Mu) (H':Hp):Prop where
 mu:∀k a,μ.pub k=some a->μ'.pub k=some a
 tups:∀a vs,Rd H a (.tup vs)->Rd H' a (.tup vs)
 lsts:∀a vs,H a=some (.lst vs)->¬ μ.Mt a->H' a=some (.lst vs)/\¬ μ'.Mt a
 frzs:∀a ob u,H a=some (.frz ob u)->H' a=some (.frz ob u)
 exts:∀a o,IsX o->H a=some o->H' a=some o
 obs:∀k a,μ.ob k=some a->μ'.ob k=some a
structure Ext (μ:Mu) (H:Hp) (μ':Mu) (H':Hp):Prop extends ExtW μ H μ' H' where
 pr:μ'.priv=μ.priv
 pk:∀a∈μ.priv,H' a=H a
def ExtW.refl:ExtW μ H μ H:={λ_ _ h=>h,λ_ _ h=>h,λ_ _ h n=>⟨h,n⟩,λ_ _ _ h=>h,λ_ _ _ h=>h,λ_ _ h=>h}
def ExtW.trans (a:ExtW μ H μ1 H1)(b:ExtW μ1 H1 μ2 H2):ExtW μ H μ2 H2:=
 {λk x h=>b.mu k x (a.mu k x h),λx j h=>b.tups x j (a.tups x j h),λx j h n=>b.lsts x j (a.lsts x j h n).1 (a.lsts x j h n).2,λx ob u h=>b.frzs x ob u (a.frzs x ob u h),λx o i h=>b.exts x o i (a.exts x o i h),λk x h=>b.obs k x (a.obs k x h)}
def Ext.refl:Ext μ H μ H:={.refl,rfl,λ_ _=>rfl}
def Ext.trans (a:Ext μ H μ1 H1)(b:Ext μ1 H1 μ2 H2):Ext μ H μ2 H2:=
 {a.toExtW.trans b.toExtW,b.pr.trans a.pr,λx h=>(b.pk x (by rw[a.pr];exact h)).trans (a.pk x h)}
section
variable{fa:Fa}{K:Qr}{μ μ':Mu}{H H':Hp}
def ExtW.sqT (x:ExtW μ H μ' H')(h:dD K H a vs):dD K H' a vs:=h.elim (λz=>.inl (x.tups a vs z)) .inr
mutual
theorem Rep.extW (x:ExtW μ H μ' H'):∀{d:D}{v:V},Rep fa K μ H d v->Rep fa K μ' H' d v
 |.non,v,h=>h
 |.bl b,v,h=>h
 |.int i,v,h=>h
 |.str y,v,h=>h
 | .tup u,v,h=>by
   obtain⟨a,j,e,s,r⟩:=h;exact{a,j,e,x.sqT s,aD.extW x r}
 | .lst u,v,h=>by
   obtain⟨a,j,e,s,r⟩:=h;exact{a,j,e,x.lsts a j s.1 s.2,aD.extW x r}
 | .frz u,v,h=>by
   obtain⟨a,j,e,s,r⟩:=h;exact{a,j,e,s.elim (λ⟨ob,z⟩=>.inl {ob,x.frzs a ob _ z}) .inr,aD.extW x r}
 | .cell k,v,h=>by
   obtain⟨a,e,m⟩:=h;exact{a,e,x.mu k a m}
 | .fn f,v,h=>by
   obtain⟨a,e,m⟩:=h;exact{a,e,m.imp id λz=>{z.1,x.obs _ _ z.2}}
 | .exc c p,v,h=>by
   obtain⟨a,C,B,e,f,g,n⟩:=h;refine{a,C,B,e,f,x.exts _ _ (.inl {_,rfl}) g,?_};cases p with
   |none=>exact n
   |some i=>exact let⟨d,h1,h2⟩:=n;{d,h1,x.exts _ _ (.inr {_,rfl}) h2}
theorem aD.extW (x:ExtW μ H μ' H'):∀{ds:List D}{vs:List V},aD fa K μ H ds vs->aD fa K μ' H' ds vs
 |[],vs,h=>h
 | d::ds,vs,h=>by
   obtain⟨v,r,e,p,q⟩:=h;exact{v,r,e,Rep.extW x p,aD.extW x q}
end
def Rep.ext (x:Ext μ H μ' H')(h:Rep fa K μ H d v):Rep fa K μ' H' d v:=Rep.extW x.toExtW h
def aD.ext (x:Ext μ H μ' H')(h:aD fa K μ H d v):aD fa K μ' H' d v:=aD.extW x.toExtW h
def aD.length:∀{ds:List D}{vs:List V},aD fa K μ H ds vs->vs.length=ds.length
 | [],vs,h=>by
   subst h;rfl
 | d::ds,vs,h=>by
   obtain⟨v,r,e,p,q⟩:=h;subst e;simp[aD.length q]
theorem aD.get:∀{ds:List D}{vs:List V}{i:Nat}{d:D},aD fa K μ H ds vs->ds[i]?=some d->∃v,vs[i]?=some v/\Rep fa K μ H d v
 |[],_,_,_,_,e=>by simp at e
 | d::ds,vs,0,j,h,e=>by
   obtain⟨v,r,rfl,p,q⟩:=h;simp at e;subst e;exact⟨v,rfl,p⟩
 | d::ds,vs,i+1,j,h,e=>by
   obtain⟨v,r,rfl,p,q⟩:=h;obtain⟨u,h1,h2⟩:=aD.get q (by simpa using e)
   exact{u,by simpa using h1,h2}
def aD.getV:∀{ds:List D}{vs:List V}{i:Nat}{v:V},aD fa K μ H ds vs->vs[i]?=some v->∃d,ds[i]?=some d/\Rep fa K μ H d v:=by
 intro ds vs i v h e;have hl:=h.length;have j:i<vs.length:=(Qs.mp e).1;obtain⟨d,hd⟩:∃d,ds[i]?=some d:={ds[i]'(`a),`s}
 obtain⟨u,h1,h2⟩:=h.get hd;rw[e] at h1;cases h1;exact⟨d,hd,h2⟩
def aD.append:∀{ds es:List D}{vs ws:List V},aD fa K μ H ds vs->aD fa K μ H es ws->aD fa K μ H (ds++es) (vs++ws)
 | [],_,vs,_,h,g=>by
   subst h;exact g
 | d::ds,es,vs,ws,h,g=>by
   obtain⟨v,r,rfl,p,q⟩:=h;exact{v,r++ws,rfl,p,aD.append q g}
def aD.one (h:Rep fa K μ H d v):aD fa K μ H [d] [v]:={v,[],rfl,h,rfl}
def aD.drop:∀(n:Nat) {ds:List D}{vs:List V},aD fa K μ H ds vs->aD fa K μ H (ds.drop n) (vs.drop n)
 |0,_,_,h=>h
 | n+1,[],vs,h=>by
   subst h;exact rfl
 | n+1,d::ds,vs,h=>by
   obtain⟨v,r,rfl,p,q⟩:=h;exact aD.drop n q
theorem aD.take:∀(n:Nat) {ds:List D}{vs:List V},aD fa K μ H ds vs->aD fa K μ H (ds.take n) (vs.take n)
 |0,_,_,h=>rfl
 | n+1,[],vs,h=>by
   subst h;exact rfl
 | n+1,d::ds,vs,h=>by
   obtain⟨v,r,rfl,p,q⟩:=h;exact{v,r.take n,rfl,p,aD.take n q}
theorem aD.set:∀(n:Nat) {ds:List D}{vs:List V}{d:D}{v:V},aD fa K μ H ds vs->Rep fa K μ H d v->aD fa K μ H (ds.set n d) (vs.set n v)
 | _,[],vs,_,_,h,_=>by
   subst h;exact rfl
 | 0,d::ds,vs,_,j,h,g=>by
   obtain⟨v,r,rfl,p,q⟩:=h;exact⟨j,r,rfl,g,q⟩
 | n+1,d::ds,vs,_,j,h,g=>by
   obtain⟨v,r,rfl,p,q⟩:=h;exact{v,r.set n j,rfl,p,aD.set n q g}
theorem aD.reverse:∀{ds:List D}{vs:List V},aD fa K μ H ds vs->aD fa K μ H ds.reverse vs.reverse
 | [],vs,h=>by
   subst h;exact rfl
 | d::ds,vs,h=>by
   obtain⟨v,r,rfl,p,q⟩:=h;rw[List.reverse_cons,List.reverse_cons];exact aD.append (aD.reverse q) (.one p)
def aD.rep:∀(n:Nat) {ds:List D}{vs:List V},aD fa K μ H ds vs->aD fa K μ H (List.replicate n ds).flatten (List.replicate n vs).flatten
 |0,_,_,_=>rfl
 | n+1,ds,vs,h=>by
   rw[Sj,Sj,SM,SM];exact h.append (aD.rep n h)
def aD.ints:∀(ns:List Int),aD fa K μ H (ns.map D.int) (ns.map V.int)
 |[]=>rfl
 |n::ns=>{.int n,ns.map V.int,rfl,rfl,aD.ints ns}
end
noncomputable def bJ:Nat->List Str
 |40=>["machine","standing","earlier"]
 |_=>[]
def aj (k:Nat):Nat:=5000+k
noncomputable def Fd (ks:List Int):Int:=reduceHash (Builtin.Tuple.tupleHashOf (ks.map hashInt))
noncomputable def MW (h:List (List Int)):Int:=reduceHash (Builtin.Tuple.tupleHashOf (h.map Fd))
def nz (c:Int)(d:D):Option Int:=if c=77 then(mE d).map Fd else if c=78 then(qN d).map MW else none
def DJ (fa:Fa)(K:Qr)(μ:Mu)(H:Hp)(c:Int)(p:D×D)(e:Sl):Prop:=∃b v,e.key=.ref b/\nz c p.1=some e.hash/\Rep fa K μ H p.1 (.ref b)/\RelV v e.val/\Rep fa K μ H p.2 v
def jB (fa:Fa)(K:Qr)(μ:Mu)(H:Hp)(a:Addr)(ds:List D):Prop:=
 (∃(c:Nat) (C u:Addr) (fs:List (Str×V)) (j:List D),fa (fg c)=some C/\H a=some (.ins C u fs)/\fs.map (·.1)=(bJ c).take fs.length/\ds=.int c::j/\aD fa K μ H j (fs.map (·.2)))\/
 ∃(c:Int) (j:List Sl) (h:List (D×D)),H a=some (.dn j)/\(c=77\/c=78)/\ds=.int c::h.map (λp=>.tup [p.1,p.2])/\Su (DJ fa K μ H c) h j/\(h.map (·.1)).Nodup
def jB.extW {fa:Fa}{K:Qr}{μ μ':Mu}{H H':Hp}{a:Addr}{ds:List D}(h:jB fa K μ H a ds)(x:ExtW μ H μ' H')(e:H' a=H a):jB fa K μ' H' a ds:=
 h.imp (λ⟨c,C,z,fs,j,h1,h2,h3,h4,u⟩=>{c,C,z,fs,j,h1,e.trans h2,h3,h4,u.extW x})
  λ⟨c,j,y,h1,h2,h3,h4,u⟩=>{c,j,y,e.trans h1,h2,h3,Su.mapP h4 λp q ⟨b,v,e1,e2,B,E,F⟩=>{b,v,e1,e2,B.extW x,E,F.extW x},u}
def jB.hold {fa:Fa}{K:Qr}{μ:Mu}{H:Hp}{a:Addr}{ds:List D}(h:jB fa K μ H a ds):∃o,H a=some o/\(∀vs,o≠.lst vs):=by
 rcases h with⟨_,_,_,_,_,_,h,_⟩|⟨_,_,_,h,_⟩
 ·exact{_,h,λ_ z=>by cases z}
 ·exact{_,h,λ_ z=>by cases z}
def jB.new {fa:Fa}{K:Qr}{μ:Mu}{H:Hp}{a p:Addr}{ds:List D}(h:jB fa K μ H a ds)(j:H p=none):a≠p:=let{_,e,_}:=h.hold;aP e j
def jB.nl {fa:Fa}{K:Qr}{μ:Mu}{H:Hp}{a p:Addr}{ds:List D}{vs:List V}(h:jB fa K μ H a ds)(j:H p=some (.lst vs)):a≠p:=λz=>by
 obtain⟨o,e,n⟩:=h.hold;rw[z,j] at e;cases e;exact n _ rfl
def NY (fa:Fa)(K:Qr)(μ:Mu)(H:Hp)(k:Nat)(ds:List D):Prop:=
 (∃a h,μ.pub k=some a/\H a=some (.lst h)/\aD fa K μ H ds h)\/∃a,μ.ob (aj k)=some a/\μ.pub k=none/\jB fa K μ H a ds
structure RelM (fa:Fa) (K:Qr) (μ:Mu) (H:Hp) (M:Mem):Prop where
 at':∀(k:Nat) (ds:List D),M[k]?=some ds->NY fa K μ H k ds
 out:∀(k:Nat),M.length<=k->μ.pub k=none
 oout:∀(k:Nat),M.length<=k->μ.ob (aj k)=none
 inj:∀j k a,μ.pub j=some a->μ.pub k=some a->j=k
 oinj:∀j k a,μ.ob (aj j)=some a->μ.ob (aj k)=some a->j=k
 sep:∀k a,μ.pub k=some a->μ.ob (aj k)=none
 pv:∀a∈μ.priv,(∃vs,H a=some (.lst vs))/\∀k,μ.pub k≠some a
structure a8 (fa:Fa) (K:Qr) (μ:Mu) (H:Hp) (σ:L2.St) (Z:Env):Prop where
 len:σ.length=Z.length
 at':∀(i:Nat) (d:D),Z[i]?=some (some d)->∃v,σ[i]?=some (some v)/\Rep fa K μ H d v
section
variable{fa:Fa}{K:Qr}{μ μ':Mu}{H H':Hp}{σ:L2.St}{Z:Env}{M:Mem}
def a8.ext (h:a8 fa K μ H σ Z)(x:Ext μ H μ' H'):a8 fa K μ' H' σ Z:=
 {h.len,λi d e=>let⟨v,h1,h2⟩:=h.at' i d e;{v,h1,h2.ext x}}
def a8.set (h:a8 fa K μ H σ Z){i:Nat}{d:D}{v:V}(r:Rep fa K μ H d v):a8 fa K μ H (σ.set i (some v)) (Z.set i (some d)):=by
 refine{by simp[h.len],λj z e=>?_}
 by_cases y:j=i
 ·subst y;have hl:j<Z.length:=by
   have:=(Qs.mp e).1;simpa using this
  rw[QI hl] at e;cases e;exact{v,QI (by rw[h.len];exact hl),r}
 ·rw[Qv (RF y)] at e;obtain⟨u,h1,h2⟩:=h.at' j z e;exact{u,by rw[Qv (RF y)];exact h1,h2}
def a8.extW (h:a8 fa K μ H σ Z)(x:ExtW μ H μ' H'):a8 fa K μ' H' σ Z:=
 {h.len,λi d e=>let⟨v,h1,h2⟩:=h.at' i d e;{v,h1,h2.extW x}}
def RelM.mu_lt (h:RelM fa K μ H M)(e:μ.pub k=some a):∃ds vs,M[k]?=some ds/\H a=some (.lst vs)/\aD fa K μ H ds vs:=by
 by_cases hk:k<M.length
 ·rcases h.at' k M[k] (by simp[hk]) with⟨j,vs,h1,h2,h3⟩|⟨_,_,z,_⟩
  ·rw[e] at h1;cases h1;exact{_,vs,by simp[hk],h2,h3}
  ·rw[e] at z;cases z
 ·rw[h.out k `a] at e;cases e
def RelM.at_ (h:RelM fa K μ H M)(e:M[k]?=some ds)(p:μ.pub k=some a):∃vs,H a=some (.lst vs)/\aD fa K μ H ds vs:=by
 obtain⟨j,vs,h1,h2,h3⟩:=h.mu_lt p;rw[e] at h1;cases h1;exact⟨vs,h2,h3⟩
def RelM.fresh (h:RelM fa K μ H M)(j:H p=none):¬ μ.Mt p:=λe=>by
 rcases e with⟨k,e⟩|e
 ·obtain⟨v,u,_,h2,_⟩:=h.mu_lt e;rw[j] at h2;cases h2
 ·obtain⟨⟨u,h2⟩,_⟩:=h.pv p e;rw[j] at h2;cases h2
def RelM.pne (h:RelM fa K μ H M)(u:H p=none)(j:a∈μ.priv):a≠p:=λe=>by
 obtain⟨⟨v,h2⟩,_⟩:=h.pv a j;rw[e,u] at h2;cases h2
def Ext.alloc (h:RelM fa K μ H M)(j:H p=none):Ext μ H μ (upd H p o):=by
 have rd:∀a u,Rd H a u->Rd (upd H p o) a u:=λa u h=>by
  rcases h with h|⟨ob,h⟩
  ·exact .inl (by rw[av (aP h j)];exact h)
  ·exact .inr {ob,by rw[av (aP h j)];exact h}
 exact{{λ_ _ h=>h,λa y h=>rd a _ h,λa y h n=>{by rw[av (aP h j)];exact h,n},λa ob u h=>by rw[av (aP h j)];exact h,λa o _ h=>by rw[av (aP h j)];exact h,λ_ _ h=>h},rfl,λa v=>by rw[av (h.pne j v)]}
def RelM.alloc (h:RelM fa K μ H M)(j:H p=none):RelM fa K μ (upd H p o) M:=
 {λk y e=>(h.at' k y e).imp (λ⟨a,v,h1,h2,h3⟩=>{a,v,h1,by rw[av (aP h2 j)];exact h2,h3.ext (Ext.alloc h j)}) λ⟨a,h1,h2,h3⟩=>{a,h1,h2,h3.extW (Ext.alloc h j).toExtW (av (h3.new j))},h.out,h.oout,h.inj,h.oinj,h.sep,λa u=>{let{⟨v,e⟩,_}:=h.pv a u;{v,by rw[av (h.pne j u)];exact e},(h.pv a u).2}}
noncomputable def fF (μ:Mu)(n:Nat)(p:Addr):Mu:={λk=>if k=n then some p else μ.pub k,μ.priv,μ.ob}
set_option tactic.hygienic true in
def Ext.cell (h:RelM fa K μ H M)(j:H p=none):Ext μ H (fF μ M.length p) (upd H p o):=by
 have rd:∀a u,Rd H a u->Rd (upd H p o) a u:=λa u h=>by
  rcases h with h|⟨ob,h⟩
  ·exact .inl (by rw[av (aP h j)];exact h)
  ·exact .inr {ob,by rw[av (aP h j)];exact h}
 refine{{λk a e=>?_,λa y g=>rd a _ g,λa y g n=>{by rw[av (aP g j)];exact g,λe=>?_},λa ob u h=>by rw[av (aP h j)];exact h,λa o _ h=>by rw[av (aP h j)];exact h,λ_ _ h=>h},rfl,λa v=>by rw[av (h.pne j v)]}
 ·show(if k=M.length then some p else μ.pub k)=some a;split
  ·next q=>rw[q,h.out _ (QA _)] at e;cases e
  ·exact e
 ·rcases e with⟨k,e⟩|e
  ·have e:(if k=M.length then some p else μ.pub k)=some a:=e;split at e
   ·cases e;exact aP g j rfl
   ·exact n (.inl ⟨k,e⟩)
  ·exact n (.inr e)
set_option tactic.hygienic true in
def RelM.cell (h:RelM fa K μ H M){p:Addr}{ds:List D}{vs:List V}(u:H p=none)(r:aD fa K μ H ds vs) :
 RelM fa K (fF μ M.length p) (upd H p (.lst vs)) (M++[ds]):=by
 have x:Ext μ H (fF μ M.length p) (upd H p (.lst vs)):=Ext.cell h u;have F:=h.fresh u;refine{λk v e=>?_,λk hk=>?_,λk hk=>h.oout k (by simp at hk;omega),λj k a h1 h2=>?_,h.oinj,λk a z=>?_,λa y=>?_}
 ·by_cases hk:k<M.length
  ·rw[QB hk] at e;rcases h.at' k v e with⟨a,E,h1,h2,h3⟩|⟨a,h1,h2,h3⟩
   ·exact .inl {a,E,x.mu k a h1,by rw[av (aP h2 u)];exact h2,h3.ext x}
   ·exact .inr {a,h1,by show(if k=M.length then some p else μ.pub k)=none;rw[if_neg (Q1 hk)];exact h2,h3.extW x.toExtW (av (h3.new u))}
  ·have B:k=M.length:=by
    have:=(Qs.mp e).1;simp at this;omega
   subst B;rw[QV (QA _)] at e;simp at e;subst e;exact .inl {p,vs,by simp[fF],bG,r.ext x}
 ·simp at hk;show(if k=M.length then some p else μ.pub k)=none;rw[if_neg `a]
  exact h.out k `a
 ·have h1:(if j=M.length then some p else μ.pub j)=some a:=h1;have h2:(if k=M.length then some p else μ.pub k)=some a:=h2;split at h1<;>split at h2
  ·omega
  ·cases h1;exact absurd (.inl ⟨k,h2⟩) F
  ·cases h2;exact absurd (.inl ⟨j,h1⟩) F
  ·exact h.inj j k a h1 h2
 ·have z:(if k=M.length then some p else μ.pub k)=some a:=z;show μ.ob (aj k)=none;split at z
  ·next e=>rw[e];exact h.oout _ (QA _)
  ·exact h.sep k a z
 ·obtain⟨⟨E,e⟩,n⟩:=h.pv a y;refine{{E,by rw[av (h.pne u y)];exact e},λk e2=>?_}
  have e2:(if k=M.length then some p else μ.pub k)=some a:=e2;split at e2
  ·cases e2;exact h.pne u y rfl
  ·exact n k e2
def ExtW.write (h2:H a=some (.lst vs))(e:μ.Mt a):ExtW μ H μ (upd H a (.lst ws)):=by
 have ne:∀b u,Rd H b u->(∀xs,u≠.lst xs)->b≠a:=λb u g j q=>by
  subst q;rcases g with g|⟨ob,g⟩
  ·rw[h2] at g;cases g;exact j _ rfl
  ·rw[h2] at g;cases g
 have rd:∀b u,b≠a->Rd H b u->Rd (upd H a (.lst ws)) b u:=λb u h g=>by
  rcases g with g|⟨ob,g⟩
  ·exact .inl (by rw[av h];exact g)
  ·exact .inr {ob,by rw[av h];exact g}
 exact{λ_ _ q=>q,λb v g=>rd b _ (ne b _ g (λxs q=>by cases q)) g,λb v g n=>{by rw[av (λq=>n (by rw[q];exact e))];exact g,n},λb ob u g=>by rw[av (λq=>by rw[q,h2] at g;cases g)];exact g,λb o i g=>by rw[av (λq=>by rw[q,h2] at g;cases g;rcases i with⟨_,i⟩|⟨_,i⟩<;>cases i)];exact g,λ_ _ q=>q}
def Ext.write {k:Nat}{a:Addr}{vs ws:List V}(h:RelM fa K μ H M)(e:μ.pub k=some a):Ext μ H μ (upd H a (.lst ws)):=by
 obtain⟨u,vs,_,h2,_⟩:=h.mu_lt e;exact{ExtW.write h2 (.inl ⟨k,e⟩),rfl,λb j=>by rw[av (λq=>(h.pv b j).2 k (by rw[q];exact e))]}
def RelM.write (h:RelM fa K μ H M){k:Nat}{a:Addr}{ds:List D}{ws:List V}(e:μ.pub k=some a)(r:aD fa K μ H ds ws):RelM fa K μ (upd H a (.lst ws)) (M.set k ds):=by
 have x:Ext μ H μ (upd H a (.lst ws)):=Ext.write (vs:=ws) h e;refine{λj y q=>?_,λj u=>h.out j (by simpa using u),λj u=>h.oout j (by simpa using u),h.inj,h.oinj,h.sep,λb v=>{let{⟨vs,g⟩,_}:=h.pv b v;{vs,by rw[x.pk b v];exact g},(h.pv b v).2}}
 by_cases u:j=k
 ·subst u;have hl:j<M.length:=by have:=(Qs.mp q).1;simpa using this
  rw[QI hl] at q;cases q;exact .inl {a,ws,e,bG,r.ext x}
 ·rw[Qv (RF u)] at q;rcases h.at' j y q with⟨b,vs,h1,h2,h3⟩|⟨b,h1,h2,h3⟩
  ·have B:b≠a:=λz=>u (h.inj j k a (z ▸ h1) e);exact .inl {b,vs,h1,by rw[av B];exact h2,h3.ext x}
  ·obtain⟨_,_,_,hl,_⟩:=h.mu_lt e;exact .inr {b,h1,h2,h3.extW x.toExtW (av (h3.nl hl))}
end
def ae {h:Type}(r:Res h)(k:h->Mem->Prop):Prop:=match r with
 |.ok a M=>k a M
 |_=>False
def aC {j u:Type}{r:Res j}{f:j->Mem->Res u}{k:u->Mem->Prop}(h:ae (r.bind f) k):∃a M,r=.ok a M/\ae (f a M) k:=by
 cases r with
 |ok a M=>exact⟨a,M,rfl,h⟩
 |err=>exact h.elim
 |bad=>exact h.elim
def i4 {j:Type}{M:Mem}{o:Option j}{k:j->Mem->Prop}(h:ae (bS M o) k):∃a,o=some a/\k a M:=by
 cases o with
 |none=>exact h.elim
 |some a=>exact⟨a,rfl,h⟩
def aM {j:Type}{r:Res j}{k k':j->Mem->Prop}(h:ae r k)(m:∀a M,k a M->k' a M):ae r k':=by
 cases r with
 |ok a M=>exact m a M h
 |err=>exact h
 |bad=>exact h
section
variable(fa:Fa)(K:Qr)
def aW (μ:Mu)(H:Hp)(Q:VK)(d:D)(M':Mem):Prop:=∀v H' μ',Ext μ H μ' H'->RelM fa K μ' H' M'->Rep fa K μ' H' d v->Q v H'
def tE (g:Env->Mem->Res D):TE:=λσ H Q=>∃μ Z M,a8 fa K μ H σ Z/\RelM fa K μ H M/\ae (g Z M) (aW fa K μ H Q)
def tT (g:Env->Mem->Res Bool):TT:=λσ H Q=>∃μ Z M,a8 fa K μ H σ Z/\RelM fa K μ H M/\ae (g Z M) λb h=>∀H' μ',Ext μ H μ' H'->RelM fa K μ' H' h->Q b H'
def tA (g:Env->Mem->Res (List D)):TA:=λσ H Q=>∃μ Z M,a8 fa K μ H σ Z/\RelM fa K μ H M/\ae (g Z M) λu j=>∀h H' μ',Ext μ H μ' H'->RelM fa K μ' H' j->aD fa K μ' H' u h->Q h H'
end
def mY (New:Addr->Prop)(C:Addr)(v:Option Addr)(a:Addr)(h:Heap)(H:Hp):Prop:=New a/\H a=none/\∃o j,h.get? a=some o/\o.cls=.ref C/\o.dict=v/\o.data=.fields j/\
 (j[1]?=some .none\/∃T u ts,j[1]?=some (.ref T)/\T≠a/\New T/\H T=none/\h.get? T=some u/\u.data=.fields ts/\ts[3]?=some .none)
def yK (X:Cx)(b:Addr):Prop:=X.s₀.heap.get? b=none/\∀p∈X.pn,p.1≠b
def XW (fa:Fa)(X:Cx)(μ:Mu)(H:Hp)(x:D)(Z:Env)(M:Mem):Prop:=∀h j H' μ' u a C v c p,Inv X h j H' u->Ext μ H μ' H'->a8 fa X.K μ' H' j Z->RelM fa X.K μ' H' M->x=.exc c p->fa (eY c)=some C->rn H' c v p->mY (yK X) C v a u.heap H'->X.xe (.ref a) u
def mZ (fa:Fa)(X:Cx)(μ:Mu)(H:Hp)(D:Ends):Fl->Mem->Prop
 |.next h,j=>∀u H' μ',Ext μ H μ' H'->a8 fa X.K μ' H' u h->RelM fa X.K μ' H' j->D.nx u H'
 |.ret d,j=>aW fa X.K μ H D.rt d j
 |.exc x h,j=>XW fa X μ H x h j
def tF (fa:Fa)(X:Cx)(g:Env->Mem->Res Fl):TS:=λD σ H=>∃μ Z M,a8 fa X.K μ H σ Z/\RelM fa X.K μ H M/\ae (g Z M) (mZ fa X μ H D)
def XW.ext (h:XW fa X μ H x Z M)(y:Ext μ H μ' H'):XW fa X μ' H' x Z M:=λj v z u s1 a C B c p I e=>h j v z u s1 a C B c p I (y.trans e)
section
variable{fa:Fa}{K:Qr}{μ μ':Mu}{H H':Hp}{Q:VK}
def aW.ext (h:aW fa K μ H Q d M)(x:Ext μ H μ' H'):aW fa K μ' H' Q d M:=λv u j y m r=>h v u j (x.trans y) m r
def kj {r:Res D}(h:ae r (aW fa K μ H Q))(x:Ext μ H μ' H'):ae r (aW fa K μ' H' Q):=aM h λ_ _ w=>w.ext x
end
def a9 (h:PE X e t)(i:∀σ H Q,t' σ H Q->t σ H Q):PE X e t':=λj s σ H Q I q=>h j s σ H Q I (i σ H Q q)
def kg (h:PT X e t)(i:∀σ H Q,t' σ H Q->t σ H Q):PT X e t':=λj s σ H Q I q=>h j s σ H Q I (i σ H Q q)
def zY (h:PW X e t)(i:∀σ H Q,t' σ H Q->t σ H Q):PW X e t':=λw j s σ H Q I q=>h w j s σ H Q I (i σ H Q q)
def Aj (h:PA X e t)(i:∀σ H Q,t' σ H Q->t σ H Q):PA X e t':=λu j s σ H Q I q=>h u j s σ H Q I (i σ H Q q)
def dh (h:PS X e t)(i:∀D σ H,t' D σ H->t D σ H):PS X e t':=λj s σ H D I q=>h j s σ H D I (i D σ H q)
def wg (h:kG X e t)(i:∀D σ H,t' D σ H->t D σ H):kG X e t':=λj s σ H D I q=>h j s σ H D I (i D σ H q)
section
variable{fa:Fa}{K:Qr}{μ:Mu}{H:Hp}{σ:L2.St}{Z:Env}{M:Mem}
def t1 {g:Env->Mem->Res D}{B:Type}{f:D->Mem->Res B}{P:B->Mem->Prop}{R:V->Hp->Prop}(y:a8 fa K μ H σ Z)(E:RelM fa K μ H M)(h:ae ((g Z M).bind f) P)
 (k:∀x M1 v u j,Ext μ H j u->a8 fa K j u σ Z->RelM fa K j u M1->Rep fa K j u x v->ae (f x M1) P->R v u):tE fa K g σ H R:=by
 obtain⟨x,M1,e,q⟩:=aC h;refine{μ,Z,M,y,E,?_};rw[e];exact λv u j z F r1=>k x M1 v u j z (y.ext z) F r1 q
def zt {g:Env->Mem->Res Bool}{z:Type}{f:Bool->Mem->Res z}{P:z->Mem->Prop}{R:Bool->Hp->Prop}(v:a8 fa K μ H σ Z)(B:RelM fa K μ H M)(h:ae ((g Z M).bind f) P)
 (k:∀b M1 u j,Ext μ H j u->a8 fa K j u σ Z->RelM fa K j u M1->ae (f b M1) P->R b u):tT fa K g σ H R:=by
 obtain⟨b,M1,e,q⟩:=aC h;refine{μ,Z,M,v,B,?_};rw[e];exact λu j y E=>k b M1 u j y (v.ext y) E q
def rL {g:Env->Mem->Res (List D)}{B:Type}{f:List D->Mem->Res B}{P:B->Mem->Prop}{R:List V->Hp->Prop}(y:a8 fa K μ H σ Z)(E:RelM fa K μ H M)(h:ae ((g Z M).bind f) P)
 (k:∀ds M1 vs u j,Ext μ H j u->a8 fa K j u σ Z->RelM fa K j u M1->aD fa K j u ds vs->ae (f ds M1) P->R vs u):tA fa K g σ H R:=by
 obtain⟨ds,M1,e,q⟩:=aC h;refine{μ,Z,M,y,E,?_};rw[e];exact λv u j z F r1=>k ds M1 v u j z (y.ext z) F r1 q
end
mutual
noncomputable def toPy:D->PyData
 |.non=>.none
 |.bl b=>.bool b
 |.int i=>.int i
 |.str x=>.str x
 |.tup h=>.tuple (cp h)
 |.lst h=>.list (cp h)
 |.frz _=>.none
 |.cell _=>.none
 |.fn _=>.none
 |.exc _ _=>.none
noncomputable def cp:List D->List PyData
 |[]=>[]
 |d::r=>toPy d::cp r
end
def qt:∀(n:Nat) (d:D),aA n d=true->(toPy d).canLay0=true/\(toPy d).depth<=n:=by
 have all:∀(n:Nat),(∀d,aA n d=true->(toPy d).canLay0=true/\(toPy d).depth<=n)->∀j:List D,j.all (aA n)=true->PyData.canLayAll0 (cp j)=true/\PyData.depthAll (cp j)<=n:=by
  intro n h j;induction j with
  |nil=>intro _;simp[cp,PyData.canLayAll0,PyData.depthAll]
  | cons d r u=>
    intro q;simp only[RB,Qw] at q;obtain⟨h1,h2⟩:=h d q.1;obtain⟨h3,h4⟩:=u q.2;simp only[cp,PyData.canLayAll0,PyData.depthAll,h1,h3,Bool.and_self,true_and];omega
 intro n;induction n with
 | zero=>
   intro d h;cases d with
   |str x=>exact{by simpa[toPy,PyData.canLay0,PyData.strOk,aA] using h,by simp[toPy,PyData.depth]}
   |tup _=>simp[aA] at h
   |lst _=>simp[aA] at h
   |frz _=>simp[aA] at h
   |cell _=>simp[aA] at h
   |fn _=>simp[aA] at h
   |exc y p=>simp[aA] at h
   |_=>exact{by simp[toPy,PyData.canLay0],by simp[toPy,PyData.depth]}
 | succ n u=>
   intro d h;cases d with
   |str x=>exact{by simpa[toPy,PyData.canLay0,PyData.strOk,aA] using h,by simp[toPy,PyData.depth]}
   | tup j=>
     obtain⟨h1,h2⟩:=all n u j (by simpa[aA] using h)
     simp only[toPy,PyData.canLay0,PyData.depth,h1,true_and];omega
   | lst j=>
     obtain⟨h1,h2⟩:=all n u j (by simpa[aA] using h)
     simp only[toPy,PyData.canLay0,PyData.depth,h1,true_and];omega
   |frz _=>simp[aA] at h
   |cell _=>simp[aA] at h
   |fn _=>simp[aA] at h
   |exc y p=>simp[aA] at h
   |_=>exact{by simp[toPy,PyData.canLay0],by simp[toPy,PyData.depth]}
def jI (h:aA 64 d=true):SeqAt.shaped (toPy d)=true:=by
 obtain⟨h1,h2⟩:=qt 64 d h;simp[SeqAt.shaped,h1,h2]
mutual
theorem nJ:∀(n m:Nat) (a b:D),aA n a=true->aA m b=true->PyData.eqv (toPy a) (toPy b)=bZ a b
 | n,m,.tup a,.tup b,h,j=>by
   cases n with
   |zero=>simp[aA] at h
   | succ n=>
     cases m with
     |zero=>simp[aA] at j
     | succ m=>
       exact oS n m a b (by simpa[aA] using h) (by simpa[aA] using j)
 | n,m,.lst a,.lst b,h,j=>by
   cases n with
   |zero=>simp[aA] at h
   | succ n=>
     cases m with
     |zero=>simp[aA] at j
     | succ m=>
       exact oS n m a b (by simpa[aA] using h) (by simpa[aA] using j)
 |n,m,.frz _,_,h,j=>by cases n<;>simp[aA] at h
 |n,m,.cell _,_,h,j=>by cases n<;>simp[aA] at h
 |n,m,.fn _,_,h,j=>by cases n<;>simp[aA] at h
 |n,m,.exc _ _,_,h,j=>by cases n<;>simp[aA] at h
 |n,m,_,.frz _,h,j=>by cases m<;>simp[aA] at j
 |n,m,_,.cell _,h,j=>by cases m<;>simp[aA] at j
 |n,m,_,.fn _,h,j=>by cases m<;>simp[aA] at j
 |n,m,_,.exc _ _,h,j=>by cases m<;>simp[aA] at j
 |_,_,.non,.non,_,_=>by first|rfl|simp[toPy,PyData.eqv];rfl
 |_,_,.non,.bl _,_,_=>by first|rfl|simp[toPy,PyData.eqv];rfl
 |_,_,.non,.int _,_,_=>by first|rfl|simp[toPy,PyData.eqv];rfl
 |_,_,.non,.str _,_,_=>by first|rfl|simp[toPy,PyData.eqv];rfl
 |_,_,.non,.tup _,_,_=>by first|rfl|simp[toPy,PyData.eqv];rfl
 |_,_,.non,.lst _,_,_=>by first|rfl|simp[toPy,PyData.eqv];rfl
 |_,_,.bl _,.non,_,_=>by first|rfl|simp[toPy,PyData.eqv];rfl
 |_,_,.bl _,.bl _,_,_=>by first|rfl|simp[toPy,PyData.eqv];rfl
 |_,_,.bl _,.int _,_,_=>by first|rfl|simp[toPy,PyData.eqv];rfl
 |_,_,.bl _,.str _,_,_=>by first|rfl|simp[toPy,PyData.eqv];rfl
 |_,_,.bl _,.tup _,_,_=>by first|rfl|simp[toPy,PyData.eqv];rfl
 |_,_,.bl _,.lst _,_,_=>by first|rfl|simp[toPy,PyData.eqv];rfl
 |_,_,.int _,.non,_,_=>by first|rfl|simp[toPy,PyData.eqv];rfl
 |_,_,.int _,.bl _,_,_=>by first|rfl|simp[toPy,PyData.eqv];rfl
 |_,_,.int _,.int _,_,_=>by first|rfl|simp[toPy,PyData.eqv];rfl
 |_,_,.int _,.str _,_,_=>by first|rfl|simp[toPy,PyData.eqv];rfl
 |_,_,.int _,.tup _,_,_=>by first|rfl|simp[toPy,PyData.eqv];rfl
 |_,_,.int _,.lst _,_,_=>by first|rfl|simp[toPy,PyData.eqv];rfl
 |_,_,.str _,.non,_,_=>by first|rfl|simp[toPy,PyData.eqv];rfl
 |_,_,.str _,.bl _,_,_=>by first|rfl|simp[toPy,PyData.eqv];rfl
 |_,_,.str _,.int _,_,_=>by first|rfl|simp[toPy,PyData.eqv];rfl
 |_,_,.str _,.str _,_,_=>by first|rfl|simp[toPy,PyData.eqv];rfl
 |_,_,.str _,.tup _,_,_=>by first|rfl|simp[toPy,PyData.eqv];rfl
 |_,_,.str _,.lst _,_,_=>by first|rfl|simp[toPy,PyData.eqv];rfl
 |_,_,.tup _,.non,_,_=>by first|rfl|simp[toPy,PyData.eqv];rfl
 |_,_,.tup _,.bl _,_,_=>by first|rfl|simp[toPy,PyData.eqv];rfl
 |_,_,.tup _,.int _,_,_=>by first|rfl|simp[toPy,PyData.eqv];rfl
 |_,_,.tup _,.str _,_,_=>by first|rfl|simp[toPy,PyData.eqv];rfl
 |_,_,.tup _,.lst _,_,_=>by first|rfl|simp[toPy,PyData.eqv];rfl
 |_,_,.lst _,.non,_,_=>by first|rfl|simp[toPy,PyData.eqv];rfl
 |_,_,.lst _,.bl _,_,_=>by first|rfl|simp[toPy,PyData.eqv];rfl
 |_,_,.lst _,.int _,_,_=>by first|rfl|simp[toPy,PyData.eqv];rfl
 |_,_,.lst _,.str _,_,_=>by first|rfl|simp[toPy,PyData.eqv];rfl
 |_,_,.lst _,.tup _,_,_=>by first|rfl|simp[toPy,PyData.eqv];rfl
theorem oS:∀(n m:Nat) (a b:List D),a.all (aA n)=true->b.all (aA m)=true->PyData.eqvAll (cp a) (cp b)=dJ a b
 |n,m,[],[],_,_=>by simp[cp,PyData.eqvAll,dJ]
 |n,m,[],_::_,_,_=>by simp[cp,PyData.eqvAll,dJ]
 |n,m,_::_,[],_,_=>by simp[cp,PyData.eqvAll,dJ]
 | n,m,x::a,y::b,h,j=>by
   simp only[RB,Qw] at h j;simp only[cp,PyData.eqvAll,dJ];rw[nJ n m x y h.1 j.1,oS n m a b h.2 j.2]
end
section
variable{fa:Fa}{X:Cx}{μ:Mu}{H:Hp}{σ:L2.St}{pins:List (Addr×Obj)}{s:QC}{M:Mem}
def jf (j:RelM fa X.K μ H M)(h:Rep fa X.K μ H d v)(e:jl M d=some ds):∃a vs,v=.ref a/\H a=some (.lst vs)/\aD fa X.K μ H ds vs:=by
 cases d with
 | lst xs=>
   cases e;obtain⟨a,vs,e,s,r⟩:=h;exact⟨a,vs,e,s.1,r⟩
 | cell k=>
   obtain⟨a,rfl,hk⟩:=h;obtain⟨vs,h2,h3⟩:=j.at_ e hk;exact⟨a,vs,rfl,h2,h3⟩
 |_=>cases e
def bw (j:RelM fa X.K μ H M)(h:Rep fa X.K μ H d v)(e:ff M d=some ds):∃a vs,v=.ref a/\cF X.K H a vs/\aD fa X.K μ H ds vs:=by
 cases d with
 | lst xs=>
   obtain⟨a,vs,h1,h2,h3⟩:=jf j h e;exact{a,vs,h1,.of h2,h3}
 | frz xs=>
   cases e;obtain⟨a,vs,e,s,r⟩:=h;exact{a,vs,e,s.elim (λz=>.inl (.inr z)) .inr,r}
 | cell k=>
   obtain⟨a,vs,h1,h2,h3⟩:=jf j h e;exact{a,vs,h1,.of h2,h3}
 |_=>cases e
def je (j:RelM fa X.K μ H M)(h:Rep fa X.K μ H d v)(e:bL M d=some ds):∃a vs,v=.ref a/\(cF X.K H a vs\/dD X.K H a vs)/\aD fa X.K μ H ds vs:=by
 cases d with
 | tup xs=>
   cases e;obtain⟨a,vs,rfl,h1,h2⟩:=h;exact{a,vs,rfl,.inr h1,h2}
 | lst xs=>
   obtain⟨a,vs,h1,h2,h3⟩:=bw j h e;exact{a,vs,h1,.inl h2,h3}
 | frz xs=>
   obtain⟨a,vs,h1,h2,h3⟩:=bw j h e;exact{a,vs,h1,.inl h2,h3}
 | cell k=>
   obtain⟨a,vs,h1,h2,h3⟩:=bw j h e;exact{a,vs,h1,.inl h2,h3}
 |_=>cases e
mutual
theorem dR (I:Inv X pins σ H s):∀(d:D) (n:Nat) (v:V) (u:Qt),aA n d=true->Rep fa X.K μ H d v->RelV v u->∃z,Reads s.heap u (toPy d) z
 | .non,n,v,u,_,h,r=>by
   obtain rfl:v=.non:=h;obtain rfl:u=Value.none:=r;exact{_,.none}
 | .bl b,n,v,u,_,h,r=>by
   obtain rfl:v=.bl b:=h;obtain rfl:u=Value.bool b:=r;exact{_,.bool b}
 | .int i,n,v,u,_,h,r=>by
   obtain rfl:v=.int i:=h;obtain⟨t,rfl⟩:=r;exact{_,.int i t}
 | .str x,n,v,u,_,h,r=>by
   obtain rfl:v=.str x:=h;obtain⟨t,rfl⟩:=r;exact{_,.str x t}
 | .tup B,n,v,u,j,h,r=>by
   cases n with
   |zero=>simp[aA] at j
   | succ n=>
     obtain⟨a,J,rfl,h1,h2⟩:=h;obtain rfl:u=Value.ref a:=r;obtain⟨y,F,⟨o,e1,e2,k,E⟩,_⟩:=I.tuple h1;obtain⟨z,q⟩:=fE I B n J y (by simpa[aA] using j) h2 F
     exact{_,.tuple e1 e2 E (by simpa using q)}
 | .lst B,n,v,u,j,h,r=>by
   cases n with
   |zero=>simp[aA] at j
   | succ n=>
     obtain⟨a,J,rfl,h1,h2⟩:=h;obtain rfl:u=Value.ref a:=r;obtain⟨y,F,⟨o,k,e1,e2,L,E⟩,_⟩:=I.list (cF.of h1.1);obtain⟨z,q⟩:=fE I B n J y (by simpa[aA] using j) h2 F
     exact{_,.list e1 e2 E (by simpa using q)}
 |.frz k,n,v,u,j,_,_=>by cases n<;>simp[aA] at j
 |.cell k,n,v,u,j,_,_=>by cases n<;>simp[aA] at j
 |.fn f,n,v,u,j,_,_=>by cases n<;>simp[aA] at j
 |.exc _ _,n,v,u,j,_,_=>by cases n<;>simp[aA] at j
theorem fE (I:Inv X pins σ H s):∀(ds:List D) (n:Nat) (vs:List V) (us:List Qt),ds.all (aA n)=true->aD fa X.K μ H ds vs->Vals vs us->∃u,ReadsAll s.heap us (cp ds) u
 | [],n,vs,us,_,h,r=>by
   obtain rfl:vs=[]:=h;cases r;exact{_,.nil}
 | d::ds,n,vs,us,j,h,r=>by
   obtain⟨v,vr,rfl,h1,h2⟩:=h;simp only[RB,Qw] at j;cases r with
   | cons r1 r2=>
     obtain⟨u,y⟩:=dR I d n v _ j.1 h1 r1;obtain⟨bs,z⟩:=fE I ds n vr _ j.2 h2 r2;exact{_,.cons y z}
end
def FT (h:aA n (view M d)=true):(view M d=d/\aA n d=true)\/∃ds,ff M d=some ds/\view M d=.lst ds:=by
 cases d with
 | cell k=>
   cases e:M[k]? with
   | none=>
     have j:view M (.cell k)=.cell k:=by simp[view,e]
     rw[j] at h;cases n<;>simp[aA] at h
   |some ds=>exact .inr {ds,e,by simp[view,e]}
 |frz ds=>exact .inr ⟨ds,rfl,rfl⟩
 |_=>exact .inl ⟨rfl,h⟩
def kL (I:Inv X pins σ H s)(L:RelM fa X.K μ H M)(j:aA 64 (view M d)=true)(h:Rep fa X.K μ H d v)(r:RelV v u):∃B,Reads s.heap u (toPy (view M d)) B:=by
 rcases FT j with⟨e,y⟩|⟨E,e,J⟩
 ·rw[e];exact dR I _ 64 v u y h r
 ·rw[J] at j ⊢;obtain⟨a,P,rfl,h1,h2⟩:=bw L h e;obtain rfl:u=Value.ref a:=r;obtain⟨z,O,⟨o,k,e1,e2,Q,F⟩,_⟩:=I.list h1;obtain⟨B,q⟩:=fE I E 63 P z (by simpa[aA] using j) h2 O
  exact{_,.list e1 e2 F (by simpa using q)}
theorem j0 (I:Inv X pins σ H s)(J:RelM fa X.K μ H M):∀(n m:Nat) (d:D) (v:V) (u:Qt),aA m (c4 n M d)=true->Rep fa X.K μ H d v->RelV v u->∃E,Reads s.heap u (toPy (c4 n M d)) E
 |0,m,d,v,u,j,h,r=>dR I d m v u j h r
 | n+1,m,d,v,u,j,h,r=>by
   have S:=j0 I J n;have all:∀(m:Nat) (z:List D) (B:List V) (L:List Qt),(z.map (c4 n M)).all (aA m)=true->aD fa X.K μ H z B->Vals B L->∃E,ReadsAll s.heap L (cp (z.map (c4 n M))) E:=by
    intro m z;induction z with
    | nil=>
      intro B L _ h r;obtain rfl:B=[]:=h;cases r;exact{_,.nil}
    | cons d z Q=>
      intro B L j h r;obtain⟨v,vr,rfl,h1,h2⟩:=h;simp only[Ry,RB,Qw] at j;cases r with
      | cons r1 r2=>
        obtain⟨E,U⟩:=S m d v _ j.1 h1 r1;obtain⟨bs,W⟩:=Q vr _ j.2 h2 r2;exact{_,.cons U W}
   have lst:∀(z:List D) (a:Addr) (B:List V),aA m (.lst (z.map (c4 n M)))=true->cF X.K H a B->aD fa X.K μ H z B->u=.ref a->∃E,Reads s.heap u (toPy (.lst (z.map (c4 n M)))) E:=by
    intro z a B j h1 h2 e;subst e;cases m with
    |zero=>simp[aA] at j
    | succ m=>
      obtain⟨F,R,⟨o,k,e1,e2,Y,O⟩,_⟩:=I.list h1;obtain⟨E,q⟩:=all m z B F (by simpa[aA] using j) h2 R
      exact{_,.list e1 e2 O (by simpa using q)}
   cases d with
   | cell k=>
     cases e:M[k]? with
     | none=>
       have P:c4 (n+1) M (.cell k)=.cell k:=by simp[c4,e]
       rw[P] at j;cases m<;>simp[aA] at j
     | some z=>
       have P:c4 (n+1) M (.cell k)=.lst (z.map (c4 n M)):=by simp[c4,e]
       rw[P] at j ⊢;obtain⟨a,B,rfl,h1,h2⟩:=bw J h e;exact lst z a B j h1 h2 r
   | frz z=>
     obtain⟨a,B,rfl,h1,h2⟩:=bw J h rfl;exact lst z a B j h1 h2 r
   | lst z=>
     obtain⟨a,B,rfl,h1,h2⟩:=bw J h rfl;exact lst z a B j h1 h2 r
   | tup z=>
     have j:aA m (.tup (z.map (c4 n M)))=true:=j;cases m with
     |zero=>simp[aA] at j
     | succ m=>
       obtain⟨a,B,rfl,h1,h2⟩:=h;obtain rfl:u=Value.ref a:=r;obtain⟨F,R,⟨o,e1,e2,k,O⟩,_⟩:=I.tuple h1;obtain⟨E,q⟩:=all m z B F (by simpa[aA] using j) h2 R
       exact{_,.tuple e1 e2 O (by simpa using q)}
   |non=>exact dR I .non m v u j h r
   |bl b=>exact dR I (.bl b) m v u j h r
   |int i=>exact dR I (.int i) m v u j h r
   |str x=>exact dR I (.str x) m v u j h r
   |fn f=>exact dR I (.fn f) m v u j h r
   |exc y p=>exact dR I (.exc y p) m v u j h r
abbrev Rm (X:Cx):Prop:=X.A.units+100<cLine
def gM (fa:Fa)(K:Qr)(o:jZ):R2:=λx y H Q=>∃μ M h j b,RelM fa K μ H M/\Rep fa K μ H h x/\Rep fa K μ H j y/\bz o h j M=some b/\Q (.bl b) H
set_option tactic.hygienic true in
def uY (hs:(hI a&&hI b)=false)(h:pZ a b=some k):aA 64 a=true/\aA 64 b=true/\k=bZ a b:=by
 unfold pZ at h;rw[hs,Bool.false_or] at h;split at h
 ·next q=>
  simp only[Qw] at q;exact{q.1,q.2,(Qz h).symm}
 ·cases h
def uN (d:D):hI (view M d)=hI d:=by
 cases d with
 |cell k=>cases e:M[k]?<;>simp[view,e,hI]
 |_=>rfl
def sd (n:Nat)(d:D):hI (c4 n M d)=hI d:=by
 cases n with
 |zero=>rfl
 | succ n=>
   cases d with
   |cell k=>cases e:M[k]?<;>simp[c4,e,hI]
   |_=>rfl
def sg (I:Inv X pins σ H s)(z:RelM fa X.K μ H M)(hs:(hI a&&hI b)=false)(h:mK M a b=some k)(h1:Rep fa X.K μ H a x)(h2:Rep fa X.K μ H b y)(B:RelV x v)(E:RelV y u) :
 ∃c e j bs,aA 64 c=true/\aA 64 e=true/\k=bZ c e/\Reads s.heap v (toPy c) j/\Reads s.heap u (toPy e) bs:=by
 unfold mK at h;cases q:pZ (view M a) (view M b) with
 | some r=>
   rw[q] at h;cases h;obtain⟨p1,p2,e⟩:=uY (by rw[uN,uN];exact hs) q
   obtain⟨j,r1⟩:=kL I z p1 h1 B;obtain⟨bs,r2⟩:=kL I z p2 h2 E;exact{_,_,j,bs,p1,p2,e,r1,r2}
 | none=>
   rw[q] at h;obtain⟨p1,p2,e⟩:=uY (by rw[sd,sd];exact hs) h
   obtain⟨j,r1⟩:=j0 I z 64 64 a x v p1 h1 B;obtain⟨bs,r2⟩:=j0 I z 64 64 b y u p2 h2 E;exact{_,_,j,bs,p1,p2,e,r1,r2}
def tN (h:(hI a&&hI b)=true):∃x y,a=.str x/\b=.str y:=by
 cases a with
 | str x=>
   cases b with
   |str y=>exact⟨x,y,rfl,rfl⟩
   |_=>cases h
 |_=>cases h
def wX:mK M (.str x) (.str y)=some (x==y):=by
 have e:bZ (.str x) (.str y)=(x==y):=rfl;rw[<- e];rfl
def PV (L:Rm X):bF X (compareOp .Eq) (gM fa X.K .eq):=by
 intro pins s σ H x y v u Q I z B h;obtain⟨μ,M,E,F,b,J,h1,h2,e,q⟩:=h;cases hs:hI E&&hI F with
 | true=>
   obtain⟨i,j,rfl,rfl⟩:=tN hs;obtain rfl:x=.str i:=h1;obtain rfl:y=.str j:=h2;obtain rfl:(i==j)=b:=Qz (wX.symm.trans e);exact MU pins s σ H _ _ v u Q I z B {rfl,by rw[nM];exact q}
 | false=>
   obtain⟨_,_,O,bs,p1,p2,rfl,r1,r2⟩:=sg I J hs (e) h1 h2 z B;refine SeqAt.compareEq_shaped r1 r2 (jI p1) (jI p2) (by unfold Rm at L;omega) ?_
   rw[nJ 64 64 _ _ p1 p2];exact{.bl _,H,I,rfl,q}
def PL (O:Rm X):bF X (compareOp .NotEq) (gM fa X.K .ne):=by
 intro pins s σ H x y v u Q I F J h;obtain⟨μ,M,B,E,b,L,h1,h2,e,q⟩:=h;have e:(mK M B E).map (!·)=some b:=e;cases z:mK M B E with
 |none=>rw[z] at e;cases e
 | some k=>
   rw[z] at e;obtain rfl:(!k)=b:=Qz e;cases hs:hI B&&hI E with
   | true=>
     obtain⟨i,j,rfl,rfl⟩:=tN hs;obtain rfl:x=.str i:=h1;obtain rfl:y=.str j:=h2;obtain rfl:(i==j)=k:=Qz (wX.symm.trans z);exact MP pins s σ H _ _ v u Q I F J {rfl,by rw[nM];exact q}
   | false=>
     obtain⟨_,_,P,bs,p1,p2,rfl,r1,r2⟩:=sg I L hs z h1 h2 F J;refine SeqAt.compareNe_shaped r1 r2 (jI p1) (jI p2) (by unfold Rm at O;omega) ?_
     rw[nJ 64 64 _ _ p1 p2];exact{.bl _,H,I,rfl,q}
end
section
variable{fa:Fa}{X:Cx}{μ:Mu}{H:Hp}{σ:L2.St}{pins:List (Addr×Obj)}{s:QC}{M:Mem}
def iA (h:bF X f r)(i:∀x y H Q,r' x y H Q->r x y H Q):bF X f r':=λpins s σ H x y v u Q I j z q=>h pins s σ H x y v u Q I j z (i x y H Q q)
def jq (h:b4 X f r)(i:∀xs H Q,r' xs H Q->r xs H Q):b4 X f r':=λpins s σ H xs u Q I j q=>h pins s σ H xs u Q I j (i xs H Q q)
def nN {g:Int->Int->Bool}(ho:o=.lt\/o=.le\/o=.gt\/o=.ge)(F:∀i j,bz o (.int i) (.int j) []=some (g i j))(h:gM fa X.K o x y H Q) :
 ∃i j,x=.int i/\y=.int j/\Q (.bl (g i j)) H:=by
 obtain⟨μ,M,v,z,b,I,h1,h2,e,q⟩:=h;have u:∀i j,v=.int i->z=.int j->∃i j,x=.int i/\y=.int j/\Q (.bl (g i j)) H:=λi j e1 e2=>by
  subst e1 e2;have B:bz o (.int i) (.int j) M=some (g i j):=by
   have:=F i j;rcases ho with rfl|rfl|rfl|rfl<;>exact this
  rw[e] at B;have E:=Qz B;subst E;exact⟨i,j,h1,h2,q⟩
 rcases ho with rfl|rfl|rfl|rfl<;>
 ·cases v with
  |int i=>cases z<;>first|exact u _ _ rfl rfl|cases e
  |_=>cases e
def PM:bF X (compareOp .Lt) (gM fa X.K .lt):=iA MQ λx y H Q h=>nN (.inl rfl) (λ_ _=>rfl) h
def PN:bF X (compareOp .LtE) (gM fa X.K .le):=iA MR λx y H Q h=>nN (.inr (.inl rfl)) (λ_ _=>rfl) h
def PR:bF X (compareOp .Gt) (gM fa X.K .gt):=iA MS λx y H Q h=>nN (.inr (.inr (.inl rfl))) (λ_ _=>rfl) h
def PU:bF X (compareOp .GtE) (gM fa X.K .ge):=iA MT λx y H Q h=>nN (.inr (.inr (.inr rfl))) (λ_ _=>rfl) h
def wb {K:Qr}(h:Rep fa K μ H d v):decide (v=.non)=sY d:=by
 cases d with
 |non=>obtain rfl:v=.non:=h;rfl
 |bl b=>obtain rfl:v=.bl b:=h;rfl
 |int b=>obtain rfl:v=.int b:=h;rfl
 |str b=>obtain rfl:v=.str b:=h;rfl
 |tup b=>obtain⟨a,j,rfl,_⟩:=h;rfl
 |lst b=>obtain⟨a,j,rfl,_⟩:=h;rfl
 |frz b=>obtain⟨a,j,rfl,_⟩:=h;rfl
 |cell b=>obtain⟨a,rfl,_⟩:=h;rfl
 |fn b=>obtain⟨a,rfl,_⟩:=h;rfl
 |exc y p=>obtain⟨a,_,_,rfl,_⟩:=h;rfl
def NP:bF X (compareOp .Is) (gM fa X.K .isN):=iA Ki λx y H Q h=>by
 obtain⟨μ,M,u,j,b,v,h1,h2,e,q⟩:=h;cases j<;>first|cases (show(none:Option Bool)=some b from e)|skip
 refine{h2,?_};rw[wb h1];rw[Qz e];exact q
def LZ:bF X (compareOp .IsNot) (gM fa X.K .notN):=iA Hb λx y H Q h=>by
 obtain⟨μ,M,u,j,b,v,h1,h2,e,q⟩:=h;cases j<;>first|cases (show(none:Option Bool)=some b from e)|skip
 refine{h2,?_};rw[wb h1];rw[Qz e];exact q
def vt (x:D)(j:aA 64 x=true):∀(ds:List D),ds.all (aA 63)=true->((cp ds).any λy=>PyData.eqv y (toPy x))=ds.any λy=>bZ y x
 |[],_=>rfl
 | d::r,h=>by
   simp only[RB,Qw] at h;simp only[cp,List.any_cons,nJ 63 64 d x h.1 j,vt x j r h.2]
theorem tG (n:Nat):∀ds:List D,ds.all (aA n)=true->PyData.canLayAll0 (cp ds)=true/\PyData.depthAll (cp ds)<=n
 |[],_=>by simp[cp,PyData.canLayAll0,PyData.depthAll]
 | d::r,h=>by
   simp only[RB,Qw] at h;obtain⟨h1,h2⟩:=qt n d h.1;obtain⟨h3,h4⟩:=tG n r h.2;simp only[cp,PyData.canLayAll0,PyData.depthAll,h1,h3,Bool.and_self,true_and];omega
def zQ (I:Inv X pins σ H s)(J:RelM fa X.K μ H M)(E:ds.all (aA 63)=true)(h:Rep fa X.K μ H d v)(r:RelV v u)(e:bL M d=some ds) :
 (∃y,Reads s.heap u (.list (cp ds)) y)\/∃y,Reads s.heap u (.tuple (cp ds)) y:=by
 obtain⟨a,F,rfl,h1,h2⟩:=je J h e;obtain rfl:u=Value.ref a:=r;rcases h1 with h1|h1
 ·obtain⟨j,B,⟨o,k,e1,e2,L,z⟩,_⟩:=I.list h1;obtain⟨y,q⟩:=fE I ds 63 F j E h2 B;exact .inl {_,.list e1 e2 z (by simpa using q)}
 ·obtain⟨j,B,⟨o,e1,e2,k,z⟩,_⟩:=I.tuple h1;obtain⟨y,q⟩:=fE I ds 63 F j E h2 B;exact .inr {_,.tuple e1 e2 z (by simpa using q)}
set_option tactic.hygienic true in
def AU (L:Rm X)(I:Inv X pins σ H s)(F:RelM fa X.K μ H M)(h1:Rep fa X.K μ H dx x)(h2:Rep fa X.K μ H dy y)(O:RelV x v)(P:RelV y u)
 (e1:bL M dy=some ds) (e2:pW (view M dx) ds=some b) (j:Bool) (q:Q (.bool (if j then !b else b)) s):wpAny (model X.prog X.w) X.A (compareOp (if j then .NotIn else .In) v u) Q X.xe s:=by
 unfold pW at e2;split at e2
 ·next z=>
  simp only[Qw] at z;obtain⟨p1,p2⟩:=z;have J:=Qz e2;subst J;obtain⟨R,r1⟩:=kL I F p1 h1 O;obtain⟨B,d1⟩:=qt 64 _ p1;obtain⟨E,S⟩:=tG 63 ds p2;have h:X.A.units+1+min (PyData.depthAll (cp ds)) (toPy (view M dx)).depth<cLine:=by unfold Rm at L;omega
  rw[<- vt _ p1 ds p2] at q;rcases zQ I F p2 h2 P e1 with⟨bs,r2⟩|⟨bs,r2⟩
  ·cases j
   ·exact SeqAt.in_list_reads r2 r1 E B h q
   ·exact SeqAt.notIn_list_reads r2 r1 E B h q
  ·cases j
   ·exact SeqAt.in_tuple_reads r2 r1 E B h q
   ·exact SeqAt.notIn_tuple_reads r2 r1 E B h q
 ·cases e2
def PQ (L:Rm X):bF X (compareOp .In) (gM fa X.K .isin):=by
 intro pins s σ H x y v u Q I B E h;obtain⟨μ,M,z,j,b,J,h1,h2,e,q⟩:=h;have gen:(bL M j).bind (pW (view M z))=some b->wpAny (model X.prog X.w) X.A (compareOp .In v u) (EP X pins σ Q) X.xe s:=λe=>by
  cases e1:bL M j with
  |none=>rw[e1] at e;cases e
  | some O=>
    rw[e1] at e;exact AU L I J h1 h2 B E e1 e false {.bl b,H,I,rfl,q}
 by_cases hs:(∃a,z=.str a)/\∃c,j=.str c
 ·obtain⟨⟨a,rfl⟩,c,rfl⟩:=hs;have F:=Qz e;subst F;exact Ak pins s σ H x y v u Q I B E ⟨a,c,h1,h2,q⟩
 ·refine gen ?_;cases z<;>first|exact e|(cases j<;>first|exact e|exact absurd {{_,rfl},_,rfl} hs)
def Ii (O:Rm X):bF X (compareOp .NotIn) (gM fa X.K .notin):=by
 intro pins s σ H x y v u Q I E F h;obtain⟨μ,M,j,z,b,L,h1,h2,e,q⟩:=h;have gen:((bL M z).bind (pW (view M j))).map (!·)=some b->wpAny (model X.prog X.w) X.A (compareOp .NotIn v u) (EP X pins σ Q) X.xe s:=λe=>by
  cases e1:bL M z with
  |none=>rw[e1] at e;cases e
  | some J=>
    rw[e1] at e;cases e2:pW (view M j) J with
    |none=>rw[SD,e2] at e;cases e
    | some k=>
      rw[SD,e2] at e;have B:=Qz e;subst B;exact AU O I L h1 h2 E F e1 e2 true {.bl _,H,I,rfl,q}
 by_cases hs:(∃a,j=.str a)/\∃c,z=.str c
 ·obtain⟨⟨a,rfl⟩,c,rfl⟩:=hs;have B:=Qz e;subst B;exact um pins s σ H x y v u Q I E F ⟨a,c,h1,h2,q⟩
 ·refine gen ?_;cases j<;>first|exact e|(cases z<;>first|exact e|exact absurd {{_,rfl},_,rfl} hs)
noncomputable def eQ:jZ->CmpOp
 |.eq=>.Eq|.ne=>.NotEq|.lt=>.Lt|.le=>.LtE|.gt=>.Gt|.ge=>.GtE|.isN=>.Is|.notN=>.IsNot|.isin=>.In|.notin=>.NotIn
def nQ (h:Rm X):∀o:jZ,bF X (compareOp (eQ o)) (gM fa X.K o)
 |.eq=>PV h|.ne=>PL h|.lt=>PM|.le=>PN|.gt=>PR|.ge=>PU|.isN=>NP|.notN=>LZ|.isin=>PQ h|.notin=>Ii h
def mr (fa:Fa)(K:Qr)(m:Bool)(o:oo):R2:=λx y H Q=>∃μ M h j,RelM fa K μ H M/\Rep fa K μ H h x/\Rep fa K μ H j y/\ae (fP m o h j M) (aW fa K μ H Q)
def aQ (j:RelM fa X.K μ H M)(h:aW fa X.K μ H Q d M)(r:Rep fa X.K μ H d v):Q v H:=h v H μ .refl j r
set_option tactic.hygienic true in
def hR (j:RelM fa X.K μ H M)(r:aD fa X.K μ H ds vs)(h:ae (ba m ds M) (aW fa X.K μ H Q)):ds.length<=sz/\∀p,H p=none->Q (.ref p) (upd H p (.lst vs)):=by
 unfold ba at h;split at h
 ·next v=>
  refine{v,λp u=>?_};cases m with
  | true=>
    exact h (.ref p) _ (fF μ M.length p) (Ext.cell j u) (j.cell u r) {p,rfl,by simp[fF]}
  | false=>
    exact h (.ref p) _ μ (Ext.alloc j u) (j.alloc u) {p,vs,rfl,{bG,j.fresh u},r.ext (Ext.alloc j u)}
 ·exact h.elim
def ja (j:RelM fa X.K μ H M)(r:aD fa X.K μ H ds vs)(h:aW fa X.K μ H Q (.tup ds) M):∀p,H p=none->Q (.ref p) (upd H p (.tup vs)):=λp u=>
 h (.ref p) _ μ (Ext.alloc j u) (j.alloc u) {p,vs,rfl,.of bG,r.ext (Ext.alloc j u)}
def dE:sz=sizeLine:=by rw[sizeLine_eq];rfl
def CG:bF X (binaryOp .Add) (λx y H Q=>∃a b ys,x=.ref a/\y=.ref b/\dD X.K H a []/\dD X.K H b ys/\Q (.ref b) H):=by
 intro pins s σ H x y v u Q I rx ry h;obtain⟨a,b,ys,rfl,rfl,U,W,q⟩:=h;cases rx;cases ry;obtain⟨its,r1,p1,_⟩:=I.tuple U;obtain⟨z,r2,p2,_⟩:=I.tuple W;cases r1;obtain⟨⟨cls,S,R,sl⟩,ho,Y,n,hd⟩:=id p1;obtain⟨⟨P,E,B,O⟩,j,J,n2,L⟩:=id p2;subst Y hd J L;exact concat_meets {_,ho,rfl} {_,j,rfl} noFill_tuple_add seq_tuple_add PySem.F.slot_tuple_add PySem.F.entry_tuple_add (PySem.F.args_tuple_add_2 _ _)
  (tuple_addW0 a b #[] z.toArray n n2 S E sl O rfl) {ho,j,{.ref b,H,I,rfl,q}}
def Dr (I:Inv X pins σ H s)(j:RelM fa X.K μ H M)(h1:Rep fa X.K μ H dx x)(h2:Rep fa X.K μ H dy y)(L:RelV x v)(O:RelV y u)
 (h:ae (match jl M dx,jl M dy with|some x,some y=>ba m (x++y) M|_,_=>.bad) (aW fa X.K μ H Q)):wpAny (model X.prog X.w) X.A (binaryOp .Add v u) (EP X pins σ Q) X.xe s:=by
 cases e1:jl M dx with
 |none=>rw[e1] at h;exact h.elim
 | some xs=>
   cases e2:jl M dy with
   |none=>rw[e1,e2] at h;exact h.elim
   | some S=>
     rw[e1,e2] at h;obtain⟨a,P,rfl,E,z⟩:=jf j h1 e1;obtain⟨b,R,rfl,F,B⟩:=jf j h2 e2;obtain⟨J,k⟩:=hR j (z.append B) h;refine Kj pins s σ H _ _ v u Q I L O {a,b,P,R,rfl,rfl,E,F,?_,k};rw[z.length,B.length,<- Q6,<- dE];exact J
set_option tactic.hygienic true in
def NX (m:Bool):bF X (binaryOp .Add) (mr fa X.K m .add):=by
 intro pins s σ H x y v u Q I F J h;obtain⟨μ,M,L,O,B,h1,h2,h⟩:=h;have hi:∀i j,L=.int i->O=.int j->wpAny (model X.prog X.w) X.A (binaryOp .Add v u) (EP X pins σ Q) X.xe s:=λi j e1 e2=>by
  subst e1 e2;exact Kk pins s σ H x y v u Q I F J {i,j,h1,h2,aQ B h rfl}
 have hs:∀i j,L=.str i->O=.str j->wpAny (model X.prog X.w) X.A (binaryOp .Add v u) (EP X pins σ Q) X.xe s:=λi j e1 e2=>by
  subst e1 e2;have h:ae (if i.cps.size+j.cps.size<=sz then .ok (.str {i.cps++j.cps}) M else .bad) (aW fa X.K μ H Q):=h;split at h
  ·next W=>exact xO pins s σ H x y v u Q I F J {i,j,h1,h2,by rw[<- dE];exact W,aQ B h rfl}
  ·exact h.elim
 have ht:∀i j,L=.tup i->O=.tup j->wpAny (model X.prog X.w) X.A (binaryOp .Add v u) (EP X pins σ Q) X.xe s:=λi j e1 e2=>by
  subst e1 e2;have h:ae (if (i++j).length<=sz then .ok (.tup (i++j)) M else .bad) (aW fa X.K μ H Q):=h;split at h
  ·next W=>
   obtain⟨a,R,e1,S,E⟩:=id h1;obtain⟨b,Y,e2,U,P⟩:=id h2;by_cases h0:i=[]
   ·subst h0;obtain rfl:R=[]:=E;exact CG pins s σ H x y v u Q I F J {a,b,Y,e1,e2,S,U,aQ B h ⟨b,Y,rfl,U,P⟩}
   ·have hv:R≠[]:=λz=>h0 (by have:=E.length;rw[z] at this;exact SF.mp this.symm)
    refine Hd pins s σ H x y v u Q I F J {a,b,R,Y,e1,e2,S,U,hv,?_,λz=>?_,λ_=>ja B (E.append P) h}
    ·rw[E.length,P.length,<- Q6,<- dE];exact W
    ·subst z;have ej:=SF.mp P.length.symm;subst ej;exact aQ B h {a,R,rfl,S,by simpa using E}
  ·exact h.elim
 cases L<;>cases O<;>first|exact hi _ _ rfl rfl|exact hs _ _ rfl rfl|exact ht _ _ rfl rfl|exact Dr (m:=m) I B h1 h2 F J h
def s9 {g:Int->Int->Int}(hr:bF X (binaryOp op) (rI C λi j=>.int (g i j)))
 (z:∀u v M (P:D->Mem->Prop),ae (fP m o u v M) P->∃i j,u=.int i/\v=.int j/\C i j/\P (.int (g i j)) M):bF X (binaryOp op) (mr fa X.K m o):=iA hr λx y H Q h=>by
 obtain⟨μ,M,u,v,B,h1,h2,h⟩:=h;obtain⟨i,j,rfl,rfl,c,q⟩:=z u v M _ h;exact{i,j,h1,h2,c,aQ B q rfl}
def NR (m:Bool):bF X (binaryOp .Sub) (mr fa X.K m .sub):=s9 (C:=λ_ _=>True) (iA Kd λx y H Q ⟨i,j,e1,e2,_,q⟩=>⟨i,j,e1,e2,q⟩) λu v M P h=>by
 cases u<;>cases v<;>first|exact{_,_,rfl,rfl,trivial,h}|exact h.elim
set_option tactic.hygienic true in
def L5 (m:Bool):bF X (binaryOp .FloorDiv) (mr fa X.K m .fdiv):=s9 Hc λu v M P h=>by
 have y:∀i j,u=.int i->v=.int j->∃i j,u=.int i/\v=.int j/\Mm i j/\P (.int (i / j)) M:=λi j e1 e2=>by
  subst e1 e2;have h:ae (if 0<j/\j<1073741824 then .ok (.int (i / j)) M else .bad) P:=h;split at h
  ·next c=>exact⟨i,j,rfl,rfl,c,h⟩
  ·exact h.elim
 cases u<;>cases v<;>first|exact y _ _ rfl rfl|exact h.elim
set_option tactic.hygienic true in
def NU (m:Bool):bF X (binaryOp .Mod) (mr fa X.K m .mod):=s9 Kh λu v M P h=>by
 have y:∀i j,u=.int i->v=.int j->∃i j,u=.int i/\v=.int j/\0<j/\P (.int (i % j)) M:=λi j e1 e2=>by
  subst e1 e2;have h:ae (if 0<j then .ok (.int (i % j)) M else .bad) P:=h;split at h
  ·next c=>exact⟨i,j,rfl,rfl,c,h⟩
  ·exact h.elim
 cases u<;>cases v<;>first|exact y _ _ rfl rfl|exact h.elim
set_option tactic.hygienic true in
def NS (m:Bool):bF X (binaryOp .Pow) (mr fa X.K m .pow):=s9 Kf λu v M P h=>by
 have y:∀i j,u=.int i->v=.int j->∃i j,u=.int i/\v=.int j/\Ml i j/\P (.int (i^j.toNat)) M:=λi j e1 e2=>by
  subst e1 e2;have h:ae (if 0<=j/\j<=1000000/\i.natAbs<2^64 then .ok (.int (i^j.toNat)) M else .bad) P:=h;split at h
  ·next c=>exact⟨i,j,rfl,rfl,c,h⟩
  ·exact h.elim
 cases u<;>cases v<;>first|exact y _ _ rfl rfl|exact h.elim
set_option tactic.hygienic true in
def Cp {j:Int}(I:Inv X pins σ H s)(z:RelM fa X.K μ H M)(h1:Rep fa X.K μ H dx x)(h2:Rep fa X.K μ H (.int j) y)(F:RelV x v)(J:RelV y u)
 (h:ae (match jl M dx with|some x=>if x.length*j.toNat<=sz/\-(2^63)<=j/\j<2^63 then ba m (List.replicate j.toNat x).flatten M else .bad|none=>.bad) (aW fa X.K μ H Q)) :
 wpAny (model X.prog X.w) X.A (binaryOp .Mult v u) (EP X pins σ Q) X.xe s:=by
 cases e1:jl M dx with
 |none=>rw[e1] at h;exact h.elim
 | some xs=>
   rw[e1] at h;simp only at h;split at h
   ·next c=>
    obtain⟨a,L,rfl,E,B⟩:=jf z h1 e1;obtain⟨O,k⟩:=hR z (B.rep j.toNat) h;exact Ke pins s σ H _ _ v u Q I F J {a,j,L,rfl,h2,E,c.2.1,c.2.2,by rw[B.length,<- dE];exact c.1,k}
   ·exact h.elim
end
end LD
namespace LD
open PySem PySem.Spec PyProof.Rows L2 PySem.Builtin
open PySem.Sem (wp)
def oI:fillsNumberSlot (.type "tuple") "mul"=pure false:=
 PySem.fillsNumberSlot_seq F.slot_tuple_mul.lookup `k F.slot_tuple_rmul.lookup `k
def t9:seqRepeat? (.type "tuple")=pure (some (.builtin "tuple.__mul__")):=by
 unfold seqRepeat?;rw[PySem.seqSlot_of (name:="__mul__") F.slot_tuple_mul.lookup `k,PySem.seqSlot_of (name:="__rmul__") F.slot_tuple_rmul.lookup `k]
 rfl
def qx (a:Int)(t:Tok)(l:Addr)(items:Array Qt)(n:Nat)(dd:Option Addr)(sl:Array (Option Qt)) :
 Meets (Builtin.«int.__rmul__» {[.int a t,.ref l],[]}) (λ_ R s=>s.heap.get? l=some {cls:=.type "tuple",dict:=dd,data:=.seq items n,slots:=sl}/\R (.ok (.ret Value.notImplemented)) s):=
 .of_wp λprog w A R s h=>by obtain⟨j,g,d,tk,os⟩:=s;obtain⟨hl,h⟩:=h;wp_walk using wpAny_loadPart' hl;exact{_,rfl,h}
def xN {x:Int}(h:-(2^63)<=x)(h1:x<2^63):(decide (x < -2^63)||decide (x≥2^63))=false:=by
 rw[decide_eq_false `a,decide_eq_false `a];rfl
def qK (l:Addr)(items:Array Qt)(n:Nat)(dd:Option Addr)(sl:Array (Option Qt))(x:Int)(u:Tok)(j:-(2^63)<=x)(h1:x<2^63)(v:(items.isEmpty||x==1)=true) :
 Meets (Builtin.«tuple.__mul__» {[.ref l,.int x u],[]}) (λ_ R s=>s.heap.get? l=some {cls:=.type "tuple",dict:=dd,data:=.seq items n,slots:=sl}/\R (.ok (.ret (.ref l))) s):=
 .of_wp λprog w A R s h=>by
  obtain⟨y,g,d,tk,os⟩:=s;obtain⟨hl,h⟩:=h;have f1:=AutoSeq1.idx_int;wp_walk using wpAny_loadPart' hl
  refine wpAny_ite_false (by rw[xN j h1];rfl) ?_
  wp_walk using wpAny_loadPart' hl
  exact{_,rfl,h}
def qL (l:Addr)(items:Array Qt)(n:Nat)(dd:Option Addr)(sl:Array (Option Qt))(x:Int)(u:Tok)(j:-(2^63)<=x)(h1:x<2^63)(y:(items.isEmpty||x==1)=false)(v:(decide (x<=0)||items.isEmpty)=true) :
 Meets (Builtin.«tuple.__mul__» {[.ref l,.int x u],[]}) (λ_ R s=>s.heap.get? l=some {cls:=.type "tuple",dict:=dd,data:=.seq items n,slots:=sl}/\R (.ok (.ret (.ref s.heap.objs.size))) {s with heap:=s.heap.push {cls:=Value.type "tuple",data:=Data.seq #[]},toks:=s.toks}):=
 .of_wp λprog w A R s h=>by
  obtain⟨z,g,d,tk,os⟩:=s;obtain⟨hl,h⟩:=h;have f1:=AutoSeq1.idx_int;wp_walk using wpAny_loadPart' hl
  refine wpAny_ite_false (by rw[xN j h1];rfl) ?_
  wp_walk using wpAny_loadPart' hl
  exact{_,rfl,h}
def qM (l:Addr)(items:Array Qt)(n:Nat)(dd:Option Addr)(sl:Array (Option Qt))(x:Int)(u:Tok)(j:-(2^63)<=x)(h1:x<2^63)(z:(items.isEmpty||x==1)=false)(v:(decide (x<=0)||items.isEmpty)=false)
 (hs:(items.size:Int)*x<=16777216) (y:(List.foldl (λx1 x2=>x1++x2) #[] (List.replicate x.toNat items)).size<=sizeLine) :
 Meets (Builtin.«tuple.__mul__» {[.ref l,.int x u],[]}) (λ_ R s=>s.heap.get? l=some {cls:=.type "tuple",dict:=dd,data:=.seq items n,slots:=sl}/\R (.ok (.ret (.ref s.heap.objs.size))) {s with heap:=s.heap.push {cls:=Value.type "tuple",data:=Data.seq (List.foldl (λx1 x2=>x1++x2) #[] (List.replicate x.toNat items))},toks:=s.toks}):=
 .of_wp λprog w A R s h=>by
  obtain⟨B,g,d,tk,os⟩:=s;obtain⟨hl,h⟩:=h;have f1:=AutoSeq1.idx_int;wp_walk using wpAny_loadPart' hl
  refine wpAny_ite_false (by rw[xN j h1];rfl) ?_
  wp_walk using wpAny_loadPart' hl
  refine wpAny_ite_false (decide_eq_false `a) ?_
  wp_walk using wpAny_loadPart' hl
  refine wpAny_ite_false (decide_eq_false (by unfold Tuple.tupleTooMany;rw[sizeLine_eq];simp;omega)) ?_
  wp_walk using wpAny_loadPart' hl
  exact{_,rfl,h}
section
variable{fa:Fa}{X:Cx}{μ:Mu}{H:Hp}{σ:L2.St}{pins:List (Addr×Obj)}{s:QC}{M:Mem}
def rT (h:List Qt)(m:Nat):List.foldl (λx1 x2=>x1++x2) #[] (List.replicate m h.toArray)=(List.replicate m h).flatten.toArray:=by
 have:=foldl_rep h m [];rw[List.nil_append] at this;exact this
def Ha:bF X (binaryOp .Mult) (λx y H Q=>∃l k xs,x=.ref l/\y=.int k/\dD X.K H l xs/\-(2^63)<=k/\k<2^63/\xs.length*k.toNat<=sz/\
 ((List.replicate k.toNat xs).flatten=xs->Q (.ref l) H)/\∀p,H p=none->Q (.ref p) (upd H p (.tup (List.replicate k.toNat xs).flatten))):=by
 intro pins s σ H x y v u Q I rx ry h;obtain⟨l,k,xs,rfl,rfl,Y,h1,h2,U,q1,q2⟩:=h;cases rx;obtain⟨t,rfl⟩:=ry;obtain⟨j,r,p,hzz⟩:=I.tuple Y;have hl:=r.length;obtain⟨⟨cls,L,data,sl⟩,ho,W,n,hd⟩:=id p;subst W hd;refine wpAny_binaryOp_repeat_ref `d {_,ho,rfl} (λs'=>typeIs_int s' k t) oI F.fills_int_mul F.slot_int_rmul t9 F.slot_int_index.lookup
  (call_meets F.slot_int_rmul (typeIs_int s k t) F.entry_int_rmul (F.args_int_rmul_2 _ _) (qx k t l j.toArray n L sl) {ho,rfl,{_,ho,rfl},?_})
 have new:∀(B:List Qt),Vals (List.replicate k.toNat xs).flatten B->EP X pins σ Q (.ref s.heap.objs.size) {s with heap:=s.heap.push {cls:=Value.type "tuple",data:=Data.seq B.toArray}}:=λB r'=>by
  refine{.ref s.heap.objs.size,_,I.laid (λb ob q=>Qu _ q) (QA _) ?_,rfl,q2 _ (I.hok.fresh (QA _))};exact{by rw[len_rep,Nat.mul_comm,<- dE];exact U,_,r',IsTup.new _ _}
 by_cases O:(j.toArray.isEmpty||k==1)=true
 ·refine call_meets F.slot_tuple_mul {_,ho,rfl} F.entry_tuple_mul (F.args_tuple_mul_2 _ _) (qK l j.toArray n L sl k t h1 h2 O) {ho,{.ref l,H,I,rfl,q1 ?_}};rcases Bool.or_eq_true_iff.mp O with z|z
  ·have e:j=[]:=by simpa using z
   subst e;have e2:=SF.mp hl;subst e2;simp
  ·have e:k=1:=by simpa using z
   subst e;simp
 ·have E:(j.toArray.isEmpty||k==1)=false:=by simpa using O
  by_cases P:(decide (k<=0)||j.toArray.isEmpty)=true
  ·refine call_meets F.slot_tuple_mul {_,ho,rfl} F.entry_tuple_mul (F.args_tuple_mul_2 _ _) (qL l j.toArray n L sl k t h1 h2 E P) {ho,new [] ?_};have hk:k<=0:=by
    rcases Bool.or_eq_true_iff.mp P with z|z
    ·simpa using z
    ·rw[z] at E;cases E
   have R:k.toNat=0:=`a
   rw[R];exact .nil
  ·have J:(decide (k<=0)||j.toArray.isEmpty)=false:=by simpa using P
   have hk:0<k:=by
    have:=(Bool.or_eq_false_iff.mp J).1;simpa using this
   have hs:(j.toArray.size:Int)*k<=16777216:=by
    have e1:(j.toArray.size:Int)*k=((xs.length*k.toNat:Nat):Int):=by
     rw[QE,<- hl,Int.natCast_mul,Int.toNat_of_nonneg `a]
    rw[e1];have:xs.length*k.toNat<=16777216:=U;omega
   have S:(List.foldl (λx1 x2=>x1++x2) #[] (List.replicate k.toNat j.toArray)).size<=sizeLine:=by
    rw[rT,QE,len_rep,Nat.mul_comm,<- hl,<- dE];exact U
   refine call_meets F.slot_tuple_mul {_,ho,rfl} F.entry_tuple_mul (F.args_tuple_mul_2 _ _) (qM l j.toArray n L sl k t h1 h2 E J hs S) {ho,?_};rw[rT];exact new _ (r.rep k.toNat)
set_option tactic.hygienic true in
def NT (m:Bool):bF X (binaryOp .Mult) (mr fa X.K m .mul):=by
 intro pins s σ H x y v u Q I L O h;obtain⟨μ,M,B,E,F,h1,h2,h⟩:=h;have U:∀i j,B=.int i->E=.int j->wpAny (model X.prog X.w) X.A (binaryOp .Mult v u) (EP X pins σ Q) X.xe s:=λi j e1 e2=>by
  subst e1 e2;have h:ae (if (-(2^64)<i/\i<2^64)\/(-(2^64)<j/\j<2^64) then .ok (.int (i*j)) M else .bad) (aW fa X.K μ H Q):=h;split at h
  ·next c=>exact Kg pins s σ H x y v u Q I L O {i,j,h1,h2,c,aQ F h rfl}
  ·exact h.elim
 have W:∀i j,B=.tup i->E=.int j->wpAny (model X.prog X.w) X.A (binaryOp .Mult v u) (EP X pins σ Q) X.xe s:=λi j e1 e2=>by
  subst e1 e2;have h:ae (if i.length*j.toNat<=sz/\-(2^63)<=j/\j<2^63 then .ok (.tup (List.replicate j.toNat i).flatten) M else .bad) (aW fa X.K μ H Q):=h;split at h
  ·next c=>
   obtain⟨a,R,e1,P,J⟩:=id h1;refine Ha pins s σ H x y v u Q I L O {a,j,R,e1,h2,P,c.2.1,c.2.2,by rw[J.length];exact c.1,λz=>?_,ja F (J.rep j.toNat) h}
   refine aQ F h {a,R,rfl,P,?_};have:=J.rep j.toNat;rw[z] at this;exact this
  ·exact h.elim
 have hl:∀j,E=.int j->ae (match jl M B with|some x=>if x.length*j.toNat<=sz/\-(2^63)<=j/\j<2^63 then ba m (List.replicate j.toNat x).flatten M else .bad|none=>.bad) (aW fa X.K μ H Q)->
  wpAny (model X.prog X.w) X.A (binaryOp .Mult v u) (EP X pins σ Q) X.xe s:=λj e1 S=>by
  subst e1;exact Cp I F h1 h2 L O S
 cases E with
 |int j=>cases B<;>first|exact U _ _ rfl rfl|exact W _ _ rfl rfl|exact hl _ rfl h
 |_=>cases B<;>exact h.elim
noncomputable def binOp:oo->Operator
 |.add=>.Add|.sub=>.Sub|.mul=>.Mult|.fdiv=>.FloorDiv|.mod=>.Mod|.pow=>.Pow
def NV (m:Bool):∀o:oo,bF X (binaryOp (binOp o)) (mr fa X.K m o)
 |.add=>NX m|.sub=>NR m|.mul=>NT m|.fdiv=>L5 m|.mod=>NU m|.pow=>NS m
end
end LD
namespace LD
open PySem PySem.Spec PyProof.Rows L2
section
variable{fa:Fa}{X:Cx}{μ:Mu}{H:Hp}{σ:L2.St}{pins:List (Addr×Obj)}{s:QC}{M:Mem}
def K5 (h:jY X r)(i:∀x y H Q,r' x y H Q->r x y H Q):jY X r':=λz j pins s σ H x y v u Q I B E q hs=>h z j pins s σ H x y v u Q I B E (i x y H Q q) hs
def rIdx (fa:Fa)(K:Qr):R2:=λx y H Q=>∃μ M h j d,RelM fa K μ H M/\Rep fa K μ H h x/\Rep fa K μ H j y/\bO h j M=some d/\aW fa K μ H Q d M
def uL (n:Nat)(i:Int):LD.bT n i=L2.bT n i:=rfl
set_option tactic.hygienic true in
def E9:jY X (rIdx fa X.K):=K5 K1 λx y H Q h=>by
 obtain⟨μ,M,u,I,d,F,h1,h2,e,q⟩:=h;have gen:∀i,I=.int i->((bL M u).bind λE=>(LD.bT E.length i).bind λj=>E[j]?)=some d->JT X.K x y H Q:=λi R O=>by
  subst R;clear e;have e:=O;clear O;cases e1:bL M u with
  |none=>rw[e1] at e;cases e
  | some E=>
    rw[e1,SD] at e;obtain⟨a,L,rfl,B,r⟩:=je F h1 e1;cases e2:LD.bT E.length i with
    |none=>rw[e2] at e;cases e
    | some j=>
      rw[e2,SD] at e;obtain⟨v,U,P⟩:=r.get e;have he:sI L i=some v:=by
       unfold sI;rw[r.length,<- uL,e2];exact U
      rcases B with B|B
      ·exact .inl {a,L,i,v,rfl,h2,B,he,aQ F q P}
      ·exact .inr (.inl {a,L,i,v,rfl,h2,B,he,aQ F q P})
 have str:∀z i,u=.str z->I=.int i->JT X.K x y H Q:=λz i e1 e2=>by
  subst e1 e2;have e:(if z.cps.size<=sz then(LD.bT z.cps.size i).bind λj=>(z.cps[j]?).map λc=>D.str {#[c]} else none)=some d:=e;split at e
  ·next W=>
   cases e2:LD.bT z.cps.size i with
   |none=>rw[e2] at e;cases e
   | some j=>
     rw[e2,SD] at e;cases J:z.cps[j]? with
     |none=>rw[J] at e;cases e
     | some c=>
       rw[J] at e;have S:=Qz e;subst S;refine .inr (.inr {z,i,c,h1,h2,by rw[<- dE];exact W,?_,aQ F q rfl})
       unfold sI;rw[show z.cps.toList.length=z.cps.size by simp,<- uL,e2]
       simpa using J
  ·cases e
 cases I with
 |int i=>cases u<;>first|exact str _ _ rfl rfl|exact gen _ rfl e
 |_=>cases u<;>cases (e)
def Jt (h:mX X r)(i:∀x lo hi H Q,r' x lo hi H Q->r x lo hi H Q):mX X r':=λpins s σ H x v y z lo hi sl Q I u hs pl j q=>h pins s σ H x v y z lo hi sl Q I u hs pl j (i x lo hi H Q q)
noncomputable def pJ:D->Option (Option Int)
 |.non=>some none
 |.int i=>some (some i)
 |_=>none
def t7 (n d:Nat)(x:D):LD.aR n d x=(pJ x).map (HT.aR n d):=by
 cases x<;>rfl
def tZ:mX X (λx lo hi H Q=>∃a xs,x=.ref a/\dD X.K H a xs/\(HT.aR xs.length 0 lo=0/\HT.aR xs.length xs.length hi=xs.length)/\Q (.ref a) H):=by
 intro pins s σ H x v U W lo hi sl Q I R hs pl P h;obtain⟨a,xs,rfl,O,J,q⟩:=h;cases R;obtain⟨j,r,u,S⟩:=I.tuple O;refine{"tuple",_,RR.lookup,u.typeIs,?_};have y:j.toArray.size=xs.length:=by rw[QE];exact r.length.symm
 rw[<- y] at J;obtain⟨os,F,E,L⟩:=id hs;have B:s.TypeIs (.ref sl) "slice":=⟨os,F,E⟩;unfold getItem;try with_reducible refine tqo ?_
 first|refine tqa (tqb ?_)|skip
 refine tqa (wpAny_sequenceKey u.typeIs `d ?_)
 refine tqa (wpAny_callSpecial?_slot u.typeIs RR
  (wpAny_call_entry RR u.typeIs entry_tuple_getitem ?_ (args_tuple_getitem _ _)))
 show wpAny _ _ (Builtin.Tuple.tupleItemsOf (.ref a) >>= _) _ _ s;refine tqa (tupleItemsOf_ u ?_);refine tqa (wpAny_typeOf B ?_);rw[if_pos `d]
 refine tqa (HT.jc hs pl P ?_);have z:(((HT.aR j.toArray.size 0 lo:Nat):Int)==0&&(1:Int)==1&&(HT.aR j.toArray.size j.toArray.size hi-HT.aR j.toArray.size 0 lo)==j.toArray.size)=true:=by
  rw[J.1,J.2];simp
 show wpAny _ _ (if (((HT.aR j.toArray.size 0 lo:Nat):Int)==0&&(1:Int)==1&&(HT.aR j.toArray.size j.toArray.size hi-HT.aR j.toArray.size 0 lo)==j.toArray.size)=true then _ else _) _ _ s;rw[if_pos z];refine tqa ?_;refine tqa (wpAny_typeOf u.typeIs ?_);refine tqb ?_;rw[if_pos `d]
 exact tqa (wpAny_rule (tqb {_,rfl,tqb {.ref a,H,I,rfl,q}}))
def OR (fa:Fa)(K:Qr)(m:Bool):V->Option Int->Option Int->Hp->VK->Prop:=λx lo u H Q=>∃μ M j dl h,RelM fa K μ H M/\Rep fa K μ H j x/\pJ dl=some lo/\pJ h=some u/\ae (fM m j dl h M) (aW fa K μ H Q)
def Gx (m:Bool):mX X (OR fa X.K m):=by
 refine Jt (Gy.or (Js.or tZ)) λx lo u H Q h=>?_;obtain⟨μ,M,z,dl,E,B,h1,e1,e2,h⟩:=h;have gen:ae (match ff M z with
  | some xs=>match LD.aR xs.length 0 dl,LD.aR xs.length xs.length E with
    |some l,some h=>ba m (cut xs l h) M
    |_,_=>.bad
  |none=>.bad) (aW fa X.K μ H Q)->JP X.K x lo u H Q:=λh=>by
  cases e:ff M z with
  |none=>rw[e] at h;exact h.elim
  | some xs=>
    rw[e] at h;simp only[t7,e1,e2,Option.map_some] at h;obtain⟨a,j,rfl,v,r⟩:=bw B h1 e;have hl:=r.length;obtain⟨_,k⟩:=hR B ((r.drop (HT.aR xs.length 0 lo)).take (HT.aR xs.length xs.length u-HT.aR xs.length 0 lo)) h;refine{a,j,rfl,v,?_};unfold rb;rw[hl];exact k
 have tup:∀xs,z=.tup xs->JO X.K x lo u H Q\/∃a xs,x=.ref a/\dD X.K H a xs/\(HT.aR xs.length 0 lo=0/\HT.aR xs.length xs.length u=xs.length)/\Q (.ref a) H:=λxs e=>by
  subst e;have h:ae (match LD.aR xs.length 0 dl,LD.aR xs.length xs.length E with
   |some l,some h=>.ok (.tup (cut xs l h)) M
   |_,_=>.bad) (aW fa X.K μ H Q):=h
  simp only[t7,e1,e2,Option.map_some] at h;obtain⟨a,j,rfl,v,r⟩:=h1;have hl:=r.length;by_cases y:HT.aR j.length 0 lo=0/\HT.aR j.length j.length u=j.length
  ·refine .inr {a,j,rfl,v,y,?_};rw[hl] at y;have F:cut xs (HT.aR xs.length 0 lo) (HT.aR xs.length xs.length u)=xs:=by rw[y.1,y.2];simp[cut]
   rw[F] at h;exact aQ B h ⟨a,j,rfl,v,r⟩
  ·refine .inl {a,j,rfl,v,y,?_};have k:=ja B ((r.drop (HT.aR xs.length 0 lo)).take (HT.aR xs.length xs.length u-HT.aR xs.length 0 lo)) h;unfold rb;rw[hl];exact k
 cases z<;>first|exact .inr (tup _ rfl)|exact .inl (gen h)
def oC (fa:Fa)(K:Qr)(f:xr):List V->Hp->VK->Prop:=λj H Q=>∃μ M h,RelM fa K μ H M/\aD fa K μ H h j/\ae (dB f h M) (aW fa K μ H Q)
def pC {d:D}{vs:List V}{K:Qr}(h:aD fa K μ H [d] vs):∃v,vs=[v]/\Rep fa K μ H d v:=by
 obtain⟨v,r,rfl,h1,h2⟩:=h;obtain rfl:r=[]:=h2;exact⟨v,rfl,h1⟩
set_option tactic.hygienic true in
def Nh:b4 X (.builtin "len") (oC fa X.K .len):=jq (vh.or vg) λB H Q h=>by
 obtain⟨μ,M,E,j,r,h⟩:=h
 match E,r,h with
 |[],_,h=>exact h.elim
 |d::_::_,_,h=>cases d<;>exact h.elim
 | [d],r,h=>
   obtain⟨v,rfl,y⟩:=pC r;have gen:ae (match bL M d with|some xs=>.ok (.int xs.length) M|none=>.bad) (aW fa X.K μ H Q)->∃p u,[v]=[.ref p]/\(cF X.K H p u\/dD X.K H p u)/\Q (.int u.length) H:=λh=>by
    cases e:bL M d with
    |none=>rw[e] at h;exact h.elim
    | some xs=>
      rw[e] at h;obtain⟨a,B,rfl,F,r⟩:=je j y e;refine{a,B,rfl,F,?_};rw[r.length];exact aQ j h rfl
   have str:∀x,d=.str x->∃z,[v]=[V.str z]/\z.length<=sizeLine/\Q (.int z.length) H:=λx e=>by
    subst e;have h:ae (if x.cps.size<=sz then .ok (.int x.cps.size) M else .bad) (aW fa X.K μ H Q):=h;split at h
    ·next c=>exact{x,by rw[show v=.str x from y],by rw[<- dE];exact c,aQ j h rfl}
    ·exact h.elim
   cases d<;>first|exact .inr (str _ rfl)|exact .inl (gen h)
def Hw:b4 X (.type "tuple") (oC fa X.K .tuple):=jq sP λu H Q h=>by
 obtain⟨μ,M,E,y,r,h⟩:=h
 match E,r,h with
 |[],_,h=>exact h.elim
 |d::_::_,_,h=>cases d<;>exact h.elim
 | [d],r,h=>
   obtain⟨v,rfl,B⟩:=pC r;have gen:ae (match ff M d with|some xs=>.ok (.tup xs) M|none=>.bad) (aW fa X.K μ H Q)->∃p j,[v]=[.ref p]/\((cF X.K H p j/\∀l,H l=none->Q (.ref l) (upd H l (.tup j)))\/(dD X.K H p j/\Q (.ref p) H)):=λh=>by
    cases e:ff M d with
    |none=>rw[e] at h;exact h.elim
    | some xs=>
      rw[e] at h;obtain⟨a,u,rfl,z,r⟩:=bw y B e;exact{a,u,rfl,.inl {z,ja y r h}}
   have tup:∀x,d=.tup x->∃p j,[v]=[.ref p]/\((cF X.K H p j/\∀l,H l=none->Q (.ref l) (upd H l (.tup j)))\/(dD X.K H p j/\Q (.ref p) H)):=λx e=>by
    subst e;obtain⟨a,u,rfl,z,r⟩:=id B;exact{a,u,rfl,.inr {z,aQ y h B}}
   cases d<;>first|exact tup _ rfl|exact gen h
def Lf (m:Bool):b4 X (.type "list") (oC fa X.K (.list m)):=jq vf λu H Q h=>by
 obtain⟨μ,M,y,j,r,h⟩:=h
 match y,r,h with
 |[],_,h=>exact h.elim
 |_::_::_,_,h=>exact h.elim
 | [d],r,h=>
   obtain⟨v,rfl,B⟩:=pC r;have h:ae (match bL M d with|some xs=>ba m xs M|none=>.bad) (aW fa X.K μ H Q):=h
   cases e:bL M d with
   |none=>rw[e] at h;exact h.elim
   | some xs=>
     rw[e] at h;obtain⟨a,u,rfl,z,r⟩:=je j B e;obtain⟨_,k⟩:=hR j r h;exact⟨a,u,rfl,z,k⟩
end
section
variable{fa:Fa}{X:Cx}{μ:Mu}{H:Hp}{σ:L2.St}{pins:List (Addr×Obj)}{s:QC}{M:Mem}
set_option tactic.hygienic true in
def Oz (hM:RelM fa X.K μ H M)(h:Rep fa X.K μ H d v)(e:j3 M d=some k):DC X.K v H k:=by
 cases d with
 |non=>obtain rfl:v=.non:=h;exact(Qz e).symm
 |bl b=>obtain rfl:v=.bl b:=h;exact(Qz e).symm
 |int i=>obtain rfl:v=.int i:=h;exact(Qz e).symm
 | str x=>
   obtain rfl:v=.str x:=h;have e:(if x.cps.size<=sz then some (x.cps.size != 0) else none)=some k:=e;split at e
   ·next c=>
    refine{by rw[<- dE];exact c,?_}
    rw[<- Qz e];show(x.cps.size != 0)=((x.cps.size:Int) != 0);rw[RT];simp
   ·cases e
 | tup ds=>
   obtain⟨a,vs,rfl,hq,r⟩:=h;refine .inr (.inl {vs,hq,?_});rw[<- Qz e];have:=r.length;cases vs<;>cases ds<;>simp_all
 | lst ds=>
   obtain⟨a,vs,rfl,hq,r⟩:=bw hM h rfl;refine .inl {vs,hq,?_};rw[<- Qz e];have:=r.length;cases vs<;>cases ds<;>simp_all
 | frz ds=>
   obtain⟨a,vs,rfl,hq,r⟩:=bw hM h rfl;refine .inl {vs,hq,?_};rw[<- Qz e];have:=r.length;cases vs<;>cases ds<;>simp_all
 | cell c=>
   have e:(M[c]?).map (λds=>!ds.isEmpty)=some k:=e;cases e1:M[c]? with
   |none=>rw[e1] at e;cases e
   | some ds=>
     rw[e1] at e;obtain⟨a,vs,rfl,hq,r⟩:=bw hM h e1;refine .inl {vs,hq,?_};rw[<- Qz e];have:=r.length;cases vs<;>cases ds<;>simp_all
 |fn f=>cases e
 |exc y p=>cases e
def mq:∀{ds:List D}{bs:List Bool}{vs:List V}{us:List Qt},boolsOf ds=some bs->aD fa X.K μ H ds vs->Vals vs us->PyProof.Rows.LSm.BoolsAre us bs:=by
 intro ds;induction ds with
 | nil=>
   intro bs vs us e h r;obtain rfl:vs=[]:=h;cases r;cases e;exact .nil
 | cons d ds j=>
   intro bs vs us e h r;obtain⟨v,vr,rfl,h1,h2⟩:=h;cases r with
   | cons r1 r2=>
     cases d with
     | bl b=>
       have e:(boolsOf ds).map (b::·)=some bs:=e;cases e1:boolsOf ds with
       |none=>rw[e1] at e;cases e
       | some u=>
         rw[e1] at e;have e2:=Qz e;subst e2;obtain rfl:v=.bl b:=h1;obtain rfl:_=Value.bool b:=r1;exact .cons b (j e1 h2 r2)
     |_=>cases e
def rh:b4 X (.builtin "all") (λxs H Q=>∃μ ds bs p vs,xs=[.ref p]/\X.calm=true/\cF X.K H p vs/\aD fa X.K μ H ds vs/\boolsOf ds=some bs/\Q (.bl (bs.all id)) H):=by
 intro pins s σ H xs us Q I r h;obtain⟨μ,ds,bs,p,vs,rfl,J,L,O,E,q⟩:=h;obtain⟨u,rfl,R⟩:=vals1 r;cases R;obtain⟨j,P,pl,Y⟩:=I.list L;have B:=mq E O P;have y:=pl.lt;refine call_all_walk (wpAny_pyIter_list pl.isList ?_);refine{s.heap.objs.size,[s.heap.objs.size,p],[s.heap.objs.size],j.toArray.size,_,_,λi=>(bs[i]?).getD true,rfl,Walks.list (A:=X.A.in1) (I.ok.hd J) _ p (Q1 y) j.toArray,
  {{_,QU _ rfl,rfl,rfl},pl.isList.push _},λi v s' U S F z=>?_,λW tk hk=>?_}
 ·obtain⟨b,e,rfl⟩:=B.get i v (by simpa using F)
  simp only[e,Option.getD_some] at z;exact tqp z
 ·have e:((List.range j.toArray.size).all λi=>(bs[i]?).getD true)=bs.all id:=by
   rw[QE,B.length];exact PyProof.Rows.LSm.range_all bs
  rw[e];exact{.bl _,H,I.kept (PyProof.Rows.LSm.kept_iter hk),rfl,q}
def Co:∀{ds:List D}{bs:List Int}{vs:List V}{us:List Qt},intsOf ds=some bs->aD fa X.K μ H ds vs->Vals vs us->IntsAre us bs:=by
 intro ds;induction ds with
 | nil=>
   intro bs vs us e h r;obtain rfl:vs=[]:=h;cases r;cases e;exact .nil
 | cons d ds j=>
   intro bs vs us e h r;obtain⟨v,vr,rfl,h1,h2⟩:=h;cases r with
   | cons r1 r2=>
     cases d with
     | int b=>
       have e:(intsOf ds).map (b::·)=some bs:=e;cases e1:intsOf ds with
       |none=>rw[e1] at e;cases e
       | some u=>
         rw[e1] at e;have e2:=Qz e;subst e2;obtain rfl:v=.int b:=h1;obtain⟨t,rfl⟩:=r1;exact .cons b t (j e1 h2 r2)
     |_=>cases e
def sQ:b4 X (.builtin "sum") (λxs H Q=>∃μ ds bs p vs,xs=[.ref p]/\X.calm=true/\cF X.K H p vs/\aD fa X.K μ H ds vs/\intsOf ds=some bs/\Q (.int bs.sum) H):=by
 intro pins s σ H xs U Q I r h;obtain⟨μ,ds,ns,p,vs,rfl,B,E,J,z,q⟩:=h;obtain⟨u,rfl,O⟩:=vals1 r;cases O;obtain⟨F,L,pl,S⟩:=I.list E;have v:=Co z J L;obtain⟨xs,y⟩:=v.allInts.items;have j:=y ▸ pl.isList;refine sum_intListG (I.ok.hd B) j λR tk P hk=>?_;have e1:ns=xs.toList.map (·.1):=by
  rw[<- nums_intItems,<- y];exact(v.numsOf).symm
 have e2:preSum (numAt xs) xs.size=ns.sum:=by
  rw[preSum_eq,Ru `s,e1]
 rw[e2];exact{.int _,H,I.kept hk,⟨P,rfl⟩,q}
def Nj (z:X.calm=true):b4 X (.builtin "all") (oC fa X.K .all):=jq (rh) λu H Q h=>by
 obtain⟨μ,M,y,j,r,h⟩:=h
 match y,r,h with
 |[],_,h=>exact h.elim
 |d::_::_,_,h=>exact h.elim
 | [d],r,h=>
   obtain⟨v,rfl,E⟩:=pC r;have h:ae (match ff M d with|some xs=>(match boolsOf xs with|some bs=>.ok (.bl (bs.all id)) M|none=>.bad)|none=>.bad) (aW fa X.K μ H Q):=h
   cases e:ff M d with
   |none=>rw[e] at h;exact h.elim
   | some xs=>
     rw[e] at h;simp only at h;cases e2:boolsOf xs with
     |none=>rw[e2] at h;exact h.elim
     | some bs=>
       rw[e2] at h;obtain⟨a,u,rfl,B,r⟩:=bw j E e;exact{μ,xs,bs,a,u,rfl,z,B,r,e2,aQ j h rfl}
def Ng (z:X.calm=true):b4 X (.builtin "sum") (oC fa X.K .sum):=jq (sQ) λu H Q h=>by
 obtain⟨μ,M,y,j,r,h⟩:=h
 match y,r,h with
 |[],_,h=>exact h.elim
 |d::_::_,_,h=>exact h.elim
 | [d],r,h=>
   obtain⟨v,rfl,E⟩:=pC r;have h:ae (match ff M d with|some xs=>(match intsOf xs with|some bs=>.ok (.int bs.sum) M|none=>.bad)|none=>.bad) (aW fa X.K μ H Q):=h
   cases e:ff M d with
   |none=>rw[e] at h;exact h.elim
   | some xs=>
     rw[e] at h;simp only at h;cases e2:intsOf xs with
     |none=>rw[e2] at h;exact h.elim
     | some bs=>
       rw[e2] at h;obtain⟨a,u,rfl,B,r⟩:=bw j E e;exact{μ,xs,bs,a,u,rfl,z,B,r,e2,aQ j h rfl}
noncomputable def tyName:Ty->String
 |.int=>"int" | .bool=>"bool" | .str=>"str" | .tuple=>"tuple" | .list=>"list" | .own _=>""
def N1:D->String
 |.non=>"NoneType" | .bl _=>"bool" | .int _=>"int" | .str _=>"str" | .tup _=>"tuple" | _=>"list"
def Mq (t:Ty)(d:D)(b:Bool)(j:∀c,t≠.own c)(e:gW t d=some b):PySem.W.kitOne X.K (.type (N1 d)) (.type (tyName t))=some b:=by
 cases t with
 |own c=>exact absurd rfl (j c)
 |_=>cases d<;>first|(cases (show(none:Option Bool)=some b from e))|(have h:=Qz e;subst h;(first|rfl|decide +kernel))
def BR (J:RelM fa X.K μ H M)(h:Rep fa X.K μ H d v)(e:gW t d=some b)(I:Inv X pins σ H s)(r:RelV v u)
 (j:PySem.W.kitOne X.K (.type (N1 d)) c=some b) (q:∀tk,Q (.bool b) {s with toks:=tk}):wpAny (model X.prog X.w) X.A (call (.builtin "isinstance") [u,c]) Q X.xe s:=by
 cases d with
 |non=>obtain rfl:v=.non:=h;exact jP I r .non j q
 |bl x=>obtain rfl:v=.bl x:=h;exact jP I r (.bl x) j q
 |int x=>obtain rfl:v=.int x:=h;exact jP I r (.int x) j q
 |str x=>obtain rfl:v=.str x:=h;exact jP I r (.str x) j q
 | tup F=>
   obtain⟨a,O,rfl,B,_⟩:=h;obtain rfl:u=Value.ref a:=r;obtain⟨E,L,⟨o,h1,h2,_⟩,_⟩:=I.tuple B;exact RH PySem.W.kitx_tuple I.kIn ⟨o,h1,h2⟩ j (λz=>nomatch z) q
 | lst F=>
   obtain⟨a,O,rfl,B,_⟩:=bw J h rfl;obtain rfl:u=Value.ref a:=r;obtain⟨E,L,⟨o,n,h1,h2,_⟩,_⟩:=I.list B;exact RH PySem.W.kitx_list I.kIn ⟨o,h1,h2⟩ j (λz=>nomatch z) q
 | frz F=>
   obtain⟨a,O,rfl,B,_⟩:=bw J h rfl;obtain rfl:u=Value.ref a:=r;obtain⟨E,L,⟨o,n,h1,h2,_⟩,_⟩:=I.list B;exact RH PySem.W.kitx_list I.kIn ⟨o,h1,h2⟩ j (λz=>nomatch z) q
 | cell k=>
   obtain⟨a,rfl,hk⟩:=h;obtain⟨F,O,_,B,_⟩:=J.mu_lt hk;obtain rfl:u=Value.ref a:=r;obtain⟨E,L,⟨o,n,h1,h2,_⟩,_⟩:=I.list (cF.of B);exact RH PySem.W.kitx_list I.kIn ⟨o,h1,h2⟩ j (λz=>nomatch z) q
 |fn f=>cases e
 |exc y p=>cases e
def MF (fa:Fa)(K:Qr)(t:Ty):List V->Hp->VK->Prop:=λh H Q=>∃μ M d v b,h=[v,.ty (tyName t)]/\RelM fa K μ H M/\Rep fa K μ H d v/\gW t d=some b/\Q (.bl b) H
def Lg (t:Ty)(y:∀c,t≠.own c):b4 X (.builtin "isinstance") (MF fa X.K t):=by
 intro pins s σ H xs B Q I r h;obtain⟨μ,M,d,v,b,rfl,j,z,e,q⟩:=h;obtain⟨u,w,rfl,r1,r2⟩:=vals2 r;obtain rfl:w=Value.type (tyName t):=r2;exact BR j z e I r1 (Mq t d b y e) λtk=>{.bl b,H,I.tok _,rfl,q}
end
section
variable{fa:Fa}{X:Cx}
abbrev DE (fa:Fa)(X:Cx)(e:Expr)(g:Env->Mem->Res D):Prop:=PE X e (tE fa X.K g)
abbrev DT (fa:Fa)(X:Cx)(e:Expr)(g:Env->Mem->Res Bool):Prop:=PT X e (tT fa X.K g)
abbrev DW (fa:Fa)(X:Cx)(e:Expr)(g:Env->Mem->Res Bool):Prop:=PW X e (tT fa X.K g)
abbrev DA (fa:Fa)(X:Cx)(es:List Expr)(g:Env->Mem->Res (List D)):Prop:=PA X es (tA fa X.K g)
abbrev DS (fa:Fa)(X:Cx)(st:Stmt)(g:Env->Mem->Res Fl):Prop:=PS X st (tF fa X g)
abbrev jE (fa:Fa)(X:Cx)(st:List Stmt)(g:Env->Mem->Res Fl):Prop:=kG X st (tF fa X g)
variable{a b d:Expr}{ga gb gd:Env->Mem->Res D}{pos:Pos}
def Nt {i:Nat}(B:X.N[i]?=some x)(E:Bp X.env.scope x)(hd:(x==("__debug__":Str))=false)(j:(x==("__classdict__":Str))=false) :
 DE fa X (.Name x pos) (λZ M=>bS M (Z[i]?.getD none)):=a9 (Ag B E hd j) λI H Q ⟨F,Z,M,y,z,h⟩=>by
 obtain⟨d,e,w⟩:=i4 h;have u:Z[i]?=some (some d):=by
  cases q:Z[i]? with
  |none=>rw[q] at e;cases e
  |some o=>rw[q] at e;simp at e;rw[e]
 obtain⟨v,h1,h2⟩:=y.at' i d u;exact{v,h1,aQ z w h2}
def i6 (h:PE X e (tC v))(r:∀μ H,Rep fa X.K μ H dc v):DE fa X e (λ_ M=>.ok dc M):=a9 h λz H Q ⟨μ,y,M,u,j,h⟩=>aQ j h (r μ H)
def ND {i:Int}:DE fa X (.Constant (.int i) j pos) (λ_ M=>.ok (.int i) M):=i6 Ka λ_ _=>rfl
def PH:DE fa X (.Constant (.bool i) j pos) (λ_ M=>.ok (.bl i) M):=i6 xK λ_ _=>rfl
def Nv:DE fa X (.Constant (.str i) j pos) (λ_ M=>.ok (.str i) M):=i6 J5 λ_ _=>rfl
def Nz:DE fa X (.Constant .none j pos) (λ_ M=>.ok .non M):=i6 J8 λ_ _=>rfl
def t2 {Q:Type}{f:D->D->Mem->Res Q}{P:Q->Mem->Prop}{R:V->V->Hp->Prop}(S:a8 fa X.K μ H σ Z)(U:RelM fa X.K μ H M)
 (h:ae ((ga Z M).bind λx M=>(gb Z M).bind λy M=>f x y M) P)
 (k:∀x y B v u z j,Ext μ H j z->a8 fa X.K j z σ Z->RelM fa X.K j z B->Rep fa X.K j z x v->Rep fa X.K j z y u->ae (f x y B) P->R v u z) :
 tE fa X.K ga σ H λv L=>tE fa X.K gb σ L λu z=>R v u z:=
 t1 S U h λx M1 v L Y W E I r1 h1=>t1 E I h1 λy B u z j O F J r2 h2=>k x y B v u z j (W.trans O) F J (r1.ext O) r2 h2
def NL (m:Bool)(o:oo)(J:DE fa X a ga)(L:DE fa X b gb):DE fa X (.BinOp a (binOp o) b pos) (λZ M=>(ga Z M).bind λx M=>(gb Z M).bind λy M=>fP m o x y M):=
 a9 (MN (NV m o) J L) λS H Q ⟨R,Z,M,E,I,h⟩=>t2 E I h λx y B v u P z O F j r1 r2 h2=>{z,B,x,y,j,r1,r2,kj h2 O}
def pM {P:D->Mem->Prop}(h:ae ((bS M r).bind λb M=>.ok (.bl b) M) P):∃b,r=some b/\P (.bl b) M:=by
 obtain⟨b,j,e,q⟩:=aC h;cases r with
 |none=>cases e
 |some u=>cases e;exact{_,rfl,q}
def NI (O:Rm X)(o:jZ)(J:DE fa X a ga)(L:DE fa X b gb)(hm:behindInMarks (eQ o) b=false) :
 DE fa X (.Compare a [eQ o] [b] pos) (λZ M=>(ga Z M).bind λx M=>(gb Z M).bind λy M=>(bS M (bz o x y M)).bind λb M=>.ok (.bl b) M):=
 a9 (qE (nQ O o) J L hm) λU H Q ⟨S,Z,M,E,I,h⟩=>t2 E I h λx y B v u R z P F j r1 r2 h2=>by
  obtain⟨b,e,q⟩:=pM h2;exact{z,B,x,y,b,j,r1,r2,e,aQ j (q.ext P) rfl}
def Lu (W:Rm X)(o:jZ)(S:DE fa X a ga)(U:DE fa X b gb)(hm:behindInMarks (eQ o) b=false) :
 DT fa X (.Compare a [eQ o] [b] pos) (λZ M=>((ga Z M).bind λx M=>(gb Z M).bind λy M=>(bS M (bz o x y M)).bind λb M=>.ok (.bl b) M).bind λx M=>bS M (j3 M x)):=
 kg (qB (nQ W o) S U hm) λσ H Q ⟨μ,Z,M,O,R,h⟩=>by
  obtain⟨z,I,e,q⟩:=aC h;have L:ae ((ga Z M).bind λx M=>(gb Z M).bind λy M=>(bS M (bz o x y M)).bind λb M=>.ok (.bl b) M) (λd M=>d=z/\M=I):=by rw[e];exact⟨rfl,rfl⟩
  refine t2 O R L λx y F v u E B Y P j r1 r2 h2=>?_;obtain⟨b,e1,e2,J⟩:=pM h2;subst e2 J;exact{B,F,x,y,b,j,r1,r2,e1,b,rfl,q E B Y j}
def F9 (F:∀Z M x M',g Z M=.ok x M'->∃k,x=.bl k)(h:tT fa X.K (λZ M=>(g Z M).bind λx M=>bS M (j3 M x)) σ H Q) :
 tE fa X.K g σ H (λx u=>∃k,x=.bl k/\Q k u):=by
 obtain⟨L,Z,M,B,E,h⟩:=h;obtain⟨x,z,e,q⟩:=aC h;obtain⟨k,rfl⟩:=F Z M x z e;refine{L,Z,M,B,E,?_};rw[e];intro v y j J I r1;obtain rfl:v=.bl k:=r1;exact{k,rfl,q y j J I}
def E8 {o O:jZ}{L:Env->Mem->Res D}(S:L2.St)(H:Hp)(Q:VK):tE fa X.K (λZ M=>(ga Z M).bind λx M=>(gb Z M).bind λy M=>(bS M (bz o x y M)).bind λk M=>
 if k then(L Z M).bind λz M=>(bS M (bz O y z M)).bind λb M=>.ok (.bl b) M else .ok (.bl false) M) S H Q->tJ (gM fa X.K o) (gM fa X.K O) (tE fa X.K ga) (tE fa X.K gb) (tE fa X.K L) S H Q:=λ⟨μ,Z,M,hE,hM,h⟩=>by
 refine t2 hE hM h λx y U v u H2 I P F j r1 r2 h2=>?_;obtain⟨k,M3,e,q⟩:=aC h2;cases E:bz o x y U with
 |none=>rw[E] at e;cases e
 | some k'=>
   rw[E] at e;cases e;refine{I,_,x,y,k,j,r1,r2,E,k,rfl,?_};cases k with
   |false=>exact aQ j (aW.ext q P) rfl
   | true=>
     refine t1 F j q λz W w H4 J R hE4 B r4 h4=>?_;obtain⟨b,Y,q4⟩:=pM h4;exact{J,W,y,z,b,B,r2.ext R,r4,Y,aQ B (q4.ext (P.trans R)) rfl}
def NJ (j:Rm X)(o h:jZ)(u:DE fa X a ga)(v:DE fa X b gb)(B:DE fa X d gc)(hm:lastMarks [eQ o,eQ h] [b,d]=false) :
 DE fa X (.Compare a [eQ o,eQ h] [b,d] pos) (λZ M=>(ga Z M).bind λx M=>(gb Z M).bind λy M=>(bS M (bz o x y M)).bind λk M=>
  if k then(gc Z M).bind λz M=>(bS M (bz h y z M)).bind λb M=>.ok (.bl b) M else .ok (.bl false) M):=a9 (CD (nQ j o) (nQ j h) u v B hm) E8
def CH {x:D}(h:((bS M r).bind λb M=>Res.ok (.bl b) M)=.ok x M'):∃k,x=.bl k:=by
 cases r with
 |none=>cases h
 |some b=>cases h;exact⟨b,rfl⟩
def eR {j u:Type}{r:Res j}{f:j->Mem->Res u}{x:u}(h:r.bind f=.ok x M):∃a M1,r=.ok a M1/\f a M1=.ok x M:=by
 cases r with
 |ok a M1=>exact⟨a,M1,rfl,h⟩
 |err=>cases h
 |bad=>cases h
def Lv (v:Rm X)(o j:jZ){u:Env->Mem->Res D}(B:DE fa X a ga)(E:DE fa X b gb)(F:DE fa X d u)(hm:lastMarks [eQ o,eQ j] [b,d]=false) :
 DT fa X (.Compare a [eQ o,eQ j] [b,d] pos) (λZ M=>((ga Z M).bind λx M=>(gb Z M).bind λy M=>(bS M (bz o x y M)).bind λk M=>
  if k then(u Z M).bind λz M=>(bS M (bz j y z M)).bind λb M=>.ok (.bl b) M else .ok (.bl false) M).bind λx M=>bS M (j3 M x)):=
 kg (Cw (nQ v o) (nQ v j) B E F hm) λI H Q h=>E8 I H _ (F9 (λZ M x J e=>by
  obtain⟨S,L,_,e⟩:=eR e;obtain⟨U,O,_,e⟩:=eR e;obtain⟨k,P,_,e⟩:=eR e;cases k with
  |false=>cases e;exact{_,rfl}
  | true=>
    obtain⟨W,R,_,e⟩:=eR e;exact CH e) h)
def NA (B:DE fa X a ga):DE fa X (.UnaryOp .USub a pos) (λZ M=>(ga Z M).bind λx M=>match x with|.int i=>.ok (.int (-i)) M|_=>.bad):=
 a9 (MK IS B) λO H Q ⟨L,Z,M,u,z,h⟩=>t1 u z h λx J v I F E y j r1 h1=>by
  cases x with
  |int i=>exact{i,r1,aQ j (aW.ext h1 E) rfl}
  |_=>exact h1.elim
def NN {rest:List Expr}(I:DE fa X a ga)(J:DE fa X (.BoolOp .And (b::rest) pos) gb):DE fa X (.BoolOp .And (a::b::rest) pos) (λZ M=>(ga Z M).bind λx M=>match x with
 |.bl true=>gb Z M
 |.bl false=>.ok (.bl false) M
 |_=>.bad):=
 a9 (Kc I J) λP H Q ⟨O,Z,M,E,F,h⟩=>t1 E F h λx B v L y z u j r1 h1=>by
  cases x with
  | bl k=>
    refine{k,r1,?_};cases k with
    |true=>exact{y,Z,B,u,j,kj h1 z}
    |false=>exact aQ j (aW.ext h1 z) rfl
  |_=>exact h1.elim
def PF {rest:List Expr}(I:DE fa X a ga)(J:DE fa X (.BoolOp .Or (b::rest) pos) gb):DE fa X (.BoolOp .Or (a::b::rest) pos) (λZ M=>(ga Z M).bind λx M=>match x with
 |.bl true=>.ok (.bl true) M
 |.bl false=>gb Z M
 |_=>.bad):=
 a9 (MM I J) λP H Q ⟨O,Z,M,E,F,h⟩=>t1 E F h λx B v L y z u j r1 h1=>by
  cases x with
  | bl k=>
    refine{k,r1,?_};cases k with
    |true=>exact aQ j (aW.ext h1 z) rfl
    |false=>exact{y,Z,B,u,j,kj h1 z}
  |_=>exact h1.elim
def Ff (h:DE fa X a ga):DE fa X (.BoolOp op [a] pos) ga:=J6 h
def Ny (B:DE fa X a ga):DE fa X (.UnaryOp .Not a pos) (λZ M=>(ga Z M).bind λx M=>match x with|.bl k=>.ok (.bl (!k)) M|_=>.bad):=
 a9 (J7 B) λO H Q ⟨L,Z,M,u,z,h⟩=>t1 u z h λx J v I F E y j r1 h1=>by
  cases x with
  |bl k=>exact{k,r1,aQ j (aW.ext h1 E) rfl}
  |_=>exact h1.elim
variable{ta tb:Env->Mem->Res Bool}
def HI (h:DT fa X a ta):DW fa X (.BoolOp .And [a] pos) ta:=GX h
def Lo (h:DT fa X a ta):DW fa X (.BoolOp .Or [a] pos) ta:=JV h
def N7 {Q:Bool->Hp->Prop}(x:Ext μ H μ' H')(h:ae b' λb M'=>∀u j,Ext μ H j u->RelM fa X.K j u M'->Q b u):ae b' λb M'=>∀u j,Ext μ' H' j u->RelM fa X.K j u M'->Q b u:=
 aM h λb M q u j y m=>q u j (x.trans y) m
def Lp {rest:List Expr}(I:DT fa X a ta)(J:DW fa X (.BoolOp .And (b::rest) pos) tb):DW fa X (.BoolOp .And (a::b::rest) pos) (λZ M=>(ta Z M).bind λk M=>if k then tb Z M else .ok false M):=
 zY (JW I J) λO H Q ⟨L,Z,M,E,F,h⟩=>zt E F h λk B z u y v j h1=>by
  cases k with
  |true=>exact{u,Z,B,v,j,N7 y h1}
  |false=>exact h1 z u y j
def Nl {rest:List Expr}(I:DT fa X a ta)(J:DW fa X (.BoolOp .Or (b::rest) pos) tb):DW fa X (.BoolOp .Or (a::b::rest) pos) (λZ M=>(ta Z M).bind λk M=>if k then .ok true M else tb Z M):=
 zY (MI I J) λO H Q ⟨L,Z,M,E,F,h⟩=>zt E F h λk B z u y v j h1=>by
  cases k with
  |true=>exact h1 z u y j
  |false=>exact{u,Z,B,v,j,N7 y h1}
def Lq (E:DT fa X a ta):DT fa X (.UnaryOp .Not a pos) (λZ M=>(ta Z M).bind λk M=>.ok (!k) M):=
 kg (JZ E) λL H Q ⟨J,Z,M,y,B,h⟩=>zt y B h λk I v u F z j h1=>h1 v u F j
def Dk (F:DE fa X a ga)(he:∀whole,isTrue a X.env whole=(do let v <- whole;standAt a.pos;holding [v] (truthy v))):DT fa X a (λZ M=>(ga Z M).bind λx M=>bS M (j3 M x)):=
 kg (Cu F he) λO H Q ⟨L,Z,M,z,E,h⟩=>t1 z E h λx J v y u I B j r1 h1=>by
  obtain⟨k,e,q⟩:=i4 h1;exact{k,Oz j r1 e,q y u I j}
def NC (J:DT fa X c gc)(F:DE fa X a ga)(I:DE fa X b gb):DE fa X (.IfExp c a b pos) (λZ M=>(gc Z M).bind λk M=>if k then ga Z M else gb Z M):=
 a9 (uj J F I) λP H Q ⟨O,Z,M,B,E,h⟩=>zt B E h λk y L v z j u h1=>by
  cases k with
  |true=>exact{v,Z,y,j,u,kj h1 z}
  |false=>exact{v,Z,y,j,u,kj h1 z}
def NF (J:DE fa X a ga)(L:DE fa X b gb)(hs:gG b):DE fa X (.Subscript a b pos) (λZ M=>(ga Z M).bind λx M=>(gb Z M).bind λy M=>bS M (bO x y M)):=
 a9 (pH E9 J L hs) λS H Q ⟨R,Z,M,E,I,h⟩=>t2 E I h λx y B v u P z O F j r1 r2 h2=>by
  obtain⟨d,e,q⟩:=i4 h2;exact{z,B,x,y,d,j,r1,r2,e,q.ext O}
def DO (fa:Fa)(X:Cx)(e:Option Expr)(z:Bool)(g:Env->Mem->Res D):Prop:=PO X e λB H Q=>∃u v M,a8 fa X.K u H B v/\RelM fa X.K u H M/\ae (g v M) λd y=>∃o,eE z d=true/\pJ d=some o/\∀j h,Ext u H h j->RelM fa X.K h j y->Q o j
def HS:DO fa X none false (λ_ M=>.ok .non M):=λh s v H Q I ⟨u,z,M,y,j,o,_,e,k⟩=>by
 cases e;exact G4 h s v H Q I (k H u .refl j)
def HR (E:DE fa X a ga):DO fa X (some a) true ga:=λj s L H Q I ⟨F,J,M,z,B,h⟩=>G3 E j s L H Q I {F,J,M,z,B,aM h λd O ⟨o,p,e,k⟩ v y u x m r=>by
 cases d with
 |int i=>cases e;exact{i,r,k y u x m}
 |_=>cases p}
def part_of {d:D}(h:eE hp d=true):∃o,pJ d=some o:=by
 cases hp<;>cases d<;>first|exact{_,rfl}|cases h
set_option tactic.hygienic true in
def Nw (m hl hh:Bool){lo hi:Option Expr}(ha:DE fa X a ga)(F:DO fa X lo hl gl)(E:DO fa X hi hh gh):DE fa X (.Subscript a (.Slice lo hi none p2) pos)
 (λZ M=>(ga Z M).bind λx M=>(gl Z M).bind λl M=>(gh Z M).bind λh M=>if eE hl l&&eE hh h then fM m x l h M else .bad):=
 a9 (CB (Gx m) ha F E) λσ H Q ⟨μ,Z,M,hE,hM,h⟩=>t1 hE hM h λx U v H1 J x1 j y r1 h1=>by
  obtain⟨l,W,e2,h2⟩:=aC h1;obtain⟨u,Y,e3,h3⟩:=aC h2;split at h3
  ·next c=>
   rw[Qw] at c;obtain⟨ol,P⟩:=part_of c.1;obtain⟨ou,R⟩:=part_of c.2;refine{J,Z,U,j,y,?_};rw[e2];refine{ol,c.1,P,λH2 L I z=>{L,Z,W,j.ext I,z,?_}};rw[e3];exact{ou,c.2,R,λH3 O S B=>{O,Y,x,l,u,B,(r1.ext I).ext S,P,R,kj h3 ((x1.trans I).trans S)}}
  ·exact h3.elim
def LN:DA fa X [] (λ_ M=>.ok [] M):=Aj cY λz H Q ⟨u,y,M,v,j,h⟩=>h [] H u .refl j rfl
def H8 (P:DE fa X a ga)(hs:DA fa X es gs)(I:starEach (a::es) X.env=(false,eval a X.env)::starEach es X.env) :
 DA fa X (a::es) (λZ M=>(ga Z M).bind λx M=>(gs Z M).bind λxs M=>.ok (x::xs) M):=
 Aj (bC P hs I) λσ H Q ⟨μ,Z,M,J,O,h⟩=>t1 J O h λx W v U S R j u r1 h1=>rL j u h1 λxs Y B F z E L y r2 h2=>h2 (v::B) F z (R.trans E) y {v,B,rfl,r1.ext E,r2}
set_option tactic.hygienic true in
def Nu (hs:DA fa X es gs):DE fa X (.Tuple es k pos) (λZ M=>(gs Z M).bind kZ):=
 a9 (J4 hs) λL H Q ⟨J,Z,M,u,y,h⟩=>rL u y h λxs F I E B z v j r1 h1=>by
  unfold kZ at h1;split at h1
  ·next c=>exact{by rw[r1.length,<- dE];exact c,ja j r1 (aW.ext h1 z)}
  ·exact h1.elim
def NB (m:Bool)(hs:DA fa X es gs):DE fa X (.List es pos) (λZ M=>(gs Z M).bind (ba m)):=
 a9 (J9 hs) λL H Q ⟨J,Z,M,u,y,h⟩=>rL u y h λxs F I E B z v j r1 h1=>by
  obtain⟨c,k⟩:=hR j r1 (kj h1 z);exact{by rw[r1.length,<- dE];exact c,k}
end
def sk (o:Obj)(f:Array Qt->Array Qt):(o.mapFields f).dict=o.dict:=by
 obtain⟨c,d,h,sl⟩:=o;cases h<;>rfl
section
variable{P:Rv}{w:Rf}{M:Model}{A:R9}{E:Qt->QC->Prop}{base:Heap}{env:R1}{outer:List R1}{L a C:Addr}{dx:Option Addr}{New:Addr->Prop}{H:Hp}{s:QC}{Q:Unit->QC->Prop}
def vV (hfr:A.frames=some (env::outer))(hl:s.heap.FunFrames base (env::outer))(hf:env.frame=some L)
 (he:s.heap.get? a=some oe) (hd:oe.data=.fields vs) (hsz:1<vs.size)
 (h:∀S T oT ts,(∀b o,b∉fT (env::outer)->b≠a->s.heap.get? b=some o->S.get? b=some o)->(∀b o,b≠a->s.heap.get? b=some o->∃sl,S.get? b=some {o with slots:=sl})->s.heap.objs.size<=T->T≠a->
  S.get? a=some (oe.mapFields (·.setIfInBounds 1 (.ref T)))->S.get? T=some oT->oT.data=.fields ts->ts[3]?=some .none->Q () {s with heap:=S}) :
 wpAny M A (do let f <- frameOf env;let pl <- entryPlaceOf L had;let b <- EntryCells.newEntry head f .none (rawInt L) .none pl;setField (.ref a) 1 b) (λ_ s'=>wpAny M A (setFlight (.ref a) none) Q E s') E s:=by
 have U:a∉fT (env::outer):=λhm=>by
  obtain⟨_,o,ho,hnf⟩:=hl.mem hm;rw[he] at ho;cases ho;exact hnf vs hd
 refine tqa (wpAny_frameOf_fun hfr hl hf λj v=>?_);refine tqa (wpAny_entryPlaceOf λpl W=>?_);refine tqa (wpAny_newObj_type ?_ (W.sizeOk5 _ _ _ _ _));have F:j.get? a=some oe:=(v.2.1 a U).trans he;generalize ho:({cls:=.type "traceback",dict:=none,data:=.fields ([head,.ref L,.none,rawInt L,.none]++(if pl.isEmpty then List.replicate 6 Value.none else pl)).toArray}:Obj)=o;have O:o.data=.fields ([head,.ref L,.none,rawInt L,.none]++(if pl.isEmpty then List.replicate 6 Value.none else pl)).toArray:=by rw[<- ho]
 have I:=Qu o F;refine wpAny_setField I hd hsz ?_;have R:=Rn (QO F);have B:=Sv hd (·.setIfInBounds 1 (Value.ref j.objs.size));have J:=Sb (Obj.mapFields (·.setIfInBounds 1 (Value.ref j.objs.size))) I (Obj.isFreed_of_fields B);have y:=(R4 (j.push o) (Obj.mapFields (·.setIfInBounds 1 (Value.ref j.objs.size))) (RF R)).trans (QU j (Obj.isFreed_of_fields O));refine tqa (tqf J B (x:=.ref j.objs.size) (by simp[hsz]) ?_)
 rw[if_pos `s]
 refine wpAny_setField y O (by simp only[QE,Q6,Rx,List.length_nil]<;>omega) ?_
 have keep:∀b u,b≠a->j.get? b=some u->(((j.push o).update a (Obj.mapFields (·.setIfInBounds 1 (Value.ref j.objs.size)))).update j.objs.size (Obj.mapFields (·.setIfInBounds 3 ((none:Option Addr).elim Value.none λf=>rawInt f)))).get? b=some u:=λb u z Y=>by
  have hbT:=Rn (QO Y);rw[R4 _ _ hbT,R4 _ _ (RF z)];exact Qu _ Y
 refine h _ j.objs.size _ _ (λb u Y z q=>keep b u z ((v.2.1 b Y).trans q)) (λb u z q=>?_) (Nat.le_of_eq v.1.symm) R ?_ (Sb _ y (Obj.isFreed_of_fields (Sv O _))) (Sv O _) ?_
 ·obtain⟨sl,e⟩:=v.2.2 b u q;exact{sl,keep b _ z e}
 ·rw[R4 _ _ R];exact J
 ·first|(simp;done)|(rcases W with rfl|⟨_,_,_,_,_,_,_,rfl⟩<;>simp)
def qF (hfr:A.frames=some (env::outer))(hl:s.heap.FunFrames base (env::outer))(hf:env.frame=some L)(hF:mY New C dx a s.heap H)(hN:∀b,s.heap.objs.size<=b->New b)(hok:d7 P w H s.heap)(J:∀b∈fT (env::outer),H b=none)
 (h:∀B ch,(∀b∈ch,New b/\H b=none/\∃o vs,s.heap.get? b=some o/\o.data=.fields vs)->Un (fT (env::outer)) ch H H s.heap B->d7 P w H B->mY New C dx a B H->Q () {s with heap:=B}) :
 wpAny M A (noteFrame (.ref a) env) (λ_ s1=>wpAny M A (setFlight (.ref a) none) Q E s1) E s:=by
 obtain⟨na,ha,oe,vs,he,hc,Y,hd,tr⟩:=hF;have U:∀B ch,(∀b∈ch,New b/\H b=none/\∃o vs,s.heap.get? b=some o/\o.data=.fields vs)->(∀b o,b∉fT (env::outer)->b∉ch->s.heap.get? b=some o->B.get? b=some o)->(∀b o,b∉ch->s.heap.get? b=some o->∃sl,B.get? b=some {o with slots:=sl})->mY New C dx a B H->Q () {s with heap:=B}:=λB ch W keep slot fl=>by
  refine h B ch W {λb o q _ j F=>keep b o j F q,λb o q _ _ F=>slot b o F q,λ_ _ _ n _=>n,λb o q F=>let⟨sl,e⟩:=slot b o F q;{_,e},λ_ _ e=>e,λ_ _ _ e=>e,λb ps e=>{#[],by rw[e];simp}} (λb u e=>(hok b u e).stay (λc v hc q=>?_) (λ_ q=>q) λ_ _ q=>q) fl
  have nn:H c≠none:=by rcases hc with z|z<;>(intro z';first|(rw[z,e] at z';cases z')|(rw[z] at z';cases z'))
  exact keep c v (λz=>nn (J c z)) (λz=>nn (W c z).2.1) q
 unfold noteFrame;simp only[hf];rcases tr with h1|⟨T,oT,ts,h1,hTa,nT,hT0,hT,I,h3⟩
 ·refine tqa (tqf he hd h1 ?_);rw[if_neg `d]
  refine vV hfr hl hf he hd (RL.mp h1).1 λB T oT ts k1 k2 R k4 k5 k6 k7 k8=>?_;refine U B [a] (λb j=>?_) (λb o j F q=>k1 b o j (λz=>F (by simp[z])) q) (λb o F q=>k2 b o (λz=>F (by simp[z])) q) {na,ha,_,_,k5,?_,?_,Sv hd _,.inr {T,oT,ts,by simp[(RL.mp h1).1],k4,hN _ R,hok.fresh R,k6,k7,k8}}
  ·rcases QN.mp j with rfl
   exact⟨na,ha,oe,vs,he,hd⟩
  ·rw[Obj.cls_mapFields];exact hc
  ·rw[sk];exact Y
 ·refine tqa (tqf he hd h1 ?_);rw[if_pos `s]
  refine tqa (tqf hT I h3 ?_);rw[if_neg (by simp[rawInt])]
  refine tqa (wpAny_setField hT I (RL.mp h3).1 ?_);have y:∀b,b≠T->(s.heap.update T (Obj.mapFields (·.setIfInBounds 3 Value.none))).get? b=s.heap.get? b:=λb j=>R4 _ _ (RF j);have S:∀b o,s.heap.get? b=some o->(∀vs,o.data≠.fields vs)->b≠T:=λb o j O q=>by
   rw[q,hT] at j;cases j;exact O ts I
  have hz:(s.heap.update T (Obj.mapFields (·.setIfInBounds 3 Value.none))).objs.size=s.heap.objs.size:=Heap.size_after_update ..;refine vV hfr (hl.of_keeps λb o j O=>{o,(y b (S b o j O)).trans j,rfl}) hf ((y a (RF hTa)).trans he) hd (RL.mp h1).1 λB T' oT' ts' k1 k2 R k4 k5 k6 k7 k8=>?_;have R:s.heap.objs.size<=T':=by rw[<- hz];exact R
  refine U B [a,T] (λb j=>?_) (λb o j F q=>k1 b o j (λz=>F (by simp[z])) ((y b (λz=>F (by simp[z]))).trans q)) (λb o F q=>k2 b o (λz=>F (by simp[z])) ((y b (λz=>F (by simp[z]))).trans q)) {na,ha,_,_,k5,?_,?_,Sv hd _,.inr {T',oT',ts',by simp[(RL.mp h1).1],k4,hN _ R,hok.fresh R,k6,k7,k8}}
  ·rcases Rg.mp j with rfl|j
   ·exact⟨na,ha,oe,vs,he,hd⟩
   ·rcases QN.mp j with rfl
    exact⟨nT,hT0,oT,ts,hT,I⟩
  ·rw[Obj.cls_mapFields];exact hc
  ·rw[sk];exact Y
end
def iH (P:Rv)(w:Rf):vG:=λouter H s E e s'=>∃a C dx H',e=.ref a/\s'.os=s.os/\AllBare s'.gens/\Un (fT outer) [] H H' s.heap s'.heap/\d7 P w H' s'.heap/\mY (λb=>s.heap.get? b=none) C dx a s'.heap H'/\E (.ref C) dx H'
def mY.imp (f:mY New C dx a h H)(i:∀b,New b->New' b):mY New' C dx a h H:=by
 obtain⟨u,j,o,F,h1,h2,h3,h4,B⟩:=f;refine{i _ u,j,o,F,h1,h2,h3,h4,?_};rcases B with t|⟨T,v,ts,t1,t2,y,z⟩
 ·exact .inl t
 ·exact .inr {T,v,ts,t1,t2,i _ y,z}
section
variable{P:Rv}{w:Rf}{K:Qr}{mg:Str->Option Qt}{base:Heap}{N:List Str}{qual:Str}{scope:Scope}{f:Addr}{cd:Qt}{A:R9}{outer:List R1}{s:QC}{H:Hp}{E:XK}
def CV (I:Inv (gn (iH P w) P w K mg base N qual scope f cd A outer s H E) pins σ H' s')(W:mY (yK (gn (iH P w) P w K mg base N qual scope f cd A outer s H E)) C dx a s'.heap H')(U:E (.ref C) dx H') :
 (gn (iH P w) P w K mg base N qual scope f cd A outer s H E).xe (.ref a) s':=by
 have F:=I.stack;have J:=I.sz;have Y:∀b o,s.heap.get? b=some o->b∈fT (envOfC qual scope s.heap.objs.size f cd::outer)->b∈fT outer:=λb o q y=>by
  rcases Rg.mp (y) with e|e
  ·exact absurd (QO q) (by rw[e];exact RM _)
  ·exact e
 unfold gn;refine tqa (qF (New:=λb=>s.heap.get? b=none) I.ok.frames F rfl (W.imp λb z=>z.1) (λb z=>Heap.get?_none_of_le (QH J z)) I.hok I.stkFree λh' R B u hok fl=>?_);have v:∀b o,s.heap.get? b=some o->b∉R:=λb o q z=>by have:=(B b z).1;rw[q] at this;cases this
 have h:=I.base;refine{a,C,dx,H',rfl,I.os,I.bare,{λb o q n y j=>?_,λb o q n y j=>?_,h.free,λb o q j=>?_,h.tups,h.frzs,h.tbls},hok,fl,U}
 ·exact u.keep b o (h.keep b o q n y j) (h.free b o q n j) (λz=>y (Y b o q z)) (v b o q)
 ·obtain⟨sl,e⟩:=h.slot b o q n y j;obtain⟨O,S⟩:=u.any e (h.free b o q n j) (v b o q);exact⟨O,S⟩
 ·obtain⟨o',e⟩:=h.there b o q j;exact u.there b o' e (v b o q)
end
section
variable{X:Cx}{pins:List (Addr×Obj)}{σ:L2.St}{H H':Hp}{s s':QC}{E:XK}{e:Qt}
def mF (I:Inv X pins σ H s)(v:X.ex=[])(h:iH X.prog X.w X.stack H s E e s'):∃a C dx H',e=.ref a/\Inv X pins σ H' s'/\mY (yK X) C dx a s'.heap H'/\E (.ref C) dx H':=by
 obtain⟨a,C,dx,H',rfl,os,bare,un,hok,fl,q⟩:=h;refine{a,C,dx,H',rfl,I.call' os un hok bare (λb z=>absurd z `s),fl.imp λb z=>{?_,λp u e=>?_},q}
 ·cases e:X.s₀.heap.get? b with
  |none=>rfl
  | some o=>
    obtain⟨y,j⟩:=I.base.there b o e (by rw[v];simp)
    rw[z] at j;cases j
 ·have:=(I.pin p (RD _ u)).1;rw[e,z] at this;cases this
def uO (I:Inv X pins σ H s)(j:∀b∈ch,X.s₀.heap.get? b=none/\(∃o vs,s.heap.get? b=some o/\o.data=.fields vs)/\∀p∈X.pn++pins,p.1≠b)(u:Un (fT X.stack) ch H H s.heap h')(hok:d7 X.prog X.w H h'):Inv X pins σ H {s with heap:=h'}:=by
 obtain⟨m,⟨o,es,ep,ho,hd,r⟩,hl⟩:=id I.loc;have J:X.env.locals∉ch:=λz=>by
  obtain⟨R,vs,e,d⟩:=(j _ z).2.1;rw[ho] at e;cases e;rw[hd] at d;cases d
 have F:∀x c,X.env.cells.lookup x=some c->c∉ch:=λx c e z=>by
  obtain⟨R,vs,U,d⟩:=(j _ z).2.1;obtain⟨v,o2,e2,d2⟩:=I.cell x c e;rw[e2] at U;cases U;rw[d2] at d;cases d
 have n0:∀b o,X.s₀.heap.get? b=some o->b∉ch:=λb o e z=>by rw[(j b z).1] at e;cases e
 have O:∀b o,X.s₀.heap.get? b=some o->b∉X.fs->b∉fT X.stack:=λb o e n z=>(Rg.mp (I.stkSub b z)).elim (λq=>absurd (QO e) (by rw[q];exact Nat.not_lt.mpr I.ok.above)) n
 obtain⟨sl,hL⟩:=u.any ho I.free J;have h:∀x c,X.env.cells.lookup x=some c->∀v,s.heap.IsCell c v->h'.IsCell c v:=λx c e v ⟨o,ho,hd⟩=>by
  obtain⟨sl,q⟩:=u.any ho (I.freeC x c e) (F x c e);exact{_,q,hd}
 refine{I.ok,I.os,I.bare,{λb o e n B y=>?_,λb o e n B y=>?_,I.base.free,λb o e y=>?_,I.base.tups,I.base.frzs,I.base.tbls},{m,{_,es,ep,hL,hd,r},λi x v e1 e2 e3=>?_},λx c e=>?_,I.free,I.freeC,λp W=>?_,hok,I.len}
 ·exact u.keep b o (I.base.keep b o e n B y) (I.base.free b o e n y) (O b o e B) (n0 b o e)
 ·obtain⟨sl,e1⟩:=I.base.slot b o e n B y;obtain⟨S,e2⟩:=u.any e1 (I.base.free b o e n y) (n0 b o e);exact⟨S,e2⟩
 ·obtain⟨R,e1⟩:=I.base.there b o e y;exact u.there b R e1 (n0 b o e)
 ·obtain⟨u',r',l⟩:=hl i x v e1 e2 e3;refine{u',r',?_};rcases l with l|⟨k,c,e,z⟩
  ·exact .inl l
  ·exact .inr {k,c,e,h x c e _ z}
 ·obtain⟨v,z⟩:=I.cell x c e;exact{v,h x c e v z}
 ·obtain⟨e,n,ne,Y,d⟩:=I.pin p W;exact{u.keep p.1 p.2 e n (λz=>(Rg.mp (I.stkSub _ z)).elim ne Y) λz=>(j _ z).2.2 p W rfl,n,ne,Y,d}
def AR (I:Inv X pins σ H s)(J:X.ex=[])(hn:H a=none)(O:X.s₀.heap.get? a=none)(hf:∃ob vs,s.heap.get? a=some ob/\ob.data=.fields vs)(R:∀p∈X.pn++pins,p.1≠a)(new:eA X.prog X.w (upd H a o) s.heap a o):Inv X pins σ (upd H a o) s:=by
 obtain⟨ob,vs,j,hd⟩:=hf;have ne:∀b u,H b=some u->b≠a:=λb u e=>aP e hn;refine{I.ok,I.os,I.bare,{I.base.keep,I.base.slot,λb o e n J=>?_,I.base.there,λb xs e=>?_,λb o u e=>?_,λb ps e=>?_},I.loc,I.cell,?_,λx c e=>?_,λp y=>?_,λb u e=>?_,I.len}
 ·rw[av (λz=>by rw[z,O] at e;cases e)];exact I.base.free b o e n J
 ·have q:=I.base.tups b xs e;rw[av (ne b _ q)];exact q
 ·have q:=I.base.frzs b o u e;rw[av (ne b _ q)];exact q
 ·obtain⟨m,q⟩:=I.base.tbls b ps e;exact{m,by rw[av (ne b _ q)];exact q}
 ·obtain⟨m,⟨Y,U,S,ho,h,_⟩,_⟩:=id I.loc;rw[av (λz=>by rw[z,j] at ho;cases ho;rw[hd] at h;cases h)];exact I.free
 ·obtain⟨v,W,e2,B⟩:=I.cell x c e;rw[av (λz=>by rw[z,j] at e2;cases e2;rw[hd] at B;cases B)];exact I.freeC x c e
 ·obtain⟨e,n,r⟩:=I.pin p y;exact{e,by rw[av (R p y)];exact n,r}
 ·by_cases F:b=a
  ·subst F;rw[bG] at e;cases e;exact new
  ·rw[av F] at e;exact(I.hok b u e).stay (λc v _ q=>q) (λc q=>by rw[av (ne c _ q)];exact q) λc xs q=>by rw[av (ne c _ q)];exact q
end
def dS {h:Type}(r:Res h)(k:h->Mem->Prop)(j:D->Mem->Prop):Prop:=match r with
 |.ok a M=>k a M
 |.err x M=>j x M
 |.bad=>False
def Al {j:Type}{r:Res j}{k:j->Mem->Prop}{u:D->Mem->Prop}(h:ae r k):dS r k u:=by
 cases r with
 |ok a M=>exact h
 |err=>exact h.elim
 |bad=>exact h
def Fu (fa:Fa)(K:Qr)(μ:Mu)(H:Hp)(E:XK)(x:D)(M':Mem):Prop:=∀C dx c p H' h,Ext μ H h H'->RelM fa K h H' M'->x=.exc c p->fa (eY c)=some C->rn H' c dx p->E (.ref C) dx H'
def pI:Passes (iH P w) X E0:=λ_ _ _ _ _ _ _ h=>let{_,_,_,_,_,_,_,_,_,_,z}:=h;z.elim
def tW (fa:Fa)(K:Qr)(k:Nat)(call:List D->Mem->Res D):Sp:=λu H Q E=>u.length=k/\∃h M j,RelM fa K h H M/\aD fa K h H j u/\dS (call j M) (aW fa K h H Q) (Fu fa K h H E)
def dZ (fa:Fa)(P:Rv)(w:Rf)(K:Qr)(mg:Str->Option Qt)(base:Heap)(n:Nat)(f:Nat)(call:List D->Mem->Res D):Prop:=
 (∀h M,call h M=.bad)\/∃(ad:Addr) (j:FuncData) (ps:List Str),fa f=some ad/\PySem.W.keepIn K (.ref ad)=true/\Binds K j ps []/\(∀h M,h.length≠ps.length->call h M=.bad)/\hD P w K mg base (iH P w) (2*n+4) ad j ps (tW fa K ps.length call)/\((fa (500+f)).isSome=true->Binds K j ps [.none])
section
variable{fa:Fa}{X:Cx}{a b d:Expr}{ga gb gd:Env->Mem->Res D}{pos p:Pos}{es:List Expr}{gs:Env->Mem->Res (List D)}{n:Nat}
def Bj {call:List D->Mem->Res D}{r:Res (List D)}(j:∀ds M,call ds M=.bad)(h:ae (r.bind λds M=>call ds M) P):False:=by
 obtain⟨ds,M,_,q⟩:=aC h;rw[j] at q;exact q
def sq {call:List D->Mem->Res D}(v:a8 fa X.K μ H σ Z)(z:RelM fa X.K μ H M)(h:ae ((gs Z M).bind λds M=>call ds M) (aW fa X.K μ H Q))
 (hk:∀ds M1,ds.length≠k->call ds M1=.bad):Em (tW fa X.K k call) [] E0 (tA fa X.K gs) σ H Q:=by
 refine rL v z h λds M1 F E u B y j r1 h1=>?_;rw[Q8];refine{?_,u,M1,ds,j,r1,Al (kj h1 B)};rw[r1.length];by_cases hl:ds.length=k
 ·exact hl
 ·rw[hk ds M1 hl] at h1;exact h1.elim
def LX {call:List D->Mem->Res D}(C:dZ fa X.prog X.w X.K X.mg X.base n f call)(hr:bP (2*n+4) X.A)(E:Gl X x)(hm:∀ad,fa f=some ad->X.mg x=some (.ref ad))(hs:DA fa X (a::es) gs)
 (j:(x==("__debug__":Str))=false) (he:starEach (a::es) X.env=(false,eval a X.env)::starEach es X.env) (u:(backTo pos (starEach es X.env)).any (·.1)=false) :
 DE fa X (.Call (.Name x p) (a::es) [] pos) (λZ M=>(gs Z M).bind λds M=>call ds M):=by
 rcases C with B|⟨ad,O,ps,h1,h2,h3,h4,F,_⟩
 ·exact λz s L H Q I ⟨J,Z,M,v,y,h⟩=>(Bj B h).elim
 ·exact a9 (G9 F hr E (hm ad h1) h2 h3 .nil pI hs j he u) λL H Q ⟨J,Z,M,v,y,h⟩=>sq v y h h4
def Ic {i:Nat}{x:Str}{call:Nat->List D->Mem->Res D}(C:∀f,dZ fa X.prog X.w X.K X.mg X.base n f (call f))(hr:bP (2*n+4) X.A)(hN:X.N[i]?=some x)(hv:Bp X.env.scope x)(hs:DA fa X (a::es) gs)
 (hd:(x==("__debug__":Str))=false) (z:(x==("__classdict__":Str))=false) (he:starEach (a::es) X.env=(false,eval a X.env)::starEach es X.env) (B:(backTo pos (starEach es X.env)).any (·.1)=false) :
 DE fa X (.Call (.Name x p) (a::es) [] pos) (λZ M=>match Z[i]?.getD none with|some (.fn f)=>(gs Z M).bind λds M=>call f ds M|_=>.bad):=by
 intro y s R H Q I ⟨μ,Z,M,P,hM,h⟩;dsimp only at h;cases e:Z[i]?.getD none with
 |none=>rw[e] at h;exact h.elim
 | some df=>
   cases df with
   | fn f=>
     rw[e] at h;have e':Z[i]?=some (some (.fn f)):=by
      cases q:Z[i]? with
      |none=>rw[q] at e;cases e
      |some o=>rw[q] at e;simp at e;rw[e]
     obtain⟨v,E,J⟩:=P.at' i _ e';obtain⟨ad,rfl,j⟩:=J;rcases C f with hb|⟨Y,fd,ps,h1,h2,h3,h4,F,_⟩
     ·exact(Bj hb h).elim
     ·rcases j with j|⟨j,_⟩<;>rw[j] at h1<;>cases h1
      refine wpAny_Call_Name_kw (aO (Ag hN hv hd z y s R H (λv S=>v=.ref ad/\S=H) I {_,E,rfl,rfl}) λu s1 ⟨v,U,L,r1,e1,e2⟩=>?_);subst e1 e2;obtain rfl:u=Value.ref ad:=r1;refine Sn L.ok.mod.kin h2 (aO (hs pos y s1 R U _ L (sq P hM h h4)) λus s2 ⟨vs,H2,O,r,q⟩=>{O.kIn,?_}) he B;exact pB F hr h3 .nil pI O r q
   |_=>rw[e] at h;exact h.elim
def yy (f:xr){id:String}(I:b4 X (.builtin id) (oC fa X.K f))(J:Gl X x)(hm:X.mg x=none)(L:bootBuiltins x=some (.builtin id))(hs:DA fa X (a::es) gs)(hn:x≠"__name__")(u:(x==("__debug__":Str))=false)
 (he:starEach (a::es) X.env=(false,eval a X.env)::starEach es X.env) (v:(backTo pos (starEach es X.env)).any (·.1)=false):DE fa X (.Call (.Name x p) (a::es) [] pos) (λZ M=>(gs Z M).bind λds M=>dB f ds M):=
 a9 (gm I J hm L hs hn u he v) λU H Q ⟨S,Z,M,B,F,h⟩=>rL B F h λds z R P y O E j r1 h1=>{y,z,ds,j,r1,kj h1 O}
def A6 (f:xr)(I:b4 X (.type T) (oC fa X.K f))(J:Gl X x)(hm:X.mg x=none)(L:bootBuiltins x=some (.type T))(hs:DA fa X (a::es) gs)(hn:x≠"__name__")(u:(x==("__debug__":Str))=false)
 (he:starEach (a::es) X.env=(false,eval a X.env)::starEach es X.env) (v:(backTo pos (starEach es X.env)).any (·.1)=false):DE fa X (.Call (.Name x p) (a::es) [] pos) (λZ M=>(gs Z M).bind λds M=>dB f ds M):=
 a9 (Ah I J hm L hs hn u he v) λU H Q ⟨S,Z,M,B,F,h⟩=>rL B F h λds z R P y O E j r1 h1=>{y,z,ds,j,r1,kj h1 O}
def LR (t:Ty)(R:∀c,t≠.own c)(O:DE fa X a ga)(P:Gl X "isinstance")(hm:X.mg "isinstance"=none)(S:bootBuiltins "isinstance"=some (.builtin "isinstance"))(y:Gl X x)(z:X.mg x=none)(B:bootBuiltins x=some (.type (tyName t)))
 (hn:x≠"__name__") (u:(x==("__debug__":Str))=false)
 (he:starEach [a,.Name x p1] X.env=(false,eval a X.env)::starEach [.Name x p1] X.env):DE fa X (.Call (.Name "isinstance" p2) [a,.Name x p1] [] pos) (λZ M=>(ga Z M).bind λx M=>(bS M (gW t x)).bind λb M=>.ok (.bl b) M):=
 a9 (gm (Lg t R) P hm S (bC O (bC (wm y z B (v:=.ty (tyName t)) rfl hn u) cY `r) he) `d `d he `r) λσ H Q ⟨Y,Z,M,I,L,h⟩=>t1 I L h λx F v W E U J j r1 h1=>by
  obtain⟨b,e,q⟩:=pM h1;exact{E,F,x,v,b,rfl,j,r1,e,aQ j (q.ext U) rfl}
def gT (fa:Fa)(K:Qr)(t:fK):TG:=λv z H Q=>∃u y M d h,a8 fa K u H z y/\RelM fa K u H M/\Rep fa K u H d v/\bU t d y=some h/\∀j,a8 fa K u H j h->Q j H
def ui (h:PG X tg g)(i:∀v y H Q,g' v y H Q->g v y H Q):PG X tg g':=λj s y H v u Q I r q=>h j s y H v u Q I r (i v y H Q q)
def wj (h:vE X tg g)(i:∀v y H Q,g' v y H Q->g v y H Q):vE X tg g':=λj s y H v u Q I r q=>h j s y H v u Q I r (i v y H Q q)
def HY (u:X.N.Nodup)(hi:X.N[i]?=some x)(y:Loc X.env.scope x)(hf:X.fn x=true\/X.env.scope.names.lookup x=some .local):PG X (.Name x pos) (gT fa X.K (.one i)):=
 ui (qD u hi y hf) λv I H Q ⟨E,F,M,d,z,j,B,r,e,k⟩=>by
  have h:=Qz e;subst h;exact k _ (j.set r)
def Lb (fa:Fa)(K:Qr)(l:List Nat):xo:=λz B H Q=>∃u y M v h,a8 fa K u H B y/\RelM fa K u H M/\aD fa K u H v z/\cL l v y=some h/\∀j,a8 fa K u H j h->Q j H
inductive iZ (X:Cx):List Nat->List Expr->Prop
 |nil:iZ X [] []
 |cons {i:Nat}{x:Str}{p:Pos}{l:List Nat}{ns:List Expr} (hi:X.N[i]?=some x) (hx:Loc X.env.scope x) (hf:X.fn x=true\/X.env.scope.names.lookup x=some .local) (r:iZ X l ns):iZ X (i::l) (.Name x p::ns)
set_option tactic.hygienic true in
def iZ.each (h:iZ X l ns):(assignEach ns X.env).length=l.length/\(assignEach ns X.env).findIdx? (·.1)=none:=by
 induction h with
 |nil=>exact⟨rfl,rfl⟩
 | cons u v hf r j=>
   rename_i i x p l ns;have e:assignEach (.Name x p::ns) X.env=(false,assign (.Name x p) X.env)::assignEach ns X.env:=rfl;rw[e];refine{by simp[j.1],?_}
   rw[List.findIdx?_cons];simp[j.2]
def u3 (I:X.N.Nodup)(h:iZ X l ns):vE X ns (Lb fa X.K l):=by
 induction h with
 | nil=>
   refine wj wh λB R H Q ⟨E,P,M,j,u,y,z,r,e,k⟩=>?_;cases j with
   | nil=>
     obtain rfl:B=[]:=r;have F:=Qz e;subst F;exact{rfl,k _ y}
   |cons=>cases e
 | cons J L hf r O=>
   refine wj (oG (qD I J L hf) O `r) λB R H Q ⟨E,P,M,j,u,y,z,r,e,k⟩=>?_
   cases j with
   |nil=>cases e
   | cons d j=>
     obtain⟨v,vr,rfl,r1,r2⟩:=r;exact{v,vr,rfl,E,_,M,j,u,y.set r1,z,r2,e,k}
def iK:∀{l:List Nat}{ds:List D}{Z ρ1:Env},cL l ds Z=some ρ1->ds.length=l.length
 |[],[],_,_,_=>rfl
 |_::_,[],_,_,h=>by cases h
 |[],_::_,_,_,h=>by cases h
 | _::l,_::ds,_,_,h=>by
   have:=iK (ds:=ds) h;simp[this]
def LL (E:X.calm=true)(B:X.N.Nodup)(h:iZ X l ns):PG X (.Tuple ns k pos) (gT fa X.K (.tup l)):=
 ui (uh E (u3 B h) h.each.1 h.each.2) λv O H Q ⟨J,L,M,d,j,y,z,r,e,k⟩=>by
  cases d with
  | tup u=>
    obtain⟨a,I,rfl,F,r⟩:=r;exact{a,I,rfl,F,by rw[r.length];exact iK e,J,L,M,u,j,y,z,r,e,k}
  |_=>cases e
set_option tactic.hygienic true in
def vk {d:D}(h:bU (.two j l) d Z=some ρ1):∃e ds,d=.tup [e,.tup ds]/\cL l ds (Z.set j (some e))=some ρ1:=by
 unfold bU at h;split at h
 ·next e=>cases e
 ·next e=>cases e
 ·next e=>cases e;exact{_,_,rfl,h}
 ·cases h
 ·cases h
def LK (E:X.calm=true)(B:X.N.Nodup){ns:List Expr}(hi:X.N[i]?=some x)(R:Loc X.env.scope x)(hf:X.fn x=true\/X.env.scope.names.lookup x=some .local)(h:iZ X l ns):PG X (.Tuple [.Name x px,.Tuple ns k2 p2] k pos) (gT fa X.K (.two i l)):=
 ui (uh E (oG (qD B hi R hf) (oG (uh E (u3 B h) h.each.1 h.each.2) wh))) λv σ H Q ⟨Y,Z,M,d,y,L,O,r,e,k⟩=>by
  obtain⟨I,J,rfl,e⟩:=vk e;obtain⟨a,vs,rfl,P,S,U,rfl,r0,v1,u,rfl,r1,r2⟩:=r;obtain rfl:u=[]:=r2;obtain⟨b,W,rfl,j,F⟩:=r1;exact{a,_,rfl,P,rfl,S,_,rfl,.ref b,[],rfl,b,W,rfl,j,by rw[F.length];exact iK e,Y,Z.set i (some I),M,J,y,L.set r0,O,F,e,λz h1=>{rfl,k z h1}}
end
section
variable{fa:Fa}{X:Cx}{a b d:Expr}{ga gb gd:Env->Mem->Res D}{pos p:Pos}{es:List Expr}{gs:Env->Mem->Res (List D)}{n:Nat}
def LC (O:DE fa X a ga)(P:PG X tg (gT fa X.K t))(hs:swapsWithSole [tg] a pos.line X.env=pure false)(Q:swappedStores [tg] a X.env=pure none)(h1:(assignEach [tg] X.env).map (·.2)=[assign tg X.env]) :
 DS fa X (.Assign [tg] a pos) (λZ M=>(ga Z M).bind λx M=>(bS M (bU t x Z)).bind λρ1 M=>.ok (.next ρ1) M):=
 dh (pF O P hs Q h1) λD Y H ⟨W,Z,M,J,L,h⟩=>t1 J L h λx I v F u R z j r1 h1=>by
  obtain⟨ρ1,U,e,q⟩:=aC h1;cases y:bU t x Z with
  |none=>rw[y] at e;cases e
  | some S=>
    rw[y] at e;cases e;exact{u,Z,I,x,ρ1,z,j,r1,y,λE B=>q E F u R B j}
def l7 {y:Ends}{ad:Addr}(z:a8 fa X.K μ H σ Z)(v:RelM fa X.K μ H M)(hk:μ.pub k=some ad)(r:aD fa X.K μ H ds ws)
 (q:∀j u h,Ext μ H h u->a8 fa X.K h u j Z->RelM fa X.K h u (M.set k ds)->y.nx j u):y.nx σ (upd H ad (.lst ws)):=
 q σ _ μ (Ext.write (vs:=ws) v hk) (z.ext (Ext.write (vs:=ws) v hk)) (v.write hk r)
def Lx (ha:DE fa X a ga)(hb:DE fa X b gb)(hd:DE fa X d gd){p2:Pos}
 (h0:∀v,assign (.Subscript a b p2) X.env v=(do
  let B <- holding [v] (eval a X.env)
  let L <- holding [v,B] (eval b X.env)
  standAt p2
  holding [v,B,L] (setItem B L v)
  release [v,B,L] [])) (hs:swapsWithSole [.Subscript a b p2] d pos.line X.env=pure false) (hw:swappedStores [.Subscript a b p2] d X.env=pure none) (h1:(assignEach [.Subscript a b p2] X.env).map (·.2)=[assign (.Subscript a b p2) X.env]) :
 DS fa X (.Assign [.Subscript a b p2] d pos) (λZ M=>(gd Z M).bind λz M=>(ga Z M).bind λx M=>(gb Z M).bind λy M=>match x,y with
  | .cell k,.int n=>match M[k]? with
    | some ds=>match bT ds.length n with
      |some j=>.ok (.next Z) (M.set k (ds.set j z))
      |none=>.bad
    |none=>.bad
  |_,_=>.bad):=
 dh (pF hd (Af ha hb set_list h0) hs hw h1) λU σ H ⟨μ,Z,M,hE,hM,h⟩=>t1 hE hM h λz M1 v H1 μ1 x1 F J r1 h1=>t2 F J h1 λx y M2 vx vy Y μ2 S I u rx ry h2=>by
  have O:∀k n,x=.cell k->y=.int n->Eu vx vy v Y λH3=>U.nx σ H3:=λk n e1 e2=>by
   subst e1 e2;dsimp only at h2;cases e:M2[k]? with
   |none=>rw[e] at h2;exact h2.elim
   | some ds=>
     rw[e] at h2;dsimp only at h2;cases E:LD.bT ds.length n with
     |none=>rw[E] at h2;exact h2.elim
     | some j=>
       rw[E] at h2;obtain⟨ad,rfl,hk⟩:=rx;obtain⟨ws,h4,R⟩:=u.at_ e hk;have q:=h2;refine{ad,ws,n,j,rfl,ry,h4,by rw[R.length];exact E,l7 I u hk (R.set j (r1.ext S)) λQ W P x' e' m'=>q Q W P ((x1.trans S).trans x') e' m'}
  cases x with
  | cell k=>cases y with
    |int n=>exact O k n rfl rfl
    |_=>exact h2.elim
  |_=>exact h2.elim
set_option tactic.hygienic true in
def LF (ha:DE fa X a ga)(hd:DE fa X d gd){j u:Pos}(v:attributeBase a "append" X.env (eval a X.env)=eval a X.env)(y:(j.endLine==u.line)=true)(hs:starEach [d] X.env=[(false,eval d X.env)])
 (O:swapsWith (.Call (.Attribute a "append" j) [d] [] u) none pos.line X.env=pure false) :
 DS fa X (.Expr (.Call (.Attribute a "append" j) [d] [] u) pos) (λZ M=>(ga Z M).bind λx M=>(gd Z M).bind λz M=>match x with
  | .cell k=>match M[k]? with
    |some ds=>if ds.length<sz then .ok (.next Z) (M.set k (ds++[z])) else .bad
    |none=>.bad
  |_=>.bad):=
 dh (nj (sU Se PySem.F.slot_list_append PySem.F.type_list_append my ha (bC hd cY hs) v (by rw[hs];rfl) y hs `r) O) λD' σ H ⟨μ,Z,M,J,hM,h⟩=>by
  obtain⟨x,M1,e1,h1⟩:=aC h;obtain⟨z,M2,e2,h2⟩:=aC h1;cases x with
  | cell k=>
    dsimp only at h2;cases e:M2[k]? with
    |none=>rw[e] at h2;exact h2.elim
    | some ds=>
      rw[e] at h2;dsimp only at h2;split at h2
      ·next hz=>
       have q:=h2;refine{μ,Z,M,J,hM,?_};rw[e1];intro vx H1 S Q B rx;obtain⟨ad,rfl,hk⟩:=rx;obtain⟨ds1,P,_,L,_⟩:=B.mu_lt hk;refine{.inl {rfl,P,cF.of L},S,Z,M1,J.ext Q,B,?_};rw[e2];intro vz H2 μ2 I E rz;obtain⟨ws,h4,W⟩:=E.at_ e (I.mu k ad hk);refine{ad,ws,vz,rfl,rfl,h4,by rw[W.length,<- dE];exact hz,?_}
       exact l7 ((J.ext Q).ext I) E (I.mu k ad hk) (W.append (.one rz)) λU Y R x' e' m'=>q U Y R ((Q.trans I).trans x') e' m'
      ·exact h2.elim
  |_=>exact h2.elim
def Nm (F:DE fa X a ga)(hs:swapsWith a none pos.line X.env=pure false):DS fa X (.Expr a pos) (λZ M=>(ga Z M).bind λ_ M=>.ok (.next Z) M):=
 dh (nj F hs) λL J H ⟨P,Z,M,B,E,h⟩=>t1 B E h λx O v z y I j u r1 h1=>h1 J z y I j u
def Lw (v:DE fa X a ga):DS fa X (.Return (some a) pos) (λZ M=>(ga Z M).bind λx M=>.ok (.ret x) M):=
 dh (Aa v) λz E H ⟨y,Z,M,j,u,h⟩=>by
  obtain⟨x,B,e,q⟩:=aC h;refine{y,Z,M,j,u,?_};rw[e];exact q
def HL:DS fa X (.Return none pos) (λ_ M=>.ok (.ret .non) M):=dh G0 λu B H ⟨y,z,M,v,j,h⟩=>aQ j h rfl
def HM:DS fa X (.Pass pos) (λZ M=>.ok (.next Z) M):=dh G1 λz y H ⟨v,Z,M,j,u,h⟩=>h y H v .refl j u
def LB {st:Stmt}:DS fa X st (λ_ _=>.bad):=λj s E H u I ⟨z,B,M,v,y,h⟩=>h.elim
set_option tactic.hygienic true in
def mZ.ext (x:Ext μ H μ' H')(q:mZ fa X μ H D' fl M):mZ fa X μ' H' D' fl M:=by
 cases fl with
 |next u=>exact λv j h y e m=>q v j h (x.trans y) e m
 |ret d=>exact aW.ext q x
 |exc z u=>exact XW.ext q x
def Kn (x:Ext μ H μ' H')(h:ae r (mZ fa X μ H D')):ae r (mZ fa X μ' H' D'):=aM h λfl M q=>q.ext x
def Ly {st z:List Stmt}(I:DT fa X c gc)(J:jE fa X st gt)(hf:jE fa X z gf):DS fa X (.If c st z pos) (λZ M=>(gc Z M).bind λk M=>if k then gt Z M else gf Z M):=
 dh (MJ I J hf) λL Q H ⟨P,Z,M,E,F,h⟩=>zt E F h λk y O v B j u h1=>by
  cases k with
  |true=>exact{v,Z,y,j,u,Kn B h1}
  |false=>exact{v,Z,y,j,u,Kn B h1}
def HK:jE fa X [] (λZ M=>.ok (.next Z) M):=wg GZ λz y H ⟨v,Z,M,j,u,h⟩=>h y H v .refl j u
set_option tactic.hygienic true in
def Dl {st:Stmt}(h1:DS fa X st g)(h2:jE fa X ss g'):jE fa X (st::ss) (λZ M=>(g Z M).bind λfl M=>match fl with
 |.next Z=>g' Z M
 |fl=>.ok fl M):=
 wg (Cy h1 h2) λL P H ⟨I,Z,M,B,E,h⟩=>by
  obtain⟨fl,z,e,q⟩:=aC h;refine{I,Z,M,B,E,?_};rw[e];cases fl with
  |next j=>exact λJ O y F u v=>{y,j,z,u,v,Kn F q}
  |ret d=>exact q
  |exc x j=>exact q
end
def dC (fa:Fa)(K:Qr)(μ0:Mu)(H0:Hp)(w:Walk)(J:It):Prop:=
 ∀(h:Mu) (H:Hp) (M:Mem) (u:List D),ExtW μ0 H0 h H->RelM fa K h H M->w M=some u->(∀(i:Nat) (d:D),u[i]?=some d->J.go i H/\∀x j,J.yld i H x j->Ext h H h j/\RelM fa K h j M/\Rep fa K h j d x)/\∀i,u.length<=i->J.stop i H
def tI (fa:Fa)(K:Qr)(g:Env->Mem->Res Walk):TI:=λz H R=>∃u v M,a8 fa K u H z v/\RelM fa K u H M/\ae (g v M) λw y=>∀J j h,Ext u H h j->RelM fa K h j y->dC fa K h j w J->R J j
abbrev DI (fa:Fa)(X:Cx)(tg h:Expr)(g:Env->Mem->Res Walk):Prop:=PI X tg h (tI fa X.K g)
def rE {K:Qr}(h:dC fa K μ0 H0 w J)(x:ExtW μ0 H0 μ1 H1):dC fa K μ1 H1 w J:=λv H M j y u e=>h v H M j (x.trans y) u e
section
variable{fa:Fa}{X:Cx}{tg a b d:Expr}{ga gb gd:Env->Mem->Res D}{pos p:Pos}{es:List Expr}{n:Nat}
def yX {ad:Addr}(h:Rep fa X.K μ0 H0 dd (.ref ad)):dC fa X.K μ0 H0 (λM=>ff M dd) (Mh X.K ad):=λP H M O x u e=>by
 obtain⟨B,j,E,s,r⟩:=bw u (Rep.extW x h) e;cases E;refine{λi d hd=>?_,λi F=>{j,s,by rw[r.length];exact F}}
 obtain⟨v,z,J⟩:=r.get hd;refine{⟨j,v,s,z⟩,λy L ⟨e,I⟩=>?_};subst e;have:=I j s;rw[z] at this;cases this;exact{.refl,u,J}
def BB {ad:Addr}(h:Rep fa X.K μ0 H0 (.tup ds) (.ref ad)):dC fa X.K μ0 H0 (λ_=>some ds) (Mg X.K ad):=λP H M B x F E=>by
 cases E;obtain⟨z,j,e,s,r⟩:=Rep.extW x h;cases e;refine{λi d hd=>?_,λi I=>{j,s,by rw[r.length];exact I}}
 obtain⟨v,u,L⟩:=r.get hd;refine{⟨j,v,s,u⟩,λy O ⟨e,J⟩=>?_};subst e;have:=J j s;rw[u] at this;cases this;exact{.refl,F,L}
def BC (lo:Int)(n:Nat):dC fa X.K μ0 H0 (λ_=>some ((List.range n).map λ(k:Nat)=>D.int (lo+(k:Int)))) (FA lo n):=λz H M v x j e=>by
 cases e;refine{λi d hd=>?_,λi h=>(show n<=i by simpa using h)}
 rw[QX] at hd;by_cases h:i<n
 ·rw[SU h] at hd;have e:=Qz hd;subst e;refine{h,λy u ⟨e1,e2⟩=>?_};subst e1 e2;exact{.refl,j,rfl}
 ·rw[SK (by simpa using h)] at hd;cases hd
def cZ (ga:Env->Mem->Res D):Env->Mem->Res Walk:=λj M=>(ga j M).bind λx M=>match x with
 |.lst h=>.ok (λ_=>some h) M
 |.tup h=>.ok (λ_=>some h) M
 |.frz h=>.ok (λ_=>some h) M
 |.cell k=>.ok (λM=>M[k]?) M
 |_=>.bad
def LJ (Y:DE fa X a ga):DI fa X tg a (cZ ga):=λu s S H R I ⟨Q,Z,M,U,W,h⟩=>by
 obtain⟨x,L,e,q⟩:=aC h;have lst:(∀j B,RelM fa X.K j B L->∀v,Rep fa X.K j B x v->∃y,ff L x=some y)->(∀J B j,Ext Q H j B->RelM fa X.K j B L->dC fa X.K j B (λM=>ff M x) J->R J B)->
  wpAny (model X.prog X.w) X.A (eval a X.env) (λv s1=>wpAny (model X.prog X.w) X.A (pyIter v) (Me X u S tg R) X.xe s1) X.xe s:=λhx q=>by
  refine G6 Y u s S H R I {Q,Z,M,U,W,?_};rw[e];intro v F z P E r1;obtain⟨y,er⟩:=hx z F E v r1;obtain⟨ad,O,rfl,s1,r⟩:=bw E r1 er;exact{ad,rfl,⟨O,s1⟩,q _ F z P E (yX r1)}
 cases x with
 |lst y=>exact lst (λ_ _ _ _ _=>⟨y,rfl⟩) q
 |frz y=>exact lst (λ_ _ _ _ _=>⟨y,rfl⟩) q
 | tup y=>
   refine J3 Y u s S H R I {Q,Z,M,U,W,?_};rw[e];intro v F z P E r1;obtain⟨ad,O,rfl,s1,r⟩:=id r1;exact{ad,rfl,⟨O,s1⟩,q _ F z P E (BB r1)}
 |cell k=>exact lst (λj B m' v ⟨ad,_,hk⟩=>let{y,_,e,_}:=m'.mu_lt hk;⟨y,e⟩) q
 |_=>exact q.elim
def dX (ga:Env->Mem->Res D):Env->Mem->Res Walk:=λh M=>(ga h M).bind λx M=>match x with
 |.int n=>if -(2^62)<=n/\n<2^62 then .ok (λ_=>some ((List.range n.toNat).map λ(k:Nat)=>D.int (k:Int))) M else .bad
 |_=>.bad
set_option tactic.hygienic true in
def HW (J:DE fa X a ga)(L:Gl X "range")(hm:X.mg "range"=none)(hs:starEach [a] X.env=[(false,eval a X.env)]):DI fa X tg (.Call (.Name "range" p) [a] [] pos) (dX ga):=λj s P H R I ⟨S,U,M,B,F,h⟩=>by
 refine Ae L hm (bC J cY hs) hs j s P H R I ?_;refine t1 B F h λx Q v z u O E y r1 h1=>?_;cases x with
 | int n=>
   dsimp only at h1;split at h1
   ·next c=>
    obtain rfl:v=.int n:=r1;refine{n,rfl,c.1,c.2,h1 _ z u O y ?_};have:=BC (fa:=fa) (X:=X) (μ0:=u) (H0:=z) 0 n.toNat;simpa using this
   ·exact h1.elim
 |_=>exact h1.elim
def fY (t:fK)(gb:Env->Mem->Res Fl):Fl->D->Mem->Res Fl:=λfl d M=>match fl with
 |.next j=>(bS M (bU t d j)).bind λh M=>gb h M
 |fl=>.ok fl M
noncomputable def Fl.out:Fl->Bool
 |.next _=>false
 |_=>true
set_option tactic.hygienic true in
theorem lh {gb:Env->Mem->Res Fl}(ho:fl.out=true):∀(n i:Nat) (M:Mem),ae (fZ (fY t gb) w n i fl M) P->P fl M
 |0,_,_,h=>h.elim
 | n+1,i,M,h=>by
   unfold fZ at h;cases e:w M with
   |none=>rw[e] at h;exact h.elim
   | some j=>
     rw[e] at h;dsimp only at h;cases e2:j[i]? with
     |none=>rw[e2] at h;exact h
     | some v=>
       rw[e2] at h;cases fl with
       |next u=>cases ho
       |ret d=>exact lh ho n (i+1) M h
       |exc x u=>exact lh ho n (i+1) M h
def tL (fa:Fa)(X:Cx)(g:Env->Mem->Res Fl):TS:=λD h H=>(∀h H,D.nx h H->D.ct h H)/\tF fa X g D h H
abbrev Ow (fa:Fa)(X:Cx)(st:List Stmt)(g:Env->Mem->Res Fl):Prop:=kG X st (tL fa X g)
def Np {body:List Stmt}{gb:Env->Mem->Res Fl}(h:jE fa X body gb):Ow fa X body gb:=λj s u H D I q=>h j s u H D I q.2
set_option tactic.hygienic true in
def Lz {gw:Env->Mem->Res Walk}{gb:Env->Mem->Res Fl}(hp:PassesOwn (model X.prog X.w) X.A X.env X.xe)(hc:X.calm=true)(hi:DI fa X tg a gw)(hg:PG X tg (gT fa X.K t))(hb:Ow fa X body gb)
 (hs:∀x,foldedSetIterable a X.env x=pure x):DS fa X (.For tg a body [] pos) (λZ M=>(gw Z M).bind λw M=>cU (fY t gb) w (.next Z) M):=
 dh (J0 hp hc hi hg hb hs) λD' σ H ⟨μ,Z,M,hE,hM,h⟩=>by
  obtain⟨w,M1,e,q⟩:=aC h;refine{μ,Z,M,hE,hM,?_};rw[e];intro J H1 I x1 hM1 wk;have hE1:=hE.ext x1;refine{λi m E F=>∃j u L,Ext I H1 j F/\a8 fa X.K j F E u/\RelM fa X.K j F L/\ae (fZ (fY t gb) w m i (.next u) L) (mZ fa X μ H D'),
   {_,I,Z,M1,.refl,hE1,hM1,q},?_}
  rintro i m σ2 H2 ⟨B,S,M2,R,O,P,v⟩;cases m with
  |zero=>exact v.elim
  | succ m=>
    unfold fZ at v;cases e2:w M2 with
    |none=>rw[e2] at v;exact v.elim
    | some ds=>
      rw[e2] at v;dsimp only at v;obtain⟨go,stop⟩:=wk B H2 M2 ds R.toExtW P e2;cases ed:ds[i]? with
      | none=>
        rw[ed] at v;exact .inl {stop i (List.getElem?_eq_none_iff.mp ed),v σ2 H2 B (x1.trans R) O P}
      | some d=>
        rw[ed] at v;obtain⟨g1,g2⟩:=go i d ed;refine .inr {g1,λE F=>∃j u L,Ext I H1 j F/\a8 fa X.K j F E u/\RelM fa X.K j F L/\ae (fZ (fY t gb) w m (i+1) (.next u) L) (mZ fa X μ H D'),λE F z=>{m,`a,z},λy H3 hy=>?_}
        obtain⟨x3,Q,r3⟩:=g2 y H3 hy;obtain⟨fl,M4,e4,q4⟩:=aC v;obtain⟨U,M5,Y,e6⟩:=eR e4;cases eb:bU t d S with
        |none=>rw[eb] at Y;cases Y
        | some ρ5=>
          rw[eb] at Y;cases Y;refine{B,S,_,d,U,O.ext x3,Q,r3,eb,λσ5 hE5=>{λ_ _ z=>z,B,U,_,hE5,Q,?_}};rw[e6];cases fl with
          |next W=>exact λσ6 H6 μ6 x6 hE6 hM6=>{μ6,W,M4,(R.trans x3).trans x6,hE6,hM6,q4}
          |ret d6=>exact(lh rfl m (i+1) M4 q4).ext ((x1.trans R).trans x3)
          |exc x6 W=>exact(lh rfl m (i+1) M4 q4).ext ((x1.trans R).trans x3)
end
abbrev FF:Qt->QC->Prop:=λ_ _=>False
section
variable{prog:Rv}{w:Rf}{A:R9}{s:QC}
def A9
 (J:compTurn ce k it acc env=(standAt p >>= λ_=>pyNext it >>= λr=>match r with
  |none=>pure (.done .next)
  |some v=>letOwnedTupleGo target it v >>= λ_=>assign target env v >>= λ_=>body >>= λ_=>again (.compLoop ce k it acc env)))
 (hd:(model prog w).den (.compLoop ce k it acc env)=(compTurn ce k it acc env).onRaise (λx=>do noteFrame x env;theTreesLotGoes x)/\A.under (.compLoop ce k it acc env)=A) (I:Nat->QC->Prop)
 (turn:∀n s,I n s->wpAny (model prog w) A (pyNext it) (λr j=>match r with
  |none=>R (.ok .next) j
  |some v=>wpAny (model prog w) A (letOwnedTupleGo target it v) (λ_ y=>wpAny (model prog w) A (assign target env v) (λ_ z=>wpAny (model prog w) A body (λ_ B=>∃m,m<n/\I m B) FF z) FF y) FF j) FF s)
 (n:Nat) (h:I n s):codeAny (model prog w) A (.compLoop ce k it acc env) R s:=by
 refine codeAny_loop rfl I (λn s L=>?_) n h;rw[hd.1,hd.2];refine wpAny_noted ?_;rw[J];refine wpAny_noRaise ?_;refine tqa (wpAny_standAt (tqa (aO (turn n s L) λr j u=>?_)));cases r with
 |none=>exact tqb u
 | some v=>
   refine tqa (aO u λ_ y E=>?_);exact tqa (aO E λ_ z F=>tqa (aO F λ_ B H=>tqb ⟨rfl,H⟩))
def BW (y h j:Expr)(B:List SH)(u:Scope)(pos:Pos)(z acc:Qt)(env:R1) :
 compTurn (.ListComp y [{h,j,[],0}] u pos) 0 z acc env=(standAt j.pos >>= λ_=>pyNext z >>= λr=>match r with
  |none=>pure (.done .next)
  |some v=>letOwnedTupleGo h z v >>= λ_=>assign h env v >>= λ_=>(eval y env >>= λx=>call (.builtin "list.append") [acc,x] >>= λ_=>pure ()) >>= λ_=>again (.compLoop (.ListComp y [{h,j,[],0}] u pos) 0 z acc env)):=`r
def turn_if (y h j c:Expr)(u:Scope)(pos:Pos)(z acc:Qt)(env:R1) :
 compTurn (.ListComp y [{h,j,[c],0}] u pos) 0 z acc env=(standAt j.pos >>= λ_=>pyNext z >>= λr=>match r with
  |none=>pure (.done .next)
  |some v=>letOwnedTupleGo h z v >>= λ_=>assign h env v >>= λ_=>(isTrue c env (eval c env) >>= λok=>if ok=true then(eval y env >>= λx=>call (.builtin "list.append") [acc,x] >>= λ_=>pure ()) else pure ()) >>= λ_=>again (.compLoop (.ListComp y [{h,j,[c],0}] u pos) 0 z acc env)):=by
 rw[compTurn_list];refine congrArg _ (funext λ_=>congrArg _ (funext λr=>?_));cases r with
 |none=>rfl
 | some v=>
   simp only[List.forIn_cons,List.forIn_nil,if_true,bind_assoc,pure_bind];refine congrArg _ (funext λ_=>congrArg _ (funext λ_=>congrArg _ (funext λok=>?_)));cases ok<;>simp
def BU (z h y t2 B:Expr)(u:Scope)(pos:Pos)(E acc:Qt)(env:R1) :
 compTurn (.ListComp z [{h,y,[],0},{t2,B,[],0}] u pos) 0 E acc env=(standAt y.pos >>= λ_=>pyNext E >>= λr=>match r with
  |none=>pure (.done .next)
  |some v=>letOwnedTupleGo h E v >>= λ_=>assign h env v >>= λ_=>(eval B env >>= λx=>standAt B.pos >>= λ_=>foldedSetIterable B env x >>= λx=>holding [x] (pyIter x) >>= λj=>runOwn (.compStart (.ListComp z [{h,y,[],0},{t2,B,[],0}] u pos) 1 j acc env) env >>= λ_=>pure ()) >>= λ_=>again (.compLoop (.ListComp z [{h,y,[],0},{t2,B,[],0}] u pos) 0 E acc env)):=by
 refine bind_congr λ_=>bind_congr λr=>?_;cases r with
 |none=>rfl
 |some v=>simp
def BV (y h u t2 B:Expr)(j:Scope)(pos:Pos)(z acc:Qt)(env:R1) :
 compTurn (.ListComp y [{h,u,[],0},{t2,B,[],0}] j pos) 1 z acc env=(standAt B.pos >>= λ_=>pyNext z >>= λr=>match r with
  |none=>pure (.done .next)
  |some v=>letOwnedTupleGo t2 z v >>= λ_=>assign t2 env v >>= λ_=>(eval y env >>= λx=>call (.builtin "list.append") [acc,x] >>= λ_=>pure ()) >>= λ_=>again (.compLoop (.ListComp y [{h,u,[],0},{t2,B,[],0}] j pos) 1 z acc env)):=by
 rfl
set_option tactic.hygienic true in
theorem lI (env:R1):∀(ns:List (Str×NameKind)) (h:List (Str×Addr)),(∀y∈ns,y.2=.free->∃c,env.cells.lookup y.1=some c)->(∀x c,h.lookup x=some c->env.cells.lookup x=some c)->
 ∃cl,(forIn ns h λ(y:Str×NameKind) (r:List (Str×Addr))=>if (y.2==NameKind.free)=true then cellOf env y.1 >>= λa=>pure (ForInStep.yield ((y.1,a)::r)) else pure (ForInStep.yield r):Sem _)=pure cl/\
  (∀x c,cl.lookup x=some c->env.cells.lookup x=some c)/\(∀x c,h.lookup x=some c->∃E,cl.lookup x=some E)/\∀y∈ns,y.2=.free->∃c,cl.lookup y.1=some c
 |[],h,_,h2=>{h,`s,h2,λx c e=>⟨c,e⟩,λy j=>nomatch j}
 | (n,k)::ns,h,h1,h2=>by
   by_cases hk:k=.free
   ·subst hk;obtain⟨a,v⟩:=h1 (n,.free) QS rfl;have lk:∀x c,((n,a)::h).lookup x=some c->env.cells.lookup x=some c:=λx c e=>by
     rw[Rw] at e;split at e
     ·next q=>cases e;rw[eq_of_beq q];exact v
     ·exact h2 x c e
    obtain⟨cl,e,p1,p2,u⟩:=lI env ns ((n,a)::h) (λy j=>h1 y (QD _ j)) lk;refine{cl,?_,p1,λx c q=>?_,λy j hf=>?_}
    ·rw[List.forIn_cons];have H:cellOf env n=pure a:=by unfold cellOf;rw[v]
     simp only[beq_self_eq_true,if_true,H];exact e
    ·by_cases B:x=n
     ·exact p2 x a (by rw[Rw,B];simp)
     ·exact p2 x c (by rw[Rw,RC.mpr B];exact q)
    ·rcases Rg.mp j with z|z
     ·subst z;exact p2 n a (by simp[Rw])
     ·exact u y z hf
   ·obtain⟨cl,e,p1,p2,u⟩:=lI env ns h (λy j=>h1 y (QD _ j)) h2;refine{cl,?_,p1,p2,λy j hf=>?_}
    ·rw[List.forIn_cons];have F:(k==NameKind.free)=false:=by simpa using hk
     simp only[F,Bool.false_eq_true,if_false];exact e
    ·rcases Rg.mp j with z|z
     ·subst z;exact absurd hf hk
     ·exact u y z hf
def qb (h:∀y∈j.names,y.2=.free->∃c,env.cells.lookup y.1=some c) :
 ∃cl,closureFor j env=pure cl/\(∀x c,cl.lookup x=some c->env.cells.lookup x=some c)/\∀y∈j.names,y.2=.free->∃c,cl.lookup y.1=some c:=by
 obtain⟨cl,e,p1,_,u⟩:=lI env j.names [] h (λx c q=>nomatch q);exact{cl,by unfold closureFor;simp only[bind_pure];exact e,p1,u}
end
noncomputable def fU (X:Cx)(own bn:List Str)(scope:Scope)(cl:List (Str×Addr))(C:Addr)(fp:List Addr)(s:QC)(H:Hp):Cx:=
 {X with N:=own++bn,s₀:=s,H₀:=H,env:=compEnvC scope cl C X.env,outer:=X.stack,ex:=fp,fn:=λx=>scope.names.lookup x==some .cell,pn:=[],xe:=FF}
set_option tactic.hygienic true in
theorem mem_of_lookup {j:Type}:∀{l:List (Str×j)}{x:Str}{k:j},l.lookup x=some k->(x,k)∈l
 |[],_,_,h=>by cases h
 | (n,b)::r,x,k,h=>by
   rw[Rw] at h;split at h
   ·next q=>cases h;rw[eq_of_beq q];exact QS
   ·exact QD _ (mem_of_lookup h)
set_option tactic.hygienic true in
theorem gL {env:R1}:∀{j:List (Str×NameKind)}{x:Str}{k:NameKind},
 (j.map λ(n,k)=>if (k==NameKind.free&&env.scope.kind==.function&&env.kindOf n==some .cell) then(n,NameKind.cell) else(n,k)).lookup x=some k->
 ∃k0,(x,k0)∈j/\j.lookup x=some k0/\(k=k0\/(k0=.free/\k=.cell))
 |[],_,_,h=>by cases h
 | (n,k0)::r,x,k,h=>by
   have y:=@gL env r x k;have h:List.lookup x ((if (k0==NameKind.free&&env.scope.kind==.function&&env.kindOf n==some .cell)=true then(n,NameKind.cell) else(n,k0))::_)=some k:=h;cases u:x==n with
   | true=>
     have e:=eq_of_beq u;subst e;refine{k0,QS,by simp[Rw],?_}
     split at h
     ·next c=>
      simp[Rw] at h;simp at c;exact .inr ⟨c.1.1,h.symm⟩
     ·simp[Rw] at h;exact .inl h.symm
   | false=>
     have v:List.lookup x (r.map λ(n,k)=>if (k==NameKind.free&&env.scope.kind==.function&&env.kindOf n==some .cell) then(n,NameKind.cell) else(n,k))=some k:=by
      split at h<;>simpa[Rw,u] using h
     obtain⟨k1,h1,h2,h3⟩:=y v;exact{k1,QD _ h1,by simp[Rw,u];exact h2,h3}
theorem pL {h j:Type}{R:h->j->Prop}:∀{l:List h}{r:List j}{i:Nat}{x:h},Su R l r->l[i]?=some x->∃y,r[i]?=some y/\R x y
 |_,_,_,_,.nil,e=>by simp at e
 |_,_,0,_,.cons p _,e=>by simp at e;subst e;exact{_,rfl,p}
 | _,_,i+1,x,.cons _ t,e=>by
   obtain⟨y,h1,h2⟩:=pL t (by simpa using e)
   exact{y,by simpa using h1,h2}
structure fB (X:Cx) (own bn:List Str) (scope:Scope):Prop where
 kind:scope.kind=.function
 cel:∀y∈scope.names,y.2=.cell->scope.names.lookup y.1=some .cell
 loc:∀y∈scope.names,y.2=.local->scope.names.lookup y.1=some .local
 free:∀y∈scope.names,y.2=.free->X.env.kindOf y.1=some .cell\/X.env.kindOf y.1=some .free
 dis:Su (λb x=>(b=x/\scope.names.lookup x≠some .local/\scope.names.lookup x≠some .cell)\/scope.names.lookup b=none) bn X.N
def jo:∀(h:List (Str×NameKind)) (n:Nat) (acc:List (Str×Addr)),cellsFrom n h acc=cellsFrom n h []++acc
 |[],_,_=>rfl
 | (nm,k)::r,n,acc=>by
   unfold cellsFrom;split
   ·rw[jo r (n+1) ((nm,n)::acc),jo r (n+1) [(nm,n)],RA];rfl
   ·exact jo r n acc
set_option tactic.hygienic true in
theorem vc:∀{j:List (Str×NameKind)}{n:Nat}{x:Str}{c:Addr},(x,c)∈cellsFrom n j []->(x,NameKind.cell)∈j
 |[],_,_,_,h=>nomatch h
 | (nm,k)::r,n,x,c,h=>by
   unfold cellsFrom at h;split at h
   ·next e=>
    rw[jo] at h;rcases QR.mp h with h|h
    ·exact QD _ (vc h)
    ·cases QN.mp h;rw[eq_of_beq e];exact QS
   ·exact QD _ (vc h)
theorem qe:∀{j:List (Str×NameKind)}{n:Nat}{x:Str},(x,NameKind.cell)∈j->∃c,(x,c)∈cellsFrom n j []
 | (nm,k)::r,n,x,h=>by
   unfold cellsFrom;rcases Rg.mp h with h|h
   ·cases h;rw[if_pos (by rfl:(NameKind.cell==NameKind.cell)=true),jo]
    exact{n,Rb _ (QN.mpr rfl)}
   ·split
    ·obtain⟨c,u⟩:=qe h;rw[jo];exact{c,RD _ u}
    ·exact qe h
theorem mB {j:Type}:∀{l:List (Str×j)}{x:Str}{b:j},(x,b)∈l->∃c,l.lookup x=some c
 | (n,u)::r,x,b,h=>by
   rw[Rw];cases e:x==n with
   |true=>exact{_,rfl}
   | false=>
     rcases Rg.mp h with z|z
     ·cases z;rw[beq_self_eq_true] at e;cases e
     ·exact mB z
def si
 (h:Q (newEnv scope s.heap.objs.size globals (cellsFrom (s.heap.objs.size+1) scope.names cl) qual none .none (some env) builtinsNs) {s with heap:=pushCells (s.heap.push {cls:=.type "dict",data:=.dict #[]}) scope.names}) :
 wpAny M A (newFunctionEnv scope globals cl [] qual none .none (some env)) Q E s:=by
 simp only[newFunctionEnv,Option.isSome_some,if_true];refine tqa (wpAny_alloc ?_);refine tqa (wpAny_layCells _ (λv kind j=>by cases u:kind==NameKind.cell<;>simp[u]) _ _ _ _ ?_)
 rw[show({s with heap:=s.heap.push {cls:=.type "dict",data:=.dict #[]}}:QC).heap.objs.size=s.heap.objs.size+1 from R3 ..]
 exact tqa (tqb (tqb h))
section
variable{X:Cx}{pins:List (Addr×Obj)}{σ:L2.St}{H:Hp}{s:QC}{fp:List Addr}{scope:Scope}{cl:List (Str×Addr)}{own bn:List Str}
structure Cl (X:Cx) (scope:Scope) (cl:List (Str×Addr)) (n:Nat):Prop where
 sub:∀x c,cl.lookup x=some c->(scope.names.lookup x=some .cell/\n<c)\/(scope.names.lookup x≠some .cell/\X.env.cells.lookup x=some c)
 inj:∀x y c,cl.lookup x=some c->cl.lookup y=some c->scope.names.lookup x=some .cell->scope.names.lookup y=some .cell->x=y
 has:∀y∈scope.names,(y.2=.free\/y.2=.cell)->∃c,cl.lookup y.1=some c
def Fg (S:fB X own bn scope)(h1:∀x c,cl.lookup x=some c->X.env.cells.lookup x=some c)(h2:∀y∈scope.names,y.2=.free->∃c,cl.lookup y.1=some c)(h:Heap)(hn:h.objs.size=n+1) :
 Cl X scope (cellsFrom (n+1) scope.names cl) n/\∀x c,(cellsFrom (n+1) scope.names cl).lookup x=some c->scope.names.lookup x=some .cell->(pushCells h scope.names).IsCell c none:=by
 have ok:=cellsFrom_ok scope.names h (n+1) [] {λ_ _ hm=>(nomatch hm),List.Pairwise.nil} (by rw[hn];exact QA _)
 rw[hn] at ok;rw[jo];have j:∀{x c},(cellsFrom (n+1) scope.names []++cl).lookup x=some c->scope.names.lookup x=some .cell->(x,c)∈cellsFrom (n+1) scope.names []:=λ{x c} e u=>by
  obtain⟨E,I⟩:=qe (mem_of_lookup u);obtain⟨J,h2⟩:=mB I;rw[List.lookup_append,h2] at e;cases e;exact mem_of_lookup h2
 have v:∀{x c},(cellsFrom (n+1) scope.names []++cl).lookup x=some c->scope.names.lookup x≠some .cell->cl.lookup x=some c:=λ{x c} e u=>by
  rw[List.lookup_append] at e;cases z:(cellsFrom (n+1) scope.names []).lookup x with
  |none=>rw[z] at e;exact e
  |some E=>exact absurd (S.cel _ (vc (mem_of_lookup z)) rfl) u
 refine{{λx c e=>?_,λx y c e1 e2 u B=>?_,λy B hk=>?_},λx c e u=>(ok.empty x c (j e u)).1}
 ·by_cases u:scope.names.lookup x=some .cell
  ·exact .inl {u,(ok.empty x c (j e u)).2}
  ·exact .inr {u,h1 x c (v e u)}
 ·exact name_of_addr ok.apart (j e1 u) (j e2 B)
 ·rcases hk with hk|hk
  ·obtain⟨c,F⟩:=h2 y B hk;rw[List.lookup_append];cases (cellsFrom (n+1) scope.names []).lookup y.1 with
   |none=>exact⟨c,F⟩
   |some E=>exact⟨E,rfl⟩
  ·obtain⟨c,F⟩:=qe (by rw[<- hk];exact B)
   obtain⟨J,e2⟩:=mB F;rw[List.lookup_append,e2];exact⟨J,rfl⟩
def Ig (I:Inv X pins σ H s)(S:fB X own bn scope)(j:Cl X scope cl s.heap.objs.size)(v:∀b∈fp,fz X pins H b)(B:∀b∈fp,∃o,s.heap.get? b=some o) :
 (fU X own bn scope cl s.heap.objs.size fp s H).Ok where
 mod:=I.ok.mod
 kind:=S.kind
 glob:=I.ok.glob
 blt:=I.ok.blt
 above:=QA _
 inj:=λx y c h1 h2=>by
  have lt:=λz e=>Nat.not_lt.mpr (Sk (let{_,q}:=I.cell z c e;q.lt))
  rcases j.sub x c h1 with⟨a1,a2⟩|⟨a1,a2⟩<;>rcases j.sub y c h2 with⟨J,F⟩|⟨J,F⟩
  ·exact j.inj x y c h1 h2 a1 J
  ·exact absurd a2 (lt y F)
  ·exact absurd F (lt x a2)
  ·exact I.ok.inj x y c a2 F
 has:=λx h=>by
  have E:∀k,(relabel scope X.env).names.lookup x=some k->(k=.cell\/k=.free)->∃c,cl.lookup x=some c:=λk hk L=>by
   obtain⟨O,h1,h2,h3⟩:=gL hk;refine j.has _ h1 ?_;rcases h3 with e|⟨e,_⟩
   ·rcases L with z|z
    ·exact .inr (e.symm.trans z)
    ·exact .inl (e.symm.trans z)
   ·exact .inl e
  rcases h with h|h
  ·exact E _ h (.inl rfl)
  ·exact E _ h (.inr rfl)
 cab:=λx c h e=>by
  rcases j.sub x c e with⟨_,a2⟩|⟨a1,_⟩
  ·exact Sk a2
  ·exact absurd (eq_of_beq h) a1
 hd:=I.ok.hd
 frames:=I.ok.frames
 stk:=.inl rfl
 exf:=λb u=>{λe=>by
  obtain⟨o,ho⟩:=B b u;exact absurd (QO ho) (by rw[e];exact RM _),λx c e=>by
  rcases j.sub x c e with⟨_,a2⟩|⟨_,a2⟩
  ·obtain⟨o,ho⟩:=B b u;exact λz=>absurd (QO ho) (by rw[<- z];exact Nat.lt_asymm a2)
  ·exact(v b u).2.2.2.2.1 x c a2}
 bs:=λb o e=>I.bs b o e
 bsz:=QH I.ok.bsz I.sz
 noex:=λb o e u=>by
  rcases(v b u).2.2.2.1 with z|z
  ·exact I.ok.noex b o e z
  ·exact absurd (QL (QO e) (QH I.ok.bsz z)) (RM _)
 exfs:=λb u M=>by
  rcases Rg.mp (I.stkSub b M) with e|e
  ·exact(v b u).2.1 e
  ·exact(v b u).2.2.1 e
 funs:=I.stack
 frf:=λb u=>I.stkFree b u
def vb (I:Inv X pins σ H s)(S:fB X own bn scope)(h:Cl X scope cl s.heap.objs.size)(P:∀b∈fp,fz X pins H b)(O:∀b∈fp,∃o,s.heap.get? b=some o)
 (hn:h'.Ns s.heap.objs.size m) (hk:∀b o,s.heap.get? b=some o->h'.get? b=some o) (M:∀x c,cl.lookup x=some c->scope.names.lookup x=some .cell->h'.IsCell c none) :
 Inv (fU X own bn scope cl s.heap.objs.size fp s H) [] (List.replicate own.length none++σ) H {s with heap:=h',toks:=t'} where
 ok:=Ig I S h P O
 os:=rfl
 bare:=I.bare
 base:=Un.kept hk
 loc:=by
  refine{m,hn,λi x v e1 e2 W=>?_};have e1:(own++bn)[i]?=some x:=e1;have U:own.length<=i:=by
   by_cases q:i<own.length
   ·rw[QB (by simpa using q),SG] at e2
    simp[q] at e2
   ·omega
  rw[QV U] at e1;rw[QV (by simpa using U)] at e2
  simp only[List.length_replicate] at e2;have L:X.N[i-own.length]?=some x/\scope.names.lookup x≠some .local/\scope.names.lookup x≠some .cell:=by
   rcases pL S.dis e1 with⟨y,h1,⟨h2,h3⟩|h2⟩
   ·subst h2;exact⟨h1,h3⟩
   ·exfalso;have no:∀k,(relabel scope X.env).names.lookup x≠some k:=λk hk=>by
     obtain⟨Q,_,h3,_⟩:=gL hk;rw[h2] at h3;cases h3
    rcases W with z|z|z
    ·exact no _ z
    ·exact no _ z
    ·exact no _ z
  have R:∀k,(relabel scope X.env).names.lookup x=some k->(k=.local\/k=.cell\/k=.free)->∃c,(k=.cell\/k=.free)/\cl.lookup x=some c/\(X.env.kindOf x=some .cell\/X.env.kindOf x=some .free):=λk j J=>by
   obtain⟨Q,h1,h2,h3⟩:=gL j;have nl:Q≠.local:=λe=>L.2.1 (by rw[h2,e])
   have hf:Q=.free:=by
    rcases h3 with e|⟨e,_⟩
    ·rcases J with z|z|z
     ·exact absurd (e.symm.trans z) nl
     ·exact absurd (by rw[h2,e.symm.trans z]) L.2.2
     ·exact e.symm.trans z
    ·exact e
   obtain⟨c,Y⟩:=h.has _ h1 (.inl hf);refine{c,?_,Y,S.free _ h1 hf};rcases J with z|z|z
   ·rcases h3 with e|⟨_,e⟩
    ·rw[hf] at e;rw[e] at z;cases z
    ·rw[e] at z;cases z
   ·exact .inl z
   ·exact .inr z
  have B:∀k,(relabel scope X.env).names.lookup x=some k->(k=.local\/k=.cell\/k=.free)->∃u,RelV v u/\Look (compEnvC scope cl s.heap.objs.size X.env) h' m x u:=λk j J=>by
   obtain⟨c,h1,h2,h3⟩:=R k j J;obtain⟨m0,_,hl⟩:=I.loc;obtain⟨u,r,l⟩:=hl _ x v L.1 e2 (.inr h3);refine{u,r,.inr {?_,c,h2,?_}}
   ·rcases h1 with z|z
    ·subst z;exact .inl j
    ·subst z;exact .inr j
   ·rcases l with⟨z,_⟩|⟨_,c',F,E⟩
    ·rcases h3 with q|q
     ·rw[z] at q;cases q
     ·rw[z] at q;cases q
    ·rcases h.sub x c h2 with⟨a1,_⟩|⟨_,a2⟩
     ·exact absurd a1 L.2.2
     rw[a2] at F;cases F;obtain⟨o,ho,hd⟩:=E;exact{o,hk _ _ ho,hd}
  rcases W with z|z|z
  ·exact B _ z (.inl rfl)
  ·exact B _ z (.inr (.inl rfl))
  ·exact B _ z (.inr (.inr rfl))
 cell:=λx c e=>by
  rcases h.sub x c e with⟨a1,_⟩|⟨_,a2⟩
  ·exact{none,M x c e a1}
  obtain⟨v,o,ho,hd⟩:=I.cell x c a2;exact{v,o,hk _ _ ho,hd}
 free:=I.hok.fresh (QA _)
 freeC:=λx c e=>(h.sub x c e).elim (λz=>I.hok.fresh (Sk z.2)) λz=>I.freeC x c z.2
 pin:=λp hp=>nomatch hp
 hok:=I.hok.kept hk
 len:=by
  show(List.replicate own.length none++σ).length=(own++bn).length;have:=Paired.length S.dis;simp[I.len,this]
def comp_back (I:Inv X pins σ H s)(h:∀b∈fp,fz X pins H b)(j:Inv (fU X own bn scope cl C fp s H) pins' σ' H' s'):Inv X pins σ H' s':=
 I.call' j.os j.base j.hok j.bare λb u=>{(h b u).2.2.2.1,(h b u).2.1,(h b u).2.2.2.2.1,(h b u).2.2.2.2.2}
def sm (I:Inv X pins σ H s)(hf:H' s.heap.objs.size=none)(h:Inv X pins σ' H' s')(hs:R5 s.heap.objs.size s'.heap h''):Inv X pins σ' H' {s' with heap:=h''}:=
 h.turned (λb o j e=>(hs.2 b j).trans e) hf (Rn I.lt) (.inr I.sz) (λx c e z=>by
  obtain⟨v,q⟩:=I.cell x c e;exact absurd q.lt (by rw[z];exact RM _)) λp u z=>absurd (QO (I.pin p u).1) (by rw[z];exact RM _)
end
structure fA (a:Addr) (μ:Mu) (H:Hp) (μ':Mu) (H':Hp):Prop extends ExtW μ H μ' H' where
 pr:μ'.priv=μ.priv
 pk:∀b∈μ.priv,b≠a->H' b=H b
def fA.refl:fA a μ H μ H:={.refl,rfl,λ_ _ _=>rfl}
def fA.trans (x:fA a μ H μ1 H1)(y:fA a μ1 H1 μ2 H2):fA a μ H μ2 H2:=
 {x.toExtW.trans y.toExtW,y.pr.trans x.pr,λb h n=>(y.pk b (by rw[x.pr];exact h) n).trans (x.pk b h n)}
def Ext.toD (x:Ext μ H μ' H'):fA a μ H μ' H':={x.toExtW,x.pr,λb h _=>x.pk b h}
noncomputable def slots:fK->List Nat
 |.one i=>[i]
 |.tup l=>l
 |.two i l=>i::l
def Clear (W:List Nat)(Z:Env):Prop:=∀i∈W,∀d,Z[i]?≠some (some d)
section
variable{fa:Fa}{K:Qr}{μ μ':Mu}{H H':Hp}{σ:L2.St}{Z ρ1:Env}{M:Mem}{a:Addr}
def a8.weak (h:a8 fa K μ H σ ρ1)(hl:ρ1.length=Z.length)(w:∀(i:Nat) d,Z[i]?=some (some d)->ρ1[i]?=some (some d)):a8 fa K μ H σ Z:=
 {h.len.trans hl,λi d e=>h.at' i d (w i d e)}
theorem kU:∀{l:List Nat}{ds:List D}{Z ρ1:Env},cL l ds Z=some ρ1->ρ1.length=Z.length/\∀i,i∉l->ρ1[i]?=Z[i]?
 |[],[],Z,ρ1,h=>by cases h;exact{rfl,λ_ _=>rfl}
 |_::_,[],_,_,h=>by cases h
 |[],_::_,_,_,h=>by cases h
 | j::l,d::ds,Z,ρ1,h=>by
   obtain⟨h1,h2⟩:=kU (ds:=ds) h;refine{by simpa using h1,λi u=>?_}
   rw[h2 i (λz=>u (QD _ z)),Qv (λz=>u (by rw[z];exact QS))]
def sv (h:bU t d Z=some ρ1):ρ1.length=Z.length/\∀i,i∉slots t->ρ1[i]?=Z[i]?:=by
 cases t with
 | one j=>
   cases h;exact{`s,λi u=>Qv (λz=>u (by rw[z];exact QS))}
 | tup l=>
   cases d with
   |tup v=>exact kU h
   |_=>cases h
 | two j l=>
   obtain⟨e,v,rfl,h⟩:=vk h;obtain⟨h1,h2⟩:=kU h;refine{by simpa using h1,λi u=>?_}
   rw[h2 i (λz=>u (QD _ z)),Qv (λz=>u (by rw[z];exact QS))]
def a8.unbind (h:bU t d Z=some ρ1)(c:Clear (slots t) Z)(r:a8 fa K μ H σ ρ1):a8 fa K μ H σ Z:=by
 obtain⟨h1,h2⟩:=sv h;refine r.weak h1 λi d e=>?_;by_cases j:i∈slots t
 ·exact absurd e (c i j d)
 ·rw[h2 i j];exact e
def RelM.writeP (h:RelM fa K μ H M)(e:a∈μ.priv)(v:H a=some (.lst vs)):RelM fa K μ (upd H a (.lst ws)) M:=by
 have x:ExtW μ H μ (upd H a (.lst ws)):=ExtW.write v (.inr e);refine{λk B q=>?_,h.out,h.oout,h.inj,h.oinj,h.sep,λb y=>{?_,(h.pv b y).2}}
 ·rcases h.at' k B q with⟨b,u,h1,h2,h3⟩|⟨b,h1,h2,h3⟩
  ·have E:b≠a:=λz=>(h.pv a e).2 k (by rw[h1,z])
   exact .inl {b,u,h1,by rw[av E];exact h2,h3.extW x}
  ·exact .inr {b,h1,h2,h3.extW x (av (h3.nl v))}
 ·by_cases j:b=a
  ·subst j;exact⟨ws,bG⟩
  ·obtain⟨u,q⟩:=(h.pv b y).1;exact{u,by rw[av j];exact q}
def fA.writeP (e:a∈μ.priv)(h:H a=some (.lst vs)):fA a μ H μ (upd H a (.lst ws)):=
 {ExtW.write h (.inr e),rfl,λb _ n=>by rw[av n]}
end
abbrev PA:=Mu->Hp->List D->Prop
def yI (A:PA):Prop:=∀μ H μ' H' h,Ext μ H μ' H'->A μ H h->A μ' H' h
def LA (fa:Fa)(K:Qr)(a:Addr):PA:=λμ H h=>a∈μ.priv/\∃j,H a=some (.lst j)/\aD fa K μ H h j
def LA.stab {K:Qr}:yI (LA fa K a):=λ_ _ _ _ _ x ⟨h1,h,h2,h3⟩=>{by rw[x.pr];exact h1,h,by rw[x.pk _ h1];exact h2,h3.ext x}
def WB (fa:Fa)(K:Qr)(A:PA)(a:Addr)(μ:Mu)(H:Hp)(Z:Env)(Q:L2.St->Hp->Prop)(acc:List D)(M':Mem):Prop:=
 ∀h H' μ',fA a μ H μ' H'->a8 fa K μ' H' h Z->RelM fa K μ' H' M'->A μ' H' acc->Q h H'
def WB.ext {K:Qr}(h:WB fa K A a μ H Z Q acc M')(x:fA a μ H μ1 H1):WB fa K A a μ1 H1 Z Q acc M':=
 λj H' μ' y e m h1=>h j H' μ' (x.trans y) e m h1
def DB (fa:Fa)(X:Cx)(A:PA)(a:Addr)(W:List Nat)(body:Sem Unit)(g:Env->List D->Mem->Res (List D)):Prop:=
 ∀(h:List (Addr×Obj)) (s:QC) (σ:L2.St) (H:Hp) (Q:L2.St->Hp->Prop) (μ:Mu) (Z:Env) (M:Mem) (j:List D),Inv X h σ H s->a8 fa X.K μ H σ Z->RelM fa X.K μ H M->Clear W Z->A μ H j->
  ae (g Z j M) (WB fa X.K A a μ H Z Q)->wpAny (model X.prog X.w) X.A body (λ_ v=>∃u H',Inv X h u H' v/\Q u H') X.xe s
def b6 (ge:Env->Mem->Res D):Env->List D->Mem->Res (List D):=λZ h M=>(ge Z M).bind λx M=>if h.length<sz then .ok (h++[x]) M else .bad
def Oq (j:Env->Mem->Res Bool)(g:Env->List D->Mem->Res (List D)):Env->List D->Mem->Res (List D):=λZ h M=>(j Z M).bind λk M=>if k then g Z h M else .ok h M
def c5 (t:fK)(g:Env->List D->Mem->Res (List D))(Z:Env):List D->D->Mem->Res (List D):=λh d M=>(bS M (bU t d Z)).bind λρ1 M=>g ρ1 h M
def uU (t:fK)(j:Env->Mem->Res Walk)(g:Env->List D->Mem->Res (List D)):Env->List D->Mem->Res (List D):=λZ h M=>(j Z M).bind λw M=>cU (c5 t g Z) w h M
section
variable{fa:Fa}{X:Cx}{a:Addr}
set_option tactic.hygienic true in
def u6 (he:DE fa X elt ge):DB fa X (LA fa X.K a) a [] (eval elt X.env >>= λx=>call (.builtin "list.append") [.ref a,x] >>= λ_=>pure ()) (b6 ge):=by
 intro z s σ H Q μ Z M Y I P hM hc ⟨R,J,hH,hr⟩ h;obtain⟨x,W,e,q⟩:=aC h;split at q
 ·next hz=>
  refine tqa (aO (he z s σ H (λv y=>∃j,Ext μ H j y/\RelM fa X.K j y W/\Rep fa X.K j y x v) I {μ,Z,M,P,hM,?_}) λu s1 ⟨v,y,S,rv,j,F,O,r1⟩=>?_)
  ·rw[e];exact λv y j F O r1=>⟨j,F,O,r1⟩
  have B:y a=some (.lst J):=by rw[F.pk a R];exact hH
  have E:a∈j.priv:=by rw[F.pr];exact R
  have hl:J.length<sizeLine:=by rw[hr.length,<- dE];exact hz
  refine tqa (aO (my z s1 σ y (.ref a) [v] (.ref a) [u] (λ_ L=>L=upd y a (.lst (J++[v]))) S rfl (.cons rv .nil) ⟨a,J,v,rfl,rfl,B,hl,rfl⟩) λ_ s2 ⟨_,L,U,_,e2⟩=>tqb {σ,L,U,?_});subst e2;have xd:fA a j y j (upd y a (.lst (J++[v]))):=fA.writeP E B;exact q σ _ j (F.toD.trans xd) ((P.ext F).extW xd.toExtW) (O.writeP E B) {E,_,bG,((hr.ext F).append (.one r1)).extW xd.toExtW}
 ·exact q.elim
def Nr (O:yI A)(U:DT fa X c gc)(S:DB fa X A a W body g) :
 DB fa X A a W (isTrue c X.env (eval c X.env) >>= λok=>if ok=true then body else pure ()) (Oq gc g):=by
 intro u s σ H Q μ Z M B I E R Y L h;obtain⟨k,J,e,q⟩:=aC h;refine tqa (aO (U u s σ H (λb y=>b=k/\∃j,Ext μ H j y/\RelM fa X.K j y J) I {μ,Z,M,E,R,?_}) λb s1 ⟨y,F,P,j,v,z⟩=>?_)
 ·rw[e];exact λy j v z=>⟨rfl,j,v,z⟩
 subst P;cases b with
 | true=>
   rw[if_pos rfl];exact S u s1 σ y Q j Z J B F (E.ext v) z Y (O _ _ _ _ _ v L) (aM q λ_ _ w=>w.ext v.toD)
 | false=>
   rw[if_neg QZ];exact tqb {σ,y,F,q σ y j v.toD (E.ext v) z (O _ _ _ _ _ v L)}
def rf (sA:yI A)
 (heq:compTurn ce k (.ref it) (.ref a) X.env=(standAt p >>= λ_=>pyNext (.ref it) >>= λr=>match r with
  |none=>pure (.done .next)
  |some v=>letOwnedTupleGo tg (.ref it) v >>= λ_=>assign tg X.env v >>= λ_=>body >>= λ_=>again (.compLoop ce k (.ref it) (.ref a) X.env)))
 (hd:(model X.prog X.w).den (.compLoop ce k (.ref it) (.ref a) X.env)=(compTurn ce k (.ref it) (.ref a) X.env).onRaise (λx=>do noteFrame x X.env;theTreesLotGoes x)/\X.A.under (.compLoop ce k (.ref it) (.ref a) X.env)=X.A) (hx:X.xe=FF) (U:X.calm=true) (T:Turn X.prog X.w X.K tg J fp it tn) (hg:PG X tg (gT fa X.K t)) (S:DB fa X A a W body g) (hW:∀i∈W,i∉slots t)
 (I:Inv X pins σ H s) (st:tn 0 s.heap) (hf:∀b∈fp,fz X pins H b) (hE:a8 fa X.K μ H σ Z) (hM:RelM fa X.K μ H M)
 (hcl:Clear (slots t++W) Z) (hA:A μ H acc) (wk:dC fa X.K μ H w J) (q:ae (cU (c5 t g Z) w acc M) (WB fa X.K A a μ H Z Q)) :
 codeAny (model X.prog X.w) X.A (.compLoop ce k (.ref it) (.ref a) X.env) (λr Y=>r=.ok .next/\∃j H',Inv X pins j H' Y/\Q j H') s:=by
 have stat:∀{H':Hp},(∀b∈fp,H' b=none)->∀b∈fp,fz X pins H' b:=λhn b S=>{hn b S,(hf b S).2};have clt:=λi hi=>hcl i (RD _ hi);have clW:∀d ρ1,bU t d Z=some ρ1->Clear W ρ1:=λd ρ1 e i hi d' z=>by
  rw[(sv e).2 i (hW i hi)] at z;exact hcl i (Rb _ hi) d' z
 let P:Nat->Nat->QC->Prop:=λm i Y=>∃j H' μ' M' B,Inv X pins j H' Y/\tn i Y.heap/\(∀b∈fp,H' b=none)/\fA a μ H μ' H'/\a8 fa X.K μ' H' j Z/\RelM fa X.K μ' H' M'/\A μ' H' B/\
  ae (fZ (c5 t g Z) w m i B M') (WB fa X.K A a μ H Z Q)
 have P0:∃m,P m 0 s:={_,σ,H,μ,M,acc,I,st,λb S=>(hf b S).1,.refl,hE,hM,hA,q};obtain⟨m0,P0⟩:=P0;have hturn:∀(n:Nat) (i:Nat) (s3:QC),P n i s3->wpAny (model X.prog X.w) X.A (pyNext (.ref it)) (λr y=>match r with
  |none=>(∃j H',Inv X pins j H' y/\Q j H')
  |some v=>wpAny (model X.prog X.w) X.A (letOwnedTupleGo tg (.ref it) v) (λ_ F=>wpAny (model X.prog X.w) X.A (assign tg X.env v) (λ_ L=>wpAny (model X.prog X.w) X.A body (λ_ O=>∃m,m<n/\P m (i+1) O) FF L) FF F) FF y) FF s3:=by
  rintro n i s3 ⟨σ3,H3,E,M3,R,I3,st3,fr3,x3,hE3,hM3,hA3,q3⟩;have one:∀(d:D) (rest:List D->Mem->Res (List D)) (next:List D->Mem->Prop),J.go i H3->(∀x H',J.yld i H3 x H'->Ext E H3 E H'/\RelM fa X.K E H' M3/\Rep fa X.K E H' d x)->ae ((c5 t g Z R d M3).bind rest) (WB fa X.K A a μ H Z Q)->
   (∀j H' μ' M' B Y,Inv X pins j H' Y->tn (i+1) Y.heap->(∀b∈fp,H' b=none)->fA a μ H μ' H'->a8 fa X.K μ' H' j Z->RelM fa X.K μ' H' M'->A μ' H' B->ae (rest B M') (WB fa X.K A a μ H Z Q)->∃m,m<n/\P m (i+1) Y)->
   wpAny (model X.prog X.w) X.A (pyNext (.ref it)) (λr y=>match r with
    |none=>(∃j H',Inv X pins j H' y/\Q j H')
    |some v=>wpAny (model X.prog X.w) X.A (letOwnedTupleGo tg (.ref it) v) (λ_ F=>wpAny (model X.prog X.w) X.A (assign tg X.env v) (λ_ L=>wpAny (model X.prog X.w) X.A body (λ_ O=>∃m,m<n/\P m (i+1) O) FF L) FF F) FF y) FF s3:=by
   intro d rest next go yl qd fin
   refine aO (T.item X rfl rfl rfl U i pins s3 σ3 H3 FF I3 (stat fr3) st3 go) λr s4 ⟨u,hr4,h4⟩=>?_;subst hr4;refine aO h4 λ_ s5 ⟨x,H5,I5,r5,y5,st5,fr5⟩=>?_;obtain⟨x5,hM5,rd⟩:=yl x H5 y5;have I5':=I5.pinned (stat fr5) (T.obj _ _ st5);obtain⟨acc6,M6,e6,q6⟩:=aC qd;obtain⟨ρ1,M7,e7,e8⟩:=eR e6;cases eb:bU t d Z with
   |none=>rw[eb] at e7;cases e7
   | some ρ2=>
     rw[eb] at e7;cases e7;have hg':=hg _ s5 σ3 H5 x u (λj H'=>H'=H5/\a8 fa X.K E H5 j ρ1) I5' r5 {E,Z,_,d,ρ1,hE3.ext x5,hM5,rd,eb,λσ1 h1=>⟨rfl,h1⟩};rw[hx] at hg';refine aO hg' λ_ s6 ⟨σ6,H6,I6,eH,hE6⟩=>?_;subst eH;have hb':=S _ s6 σ6 H6 (λj H'=>∃μ',fA a E H6 μ' H'/\a8 fa X.K μ' H' j ρ1/\RelM fa X.K μ' H' M6/\A μ' H' acc6) E ρ1 _ R I6 hE6 hM5 (clW d ρ1 eb) (sA _ _ _ _ _ x5 hA3) (by
      rw[e8];exact λj H' μ' z1 z2 z3 z4=>⟨μ',z1,z2,z3,z4⟩)
     rw[hx] at hb';refine aO hb' λ_ s7 ⟨σ7,H7,I7,μ7,x7,hE7,hM7,hA7⟩=>?_;refine fin σ7 H7 μ7 M6 acc6 s7 I7.unpinned (T.keep _ _ _ st5 λb S o e=>(I7.pin (b,o) (Rb _ (Rb _ (iR S e)))).1) (λb S=>?_) ((x3.trans x5.toD).trans x7) (hE7.unbind eb clt) hM7 hA7 q6;obtain⟨o,e,dd⟩:=T.obj _ _ st5 b S;exact(I7.pin (b,o) (Rb _ (Rb _ (iR S e)))).2.1
  have stop:J.stop i H3->ae (.ok R M3) (WB fa X.K A a μ H Z Q)->wpAny (model X.prog X.w) X.A (pyNext (.ref it)) (λr y=>match r with
   |none=>(∃j H',Inv X pins j H' y/\Q j H')
   |some v=>wpAny (model X.prog X.w) X.A (letOwnedTupleGo tg (.ref it) v) (λ_ F=>wpAny (model X.prog X.w) X.A (assign tg X.env v) (λ_ L=>wpAny (model X.prog X.w) X.A body (λ_ O=>∃m,m<n/\P m (i+1) O) FF L) FF F) FF y) FF s3:=λhs q=>by
   refine aO (T.done X rfl rfl rfl U i pins s3 σ3 H3 FF I3 (stat fr3) st3 hs) λr s4 ⟨hr4,I4⟩=>?_;subst hr4;exact{σ3,H3,I4,q σ3 H3 E x3 hE3 hM3 hA3}
  cases n with
  |zero=>exact q3.elim
  | succ n=>
    unfold fZ at q3;cases e2:w M3 with
    |none=>rw[e2] at q3;exact q3.elim
    | some ds=>
      rw[e2] at q3;dsimp only at q3;obtain⟨go,stp⟩:=wk E H3 M3 ds x3.toExtW hM3 e2;cases ed:ds[i]? with
      | none=>
        rw[ed] at q3;exact stop (stp i (List.getElem?_eq_none_iff.mp ed)) q3
      | some d=>
        rw[ed] at q3;obtain⟨g1,g2⟩:=go i d ed;refine one d (fZ (c5 t g Z) w n (i+1)) (λ_ _=>True) g1 g2 q3 ?_;intro j H' μ' M' B Y z1 z2 z3 z4 z5 z6 z7 z8;exact{n,`a,j,H',μ',M',B,z1,z2,z3,z4,z5,z6,z7,z8}
 refine A9 heq hd (λn Y=>∃i,P n i Y) (λn s3 ⟨i,h3⟩=>?_) m0 {0,P0};refine aO (hturn n i s3 h3) λr s1 h=>?_;cases r with
 |none=>exact⟨rfl,h⟩
 |some v=>exact aO h λ_ s2 h=>aO h λ_ s3 h=>aO h λ_ s4 ⟨m,hm,h⟩=>{m,hm,i+1,h}
end
section
variable{prog:Rv}{w:Rf}{A:R9}{s:QC}{R:Result->QC->Prop}
def sO {j t1 B t2 y:Expr}
 (E:codeAny (model prog w) A (.compLoop (.ListComp j [{t1,B,f1,0},{t2,y,f2,0}] scope pos) 1 it acc env) R s)
 (h:wpAny (model prog w) A (pyIter it) (λu v=>codeAny (model prog w) A (.compLoop (.ListComp j [{t1,B,f1,0},{t2,y,f2,0}] scope pos) 1 u acc env) R v)
  (notedBy (model prog w) A env λx v=>R (.error x) v) s) :
 codeAny (model prog w) A (.compStart (.ListComp j [{t1,B,f1,0},{t2,y,f2,0}] scope pos) 1 it acc env) R s:=by
 refine codeAny_of_tree ?_;refine wpAny_notedAt ?_;refine tqa (wpAny_askSetting (wpAny_ite ?_));split
 ·first
   |exact tqa (tqb (tqb (And.intro rfl E)))
   |exact tqb (And.intro rfl E)
 ·first
   |exact tqa (wpAny_rule (tqa (wpAny_standAt (tqa (wpAny_mono h (λu v z=>tqb (And.intro rfl z)) λ_ _ x=>x)))))
   |(refine tqa (wpAny_rule ?_);show wpAny _ _ (standAt y.pos >>= _) _ _ s;exact tqa (wpAny_standAt (tqa (wpAny_mono h (λu v z=>tqb (And.intro rfl z)) λ_ _ x=>x))))
end
section
variable{fa:Fa}{X:Cx}{a:Addr}
def LM {y t1 W t2 B:Expr}(hx:X.xe=FF)(F:X.calm=true)(hi:DI fa X t2 B gw)(hg:PG X t2 (gT fa X.K t))(he:DE fa X y ge)
 (hs:∀x,foldedSetIterable B X.env x=pure x) :
 DB fa X (LA fa X.K a) a (slots t) (eval B X.env >>= λx=>standAt B.pos >>= λ_=>foldedSetIterable B X.env x >>= λx=>holding [x] (pyIter x) >>= λj=>runOwn (.compStart (.ListComp y [{t1,W,[],0},{t2,B,[],0}] scope pos) 1 j (.ref a) X.env) X.env >>= λ_=>pure ()) (uU t gw (b6 ge)):=by
 intro E s σ H Q μ Z M acc I hE hM hc hA h;obtain⟨w,M1,e,q⟩:=aC h;refine tqa (aO (hi E s σ H (λJ U=>∃u,Ext μ H u U/\RelM fa X.K u U M1/\dC fa X.K u U w J) I {μ,Z,M,hE,hM,?_}) λv s1 h1=>?_)
 ·rw[e];exact λJ U u x1 m1 Y=>⟨u,x1,m1,Y⟩
 refine tqa (wpAny_standAt (tqa (wpAny_of_eq (hs v) (tqa (tqo (aO h1 λitv s2 h2=>?_))))));obtain⟨it,fp,tn,J,H2,ei,I2,T,P,f2,μ2,x2,m2,Y⟩:=h2;subst ei;have go:=rf LA.stab (BV y t1 W t2 B scope pos (.ref it) (.ref a) X.env) ⟨rfl,rfl⟩ hx F T hg (u6 he) (λi hi=>nomatch hi) I2 P f2 (hE.ext x2) m2 (by simpa using hc) (LA.stab _ _ _ _ _ x2 hA) Y (aM q λ_ _ z=>z.ext x2.toD)
 refine tqa (wpAny_runOwn ?_);have L:codeAny (model X.prog X.w) (X.A.mark none) (.compLoop (.ListComp y [{t1,W,[],0},{t2,B,[],0}] scope pos) 1 (.ref it) (.ref a) X.env) (λr O=>match r with|.ok f=>wpAny (model X.prog X.w) X.A (pure ():Sem Unit) (λ_ O=>∃S H',Inv X E S H' O/\Q S H') X.xe O|.error e=>cameBackBy (model X.prog X.w) X.A X.env X.xe e O) s2:=
  codeAny_mono go λr O ⟨er,z⟩=>by subst er;exact tqb z
 exact sO L (T.self _ 0 _ _ _ P L)
end
section
variable{fa:Fa}{K:Qr}{μ1 μ':Mu}{H1 H':Hp}{M1 M':Mem}{a:Addr}
noncomputable def Kz (μ:Mu)(a:Addr):Mu:={μ.pub,a::μ.priv,μ.ob}
def mJ (h:RelM fa K μ1 H1 M1)(j:H1 a=none)(o:HO):ExtW μ1 H1 (Kz μ1 a) (upd H1 a o):=by
 have x:ExtW μ1 H1 μ1 (upd H1 a o):=(Ext.alloc h j).toExtW;refine{x.mu,x.tups,λb u e n=>{(x.lsts b u e n).1,λz=>?_},x.frzs,x.exts,x.obs};rcases z with z|z
 ·exact n (.inl z)
 ·rcases Rg.mp z with z|z
  ·subst z;rw[j] at e;cases e
  ·exact n (.inr z)
def zW (h:RelM fa K μ1 H1 M1)(j:H1 a=none)(vs:List V):RelM fa K (Kz μ1 a) (upd H1 a (.lst vs)) M1:=by
 have x:=mJ h j (.lst vs);refine{λk v e=>(h.at' k v e).imp (λ⟨b,u,h1,h2,h3⟩=>{b,u,h1,by rw[av (aP h2 j)];exact h2,h3.extW x}) λ⟨b,h1,h2,h3⟩=>{b,h1,h2,h3.extW x (av (h3.new j))},h.out,h.oout,h.inj,h.oinj,h.sep,λb y=>?_}
 ·rcases Rg.mp y with z|z
  ·subst z;exact{⟨vs,bG⟩,λk e=>by
    obtain⟨_,_,_,q,_⟩:=h.mu_lt e;rw[j] at q;cases q}
  ·obtain⟨⟨u,q⟩,n⟩:=h.pv b z;exact{{u,by rw[av (aP q j)];exact q},n}
set_option tactic.hygienic true in
def GY (h:RelM fa K μ1 H1 M1)(ha:H1 a=none)(x:fA a (Kz μ1 a) (upd H1 a (.lst [])) μ' H')(v:RelM fa K μ' H' M')(hH:H' a=some (.lst vs))(hr:aD fa K μ' H' acc vs)
 (q:ae (ba m acc M') (aW fa K μ1 H1 Q)):Q (.ref a) H':=by
 have S:=λz=>h.pne ha z rfl;have E:=x.pr;have U:∀k,μ'.pub k≠some a:=(v.pv a (by rw[E];exact QS)).2
 have F:=mJ h ha (.lst []);have xe:Ext μ1 H1 ⟨μ'.pub,μ1.priv,μ'.ob⟩ H':=by
  refine{{λk b e=>x.mu k b e,λb y e=>x.tups b y (F.tups b y e),λb y e n=>?_,λb ob u e=>x.frzs b ob u (F.frzs b ob u e),λb o i e=>x.exts b o i (F.exts b o i e),λk b e=>x.obs k b (F.obs k b e)},rfl,λb B=>?_}
  ·obtain⟨H,I⟩:=F.lsts b y e n;obtain⟨z3,z4⟩:=x.lsts b y H I;refine{z3,λz=>z4 ?_};rcases z with z|z
   ·exact .inl z
   ·exact .inr (by rw[E];exact QD _ z)
  ·have nb:b≠a:=λe=>S (by rw[<- e];exact B)
   rw[x.pk b (QD _ B) nb,av nb]
 have Y:ExtW μ' H' ⟨μ'.pub,μ1.priv,μ'.ob⟩ H':={λ_ _ e=>e,λ_ _ e=>e,λb y e n=>{e,λz=>n (z.elim .inl λz=>.inr (by rw[E];exact QD _ z))},λ_ _ _ e=>e,λ_ _ _ e=>e,λ_ _ e=>e}
 have me:RelM fa K ⟨μ'.pub,μ1.priv,μ'.ob⟩ H' M':={λk L e=>(v.at' k L e).imp (λ⟨b,y,h1,h2,h3⟩=>{b,y,h1,h2,h3.extW Y}) λ⟨b,h1,h2,h3⟩=>{b,h1,h2,h3.extW Y rfl},v.out,v.oout,v.inj,v.oinj,v.sep,λb B=>v.pv b (by rw[E];exact QD _ B)}
 have re:=hr.extW Y;have R:¬ (⟨μ'.pub,μ1.priv,μ'.ob⟩:Mu).Mt a:=λz=>z.elim (λ⟨k,e⟩=>U k e) S;unfold ba at q;split at q
 ·cases m with
  | false=>
    exact q (.ref a) H' _ xe me {a,vs,rfl,⟨hH,R⟩,re}
  | true=>
    have pc:∀k b,(fF ⟨μ'.pub,μ1.priv,μ'.ob⟩ M'.length a).pub k=some b->(k=M'.length/\b=a)\/(k≠M'.length/\μ'.pub k=some b):=λk b e=>by
     have e:(if k=M'.length then some a else μ'.pub k)=some b:=e;split at e
     ·next z=>cases e;exact .inl ⟨z,rfl⟩
     ·next z=>exact .inr ⟨z,e⟩
    have O:∀k b,μ'.pub k=some b->(fF ⟨μ'.pub,μ1.priv,μ'.ob⟩ M'.length a).pub k=some b:=λk b e=>by
     show(if k=M'.length then some a else μ'.pub k)=some b;split
     ·next z=>rw[z,v.out _ (QA _)] at e;cases e
     ·exact e
    have ac:(fF ⟨μ'.pub,μ1.priv,μ'.ob⟩ M'.length a).pub M'.length=some a:=by
     show(if M'.length=M'.length then some a else _)=some a;rw[if_pos rfl]
    have nc:∀b,¬ μ'.Mt b->¬ (fF ⟨μ'.pub,μ1.priv,μ'.ob⟩ M'.length a).Mt b:=λb n z=>by
     rcases z with⟨k,z⟩|z
     ·rcases pc k b z with⟨_,e⟩|⟨_,e⟩
      ·exact n (.inr (by rw[E,e];exact QS))
      ·exact n (.inl ⟨k,e⟩)
     ·exact n (.inr (by rw[E];exact QD _ z))
    have xc:ExtW μ' H' (fF ⟨μ'.pub,μ1.priv,μ'.ob⟩ M'.length a) H':={O,λ_ _ e=>e,λb y e n=>{e,nc b n},λ_ _ _ e=>e,λ_ _ _ e=>e,λ_ _ e=>e};have W:Ext μ1 H1 (fF ⟨μ'.pub,μ1.priv,μ'.ob⟩ M'.length a) H':=by
     refine{{λk b e=>O k b (x.mu k b e),xe.tups,λb y e n=>?_,xe.frzs,xe.exts,xe.obs},rfl,xe.pk};obtain⟨H,I⟩:=F.lsts b y e n;obtain⟨z3,z4⟩:=x.lsts b y H I;exact{z3,nc b z4}
    have P:RelM fa K (fF ⟨μ'.pub,μ1.priv,μ'.ob⟩ M'.length a) H' (M'++[acc]):=by
     refine{λk L e=>?_,λk hk=>?_,λk hk=>v.oout k (by simp at hk;omega),λj k b e1 e2=>?_,v.oinj,λk b z=>?_,λb B=>?_}
     ·by_cases hk:k<M'.length
      ·rw[QB hk] at e;rcases v.at' k L e with⟨b,y,h1,h2,h3⟩|⟨b,h1,h2,h3⟩
       ·exact .inl {b,y,O k b h1,h2,h3.extW xc}
       ·exact .inr {b,h1,by show(if k=M'.length then some a else μ'.pub k)=none;rw[if_neg (Q1 hk)];exact h2,h3.extW xc rfl}
      ·have M:k=M'.length:=by
        have:=(Qs.mp e).1;simp at this;omega
       subst M;rw[QV (QA _)] at e;simp at e;subst e;exact .inl {a,vs,ac,hH,hr.extW xc}
     ·simp at hk;show(if k=M'.length then some a else μ'.pub k)=none;rw[if_neg `a]
      exact v.out k `a
     ·rcases pc j b e1 with⟨j1,J⟩|⟨j1,J⟩<;>rcases pc k b e2 with⟨k1,k2⟩|⟨k1,k2⟩
      ·omega
      ·exact absurd (J ▸ k2) (U k)
      ·exact absurd (k2 ▸ J) (U j)
      ·exact v.inj j k b J k2
     ·show μ'.ob (aj k)=none;rcases pc k b z with⟨e,_⟩|⟨_,e⟩
      ·rw[e];exact v.oout _ (QA _)
      ·exact v.sep k b e
     ·have B:=B;obtain⟨H,I⟩:=v.pv b (by rw[E];exact QD _ B)
      refine{H,λk e=>?_};rcases pc k b e with⟨_,e⟩|⟨_,e⟩
      ·exact S (e ▸ B)
      ·exact I k e
    exact q (.ref a) H' _ W P ⟨a,rfl,ac⟩
 ·exact q.elim
end
section
variable{fa:Fa}{X:Cx}
def b8 (m:Bool)(n:Nat)(t:fK)(j:Env->Mem->Res Walk)(g:Env->List D->Mem->Res (List D)):Env->Mem->Res D:=λh M=>
 (j h M).bind λw M=>(cU (c5 t g (List.replicate n none++h)) w [] M).bind (ba m)
def qm (X:Cx)(u B h:Expr)(y:List Expr)(rest:List SH)(j:Scope)(pos:Pos)(body:Addr->R1->Sem Unit):Prop:=
 ∀(z a:Addr) (env:R1),compTurn (.ListComp u ({B,h,y,0}::rest) j pos) 0 (.ref z) (.ref a) env=(standAt h.pos >>= λ_=>pyNext (.ref z) >>= λr=>match r with
  |none=>pure (.done .next)
  |some v=>letOwnedTupleGo B (.ref z) v >>= λ_=>assign B env v >>= λ_=>body a env >>= λ_=>again (.compLoop (.ListComp u ({B,h,y,0}::rest) j pos) 0 (.ref z) (.ref a) env))
structure Block (fa:Fa) (X:Cx) (A:Addr->PA) (own bn:List Str) (scope:Scope) (tg:Expr) (t:fK) (W:List Nat) (body:Addr->R1->Sem Unit) (g:Env->List D->Mem->Res (List D)):Prop where
 pg:∀cl C fp s H,PG (fU X own bn scope cl C fp s H) tg (gT fa X.K t)
 db:∀cl C fp s H a,DB fa (fU X own bn scope cl C fp s H) (A a) a W (body a (compEnvC scope cl C X.env)) g
def so (h:∀i∈W,i<n):Clear W (List.replicate n none++Z):=λi j d e=>by
 rw[QB (by simpa using h i j),SG] at e
 simp[h i j] at e
def ua {K:Qr}(n:Nat)(h:a8 fa K μ H σ Z):a8 fa K μ H (List.replicate n none++σ) (List.replicate n none++Z):=by
 refine{by simp[h.len],λi d e=>?_}
 by_cases j:i<n
 ·rw[QB (by simpa using j),SG] at e
  simp[j] at e
 ·rw[QV `o] at e ⊢
  simp only[List.length_replicate] at e ⊢;exact h.at' _ d e
def qa {rest:List SH}
 (S:fB X own bn scope) (R:X.calm=true) (hi:DI fa X tg iter gw) (B:Block fa X (LA fa X.K) own bn scope tg t W body g) (hT:qm X elt tg iter ifs rest scope pos body) (hW:∀i∈W,i∉slots t) (hn:∀i∈slots t++W,i<own.length)
 (hs:∀x,foldedSetIterable iter X.env x=pure x)
 (I:Inv X pins σ H s) (hE:a8 fa X.K μ H σ Z) (hM:RelM fa X.K μ H M) (h:ae (b8 m own.length t gw g Z M) (aW fa X.K μ H Q))
 (post:∀(a C:Addr) (s':QC) (H':Hp),Inv X pins σ H' s'->Q (.ref a) H'->(∃m,s'.heap.Ns C m)->(∀σ2 E s2,Inv X pins σ2 E s2->(H' C=none->E C=none)->E C=none/\∀P,R5 C s2.heap P->Inv X pins σ2 E {s2 with heap:=P})->H' C=none->(C≠X.env.locals/\∀x c,X.env.cells.lookup x=some c->c≠C)->compPost (model X.prog X.w) X.A X.xe use QQ (.ref a) C (.ok .next) s') :
 wpAny (model X.prog X.w) X.A (comprehension (.ListComp elt ({tg,iter,ifs,0}::rest) scope pos) scope X.env p0 (newList []) false (eval iter X.env) use) QQ X.xe s:=by
 obtain⟨w,M1,ew,q⟩:=aC h;obtain⟨acc,M2,ea,q2⟩:=aC q;obtain⟨cl,hcl,O,L⟩:=qb λy hy hf=>I.ok.has y.1 (S.free y hy hf);refine wpAny_comprehension_free rfl hs hcl S.kind S.loc ?_;refine aO (hi pins s σ H (λJ H1=>∃μ1,Ext μ H μ1 H1/\RelM fa X.K μ1 H1 M1/\dC fa X.K μ1 H1 w J) I {μ,Z,M,hE,hM,?_}) λv s1 h1=>aO h1 λitv s2 h2=>?_
 ·rw[ew];exact λJ H1 μ1 x1 m1 wk=>⟨μ1,x1,m1,wk⟩
 obtain⟨it,fp,tn,J,E,ei,I2,T,st2,f2,μ2,x2,m2,wk⟩:=h2;subst ei;refine wpAny_newObj_type ?_;have ha:=I2.hok.fresh (QA _);have I3:Inv X pins σ (upd E s2.heap.objs.size (.lst [])) {s2 with heap:=s2.heap.push {cls:=.type "list",dict:=none,data:=.seq ([]:List Qt).toArray}}:=
  I2.laid (λb o e=>Qu _ e) (QA _) {RU _,[],_,.nil,QU _ rfl}
 generalize hs3:({s2 with heap:=s2.heap.push {cls:=.type "list",dict:=none,data:=.seq ([]:List Qt).toArray}}:QC)=s3 at I3 ⊢
 have k3:∀b o,s2.heap.get? b=some o->s3.heap.get? b=some o:=λb o e=>by rw[<- hs3];exact Qu _ e
 have fo2:=T.obj _ _ st2;have f3:∀b∈fp,fz X pins (upd E s2.heap.objs.size (.lst [])) b:=λb u=>by
  obtain⟨o,e,_⟩:=fo2 b u;exact{by rw[av (Q1 (QO e))];exact(f2 b u).1,(f2 b u).2}
 have fo3:∀b∈fp,∃o,s3.heap.get? b=some o:=λb u=>let{o,e,_}:=fo2 b u;{o,k3 b o e}
 obtain⟨CL,U⟩:=Fg S O L (s3.heap.push {cls:=.type "dict",data:=.dict #[]}) (R3 ..);generalize F:cellsFrom (s3.heap.objs.size+1) scope.names cl=cl' at CL U;refine si ?_;rw[F];have j:(pushCells (s3.heap.push {cls:=.type "dict",data:=.dict #[]}) scope.names).Ns s3.heap.objs.size (λ_=>none):=(Heap.Ns.new s3.heap (.type "dict")).keeps (pushCells_keeps _ _);have k4:∀b o,s3.heap.get? b=some o->(pushCells (s3.heap.push {cls:=.type "dict",data:=.dict #[]}) scope.names).get? b=some o:=λb o e=>pushCells_keeps _ _ b o (Qu _ e);generalize pushCells (s3.heap.push {cls:=.type "dict",data:=.dict #[]}) scope.names=h₁ at j k4 U ⊢;clear hcl F O L cl
 rename List (Str×Addr)=>cl
 have I4:=vb (t':=s3.toks) I3 S CL f3 fo3 j k4 U;have Y:=I4.ok;have f4:∀b∈fp,fz (fU X own bn scope cl s3.heap.objs.size fp s3 (upd E s2.heap.objs.size (.lst []))) [] (upd E s2.heap.objs.size (.lst [])) b:=λb u=>
  {(f3 b u).1,(Y.exf b u).1,Y.exfs b u,.inl u,(Y.exf b u).2,λp hp=>nomatch hp}
 have st4:=T.keep _ _ _ st2 λb u o e=>k4 b o (k3 b o e);have x3:=mJ m2 ha (.lst []);have go:=rf LA.stab (X:=fU X own bn scope cl s3.heap.objs.size fp s3 (upd E s2.heap.objs.size (.lst []))) (acc:=[]) (hT it s2.heap.objs.size _) ⟨rfl,rfl⟩ rfl R T (B.pg _ _ _ _ _) (B.db _ _ _ _ _ _) hW I4 st4 f4
  (ua own.length ((hE.ext x2).extW x3)) (zW m2 ha []) (so hn) {QS,_,bG,rfl} (rE wk x3) (by
   rw[ea];rintro σ' H' μ' z1 z2 z3 ⟨_,vs',z4,z5⟩;exact GY m2 ha z1 z3 z4 z5 (kj q2 x2))
 have go':codeAny (model X.prog X.w) X.A (.compLoop (.ListComp elt ({tg,iter,ifs,0}::rest) scope pos) 0 (.ref it) (.ref s2.heap.objs.size) (compEnvC scope cl s3.heap.objs.size X.env)) (compPost (model X.prog X.w) X.A X.xe use QQ (.ref s2.heap.objs.size) s3.heap.objs.size) {s3 with heap:=h₁}:=
  codeAny_mono go λr s' ⟨er,σ',H',I',z⟩=>by
   subst er;refine post _ _ s' H' (comp_back I3 f3 I') z (let{m,hn,_}:=I'.loc;⟨m,hn⟩) (λσ2 E s2' I2' hf=>{hf I'.free,λP hs''=>sm I3 (hf I'.free) I2' hs''}) I'.free {Rn I3.lt,λx c e z=>by
    obtain⟨v,q⟩:=I3.cell x c e;exact absurd q.lt (by rw[z];exact RM _)}
 exact codeAny_compStart_list go' (T.self _ 0 _ _ _ st4 go')
def LW (m:Bool){v z j:Expr}{rest:List SH}
 (S:fB X own bn scope) (u:X.calm=true) (hi:DI fa X z j gw) (B:Block fa X (LA fa X.K) own bn scope z t W body g) (R:qm X v z j ifs rest scope pos body) (U:∀i∈W,i∉slots t) (hn:∀i∈slots t++W,i<own.length)
 (hs:∀x,foldedSetIterable j X.env x=pure x):DE fa X (.ListComp v ({z,j,ifs,0}::rest) scope pos) (b8 m own.length t gw g):=by
 intro F s σ H Q I ⟨μ,Z,M,O,P,h⟩;rw[eval_ListComp];refine qa S u hi B R U hn hs I O P h ?_;intro a C Y H' J q ⟨m,hn⟩ y hf _;exact{m,hn,λL E=>{.ref a,H',(y σ H' Y J id).2 L E,rfl,q}}
def yw (m:Bool){y:Str}{rest:List SH}
 (S:fB X own bn scope) (j:X.calm=true) (hi:DI fa X tg iter gw) (B:Block fa X (LA fa X.K) own bn scope tg t W body g) (hT:qm X elt tg iter ifs rest scope pos body) (hW:∀i∈W,i∉slots t) (hn:∀i∈slots t++W,i<own.length)
 (hs:∀x,foldedSetIterable iter X.env x=pure x) (hN:X.N.Nodup) (hy:X.N[i]?=some y) (hl:X.env.scope.names.lookup y=some .local)
 (J:swapsWith (.ListComp elt ({tg,iter,ifs,0}::rest) scope pos) (some (.Name y py)) spos.line X.env=pure true) :
 DS fa X (.Assign [.Name y py] (.ListComp elt ({tg,iter,ifs,0}::rest) scope pos) spos) (λZ M=>(b8 m own.length t gw g Z M).bind λx M=>(bS M (bU (.one i) x Z)).bind λρ1 M=>.ok (.next ρ1) M):=by
 intro O s σ H D' I ⟨μ,Z,M,L,Y,h⟩;obtain⟨x,M1,ex,q⟩:=aC h;rw[exec_Assign_Name_used _ _ _ _ J];refine tqa (wpAny_standAt (tqa ?_));refine tqa (aO (qa S j hi B hT hW hn hs I L Y (by
  rw[ex];exact λv H' μ' P m1 r1=>q _ H' μ' P ((L.ext P).set r1) m1) ?_) λ_ s' hq=>tqb (tqb hq))
 intro a C s' H' Q q ⟨m,hn⟩ u hf ⟨nL,nC⟩;refine wpAny_assign_Name (rM Q hN hy (.inl hl) (v:=.ref a) rfl (λs2 R ⟨b,hb,E⟩=>?_) (.inr hl));have nb:C≠b:=by
  rcases E with z|z
  ·rw[z];exact nL
  ·exact RF (nC y b z)
 exact{m,hn.sameBut hb nb,λU F=>{_,H',(u _ H' s2 R id).2 U F,q}}
end
section
variable{X:Cx}{pins:List (Addr×Obj)}{σ:L2.St}{H:Hp}{s:QC}{h':Heap}{t':Nat}{ch:List Addr}
def vR (I:Inv X pins σ H s)(hf:∀b∈ch,fz X pins H b)(k:∀b o,b∉ch->s.heap.get? b=some o->h'.get? b=some o):Inv X pins σ H {s with heap:=h',toks:=t'}:=by
 have j:∀b u,H b=some u->b∉ch:=λb u e z=>by rw[(hf b z).1] at e;cases e
 refine I.step (λb y=>{(hf b y).2.2.2.1,(hf b y).2.1,(hf b y).2.2.2.2.1,(hf b y).2.2.2.2.2}) (λb o _ _ h e _=>k b o h e) (λb o _ _ h e _=>{o.slots,k b o h e}) (λ_ _ _ _ n=>n)
  (λb o h e=>{o,k b o h e}) (λ_ _ e=>e) (λ_ _ _ e=>e) (λb ps e=>{#[],by rw[e];simp}) (λm hm=>?_) (λb u e=>?_) I.bare
 ·obtain⟨o,E,B,ho,r⟩:=hm;exact{o,E,B,k _ o (λz=>(hf _ z).2.1 rfl) ho,r}
 ·refine(I.hok b u e).stay (λc v h q=>k c v ?_ q) (λ_ q=>q) λ_ _ q=>q;rcases h with z|z
  ·rw[z];exact j b u e
  ·exact j c _ z
def rH (I:Inv X pins σ H s)(hf:∀b∈ch,fz X pins H b)(k:∀b o,b∉ch->s.heap.get? b=some o->h'.get? b=some o)(B:s.heap.objs.size<=T)(new:eA X.prog X.w (upd H T o) h' T o) :
 Inv X pins σ (upd H T o) {s with heap:=h',toks:=t'}:=by
 have hn:=I.hok.fresh B;have y:∀b u,H b=some u->b∉ch:=λb u e z=>by rw[(hf b z).1] at e;cases e
 refine I.step (λb h=>{(hf b h).2.2.2.1,(hf b h).2.1,(hf b h).2.2.2.2.1,(hf b h).2.2.2.2.2}) (λb o _ _ j e _=>k b o j e) (λb o _ _ j e _=>{o.slots,k b o j e})
  (λb o _ e n=>by rw[av (Q1 (QL (QO e) B))];exact n)
  (λb o j e=>{o,k b o j e}) (λb xs e=>by rw[av (aP e hn)];exact e) (λb ob u e=>by rw[av (aP e hn)];exact e) (λb ps e=>{#[],by rw[av (aP e hn),e];simp}) (λm hm=>?_) (λb u e=>?_) I.bare
 ·obtain⟨o,F,E,ho,r⟩:=hm;exact{o,F,E,k _ o (λz=>(hf _ z).2.1 rfl) ho,r}
 ·by_cases h:b=T
  ·subst h;rw[bG] at e;cases e;exact new
  ·rw[av h] at e;refine(I.hok b u e).stay (λc v j q=>k c v ?_ q) (λc q=>by rw[av (aP q hn)];exact q) λc xs q=>by rw[av (aP q hn)];exact q
   rcases j with z|z
   ·rw[z];exact y b u e
   ·exact y c _ z
end
section
variable{fa:Fa}{X:Cx}{a:Expr}{ga:Env->Mem->Res D}{pos p:Pos}
theorem jT:∀(ds:List D) (k i:Nat),(fj k ds)[i]?=(ds[i]?).map λd=>.tup [.int ((k+i:Nat):Int),d]
 |[],_,_=>by simp[fj]
 |d::ds,k,0=>by simp[fj]
 | d::ds,k,i+1=>by
   have:=jT ds (k+1) i;simp only[fj,List.getElem?_cons_succ,this]
   congr 1
   funext d
   congr 3
   omega
def mL:∀(ds:List D) (k:Nat),(fj k ds).length=ds.length
 |[],_=>rfl
 |d::ds,k=>by simp[fj,mL ds]
end
def bA:Bool->Heap->Addr->Array Qt->Prop
 |true,h,a,j=>h.IsList a j
 |false,h,a,j=>h.IsTuple a j
def eW:Bool->Heap->Addr->Addr->Nat->Prop
 |true,h,j,a,i=>h.IsListIter j a i
 |false,h,j,a,i=>h.IsTupleIter j a i
def bA.extBut (x:bA b h a its)(hs:Heap.ExtBut c h h')(n:a≠c):bA b h' a its:=by
 cases b<;>(obtain⟨o,ho,r⟩:=x;exact{o,hs a o n ho,r})
def eW.extBut (x:eW b h it a i)(hs:Heap.ExtBut c h h')(n:it≠c):eW b h' it a i:=by
 cases b<;>(obtain⟨o,ho,r⟩:=x;exact{o,hs it o n ho,r})
def bA.at (x:bA b h a its)(k:∀o,h.get? a=some o->h'.get? a=some o):bA b h' a its:=by
 cases b<;>(obtain⟨o,ho,r⟩:=x;exact{o,k o ho,r})
def eW.at (x:eW b h it a i)(k:∀o,h.get? it=some o->h'.get? it=some o):eW b h' it a i:=by
 cases b<;>(obtain⟨o,ho,r⟩:=x;exact{o,k o ho,r})
def eW.obj (x:eW b h it a i):∃o,h.get? it=some o/\∀v,o.data≠.cell v:=by
 cases b<;>(obtain⟨o,ho,c,d⟩:=x;exact{o,ho,λv z=>by rw[d] at z;cases z})
section
variable{prog:Rv}{w:Rf}{A:R9}{E:Qt->QC->Prop}{s:QC}
def vw {a b:Nat}(h:a≠b):@Ne Addr a b:=h
def IQ {T:Addr}{j:Array Qt}{k:Nat}{x:Qt}{Q:Unit->QC->Prop}(v:s.heap.get? T=some {cls:=.type "tuple",data:=.seq j})(hz:j.size<=64)
 (h:∀u,u.get? T=some {cls:=.type "tuple",data:=.seq (j.setIfInBounds k x)}->R5 T s.heap u->Q () {s with heap:=u}) :
 wpAny (model prog w) A (updateSeq T (·.setIfInBounds k x)) Q E s:=by
 refine wpAny_updateSeq v rfl (h _ ?_ (R6 ..)) (QH hz `d) (by rw[Array.size_setIfInBounds];exact QH hz `d)
 rw[Sb _ v rfl];simp[Obj.mapSeq]
def iQ {b:Bool}{y a:Addr}{i:Nat}{j:Array Qt}{Q:Qt->QC->Prop}(hh:A.handled=none)(h:eW b s.heap y a i)(hl:bA b s.heap a j)
 (I:∀x u,j[i]?=some x->eW b u y a (i+1)->R5 y s.heap u->Q x {s with heap:=u})
 (H:j[i]?=none->∀u e,Heap.ExtBut y s.heap u->(∃o,u.get? e=some o/\o.cls=.type "StopIteration")->E (.ref e) {s with heap:=u}):wpAny (model prog w) A (Builtin.SmallTypes.nextOf (.ref y)) Q E s:=by
 cases b with
 | true=>cases v : j[i]? with
   |some x=>exact wpAny_nextOf_list_item h hl v λu=>I x u v
   |none=>exact wpAny_nextOf_list_end hh h hl v (H v)
 | false=>
   obtain⟨o,ho,J,hd⟩:=id h;obtain⟨L,B,_,nl,z⟩:=hl;refine tqa (wpAny_callSpecial?_slot h.typeIs F.slot_tuple_iterator_next
    (wpAny_call_entry F.slot_tuple_iterator_next h.typeIs F.entry_tuple_iterator_next ?_ (F.args_tuple_iterator_next_1 _)))
   show wpAny _ _ (field (.ref y) 0 >>= _) _ _ s;refine tqa (tqf ho hd rfl ?_);show wpAny _ _ (if (Value.ref a==Value.none)=true then _ else _) _ _ s;rw[if_neg (show ¬ ((Value.ref a==Value.none)=true) from QZ)];refine tqa (tqf ho hd rfl ?_);refine tqa (wpAny_seqItems B z ?_);cases v:j[i]? with
   | some x=>
     simp only[RP,v];refine tqa (wpAny_setField ho hd `s (tqb {x,rfl,tqb (I x _ v ?_ (R6 ..))}))
     exact{_,Sb _ ho (Obj.isFreed_of_fields (Sv hd _)),(Obj.cls_mapFields ..).trans J,by
      rw[Sv hd];simp[rawInt]}
   | none=>
     simp only[RP,v];refine tqa (wpAny_rule (tqa (wpAny_setField ho hd `s ?_)))
     refine tqa ?_;refine tqa (wpAny_newObj_type ?_ (by size_fits))
     refine tqa (wpAny_of_eq (by first|rfl|(simp only[firstArgMember];rfl)) ?_)
     refine wpAny_newObj_type ?_ (by size_fits)
     refine tqa (wpAny_handled ?_);first|rw[show A.in1.handled=none from hh]|rw[hh]
     refine tqa (tqb (wpAny_throw ?_));exact H v _ _ (((R6 ..).extBut.push _).push _) {_,QU _ rfl,rfl}
noncomputable abbrev jb (us:Array Qt):Obj:={cls:=.type "tuple",data:=.seq us}
noncomputable def qy (n k j:Nat):List Qt:=(List.range' k j).map λk=>Value.ref (n+k)
def yG (n m:Nat)(h j:Heap):Prop:=∀(c:Nat) o,(c<n\/c=n+m\/n+m+2<c)->h.get? c=some o->j.get? c=some o
def yL (n i k:Nat)(l:List (Bool×Nat))(h:Heap):Prop:=∀(j:Nat) b a,l[j]?=some (b,a)->eW b h (n+j) a (if j<k then i+1 else i)
def Md (n:Nat)(l:List (Bool×Nat))(xs:Nat->Array Qt)(h:Heap):Prop:=∀(j:Nat) b a,l[j]?=some (b,a)->a<n/\bA b h a (xs j)
abbrev ql (h:Heap)(n m:Nat)(v:Qt):Prop:=IsZip h (n+m+2) (n+m) (n+m+1) v
def PY (n m i k:Nat)(l:List (Bool×Nat))(xs:Nat->Array Qt)(v h:Heap):Prop:=ql h n m .ellipsis/\(∃u:Array Qt,u.size=m/\(∀j<k,u[j]?=(xs j)[i]?)/\h.get? (n+m+1)=some (jb u))/\yL n i k l h/\Md n l xs h/\yG n m v h/\h.objs.size=v.objs.size
theorem EE {M:Model}{u:Type}{f:Qt×Nat->u->Sem (ForInStep u)}{b:u}{Q:u->QC->Prop}(n m:Nat)(I:Nat->QC->Prop)
 (hs:∀k s,k<m->I k s->wpAny M A (f (.ref (n+k),k) b) (λr v=>r=.yield b/\I (k+1) v) E s) (y:∀s,I m s->Q b s):∀(j k:Nat) (s:QC),k+j=m->I k s->wpAny M A (forIn ((qy n k j).zipIdx k) b f) Q E s
 |0,k,s,e,h=>tqb (y s (e ▸ h))
 | j+1,k,s,e,h=>by
   show wpAny M A (forIn ((Value.ref (n+k),k)::(qy n (k+1) j).zipIdx (k+1)) b f) Q E s;rw[List.forIn_cons];refine tqa (aO (hs k s `a h) ?_)
   rintro _ v ⟨rfl,z⟩;exact EE n m I hs y j (k+1) v `a z
def tj {n m i:Nat}{l:List (Bool×Nat)}{xs:Nat->Array Qt}{us:Array Qt}{Q:Qt->QC->Prop}(hh:A.handled=none)(hl:l.length=m+1)(h64:m<64)
 (hz:ql s.heap n (m+1) .none) (hTI:s.heap.get? (n+(m+1))=some (jb (qy n 0 (m+1)).toArray)) (hTO:s.heap.get? (n+(m+1)+1)=some (jb us)) (U:us.size=m+1) (hi:yL n i 0 l s.heap) (H:Md n l xs s.heap)
 (hQ:∀F us,us.size=m+1->(∀k<m+1,us[k]?=(xs k)[i]?)->ql F n (m+1) (rawInt s.heap.objs.size)->F.get? (n+(m+1)+1)=some (jb us)->yL n (i+1) 0 l F->F.get? s.heap.objs.size=some (jb us)->yG n (m+1) s.heap F->Q (.ref s.heap.objs.size) {s with heap:=F})
 (hE:∀F e k,k<m+1->(xs k)[i]?=none->yG n (m+1) s.heap F->(∃o,F.get? e=some o/\o.cls=.type "StopIteration")->E (.ref e) {s with heap:=F}) :
 wpAny (model prog w) A (Builtin.«zip.__next__» {[.ref (n+(m+1)+2)],[]}) (λfin s'=>∃v,fin=.done (.ret v)/\Q v s') E s:=by
 show wpAny _ _ (field (.ref (n+(m+1)+2)) 2 >>= _) _ _ _;refine tqa (tqf hz rfl rfl ?_);refine tqa (tqf hz rfl rfl ?_);refine tqa (wpAny_seqItems hTI rfl ?_);refine tqa ?_;refine tqa (tqf hz rfl rfl (tqb ?_));refine tqa (wpAny_rule ?_);refine tqa (tqf hz rfl rfl ?_);refine tqa (wpAny_setField_rec hz `s λh0 hz0 S=>?_)
 have u0:∀(c:Nat) o,c≠n+(m+1)+2->s.heap.get? c=some o->h0.get? c=some o:=λc o ne=>S.extBut c o ne;have mm:∀{j b a},l[j]?=some (b,a)->j<m+1:=λe=>hl ▸ (Qs.mp e).1;refine tqa (EE n (m+1) (λk s'=>∃h,s'={s with heap:=h}/\PY n (m+1) i k l xs s.heap h) ?_ ?_ (m+1) 0 _ (Nat.zero_add _) {h0,rfl,hz0,{us,U,λ_ z=>absurd z (Sh _),u0 _ _ `a hTO},λj b a e=>(hi j b a e).at λo=>u0 _ o (by have:=mm e;omega),λj b a e=>{(H j b a e).1,(H j b a e).2.at λo=>u0 _ o (by have:=(H j b a e).1;omega)},λc o L=>u0 c o `a,S.1})
 ·rintro k _ hk ⟨h,rfl,hz,⟨us,U,hx,hT⟩,hi,H,kp,sz⟩;obtain⟨⟨b,a⟩,e⟩:∃p,l[k]?=some p:={_,QM `a}
  have it:=hi k b a e;rw[if_neg (RM k)] at it;refine tqa (wpAny_onRaise ?_);refine tqa (iQ hh it (H k b a e).2 (λx h1 ex j1 u=>tqb ?_) λen h1 e1 u ⟨oe,J,R⟩=>?_)
  ·have O:=u.extBut _ _ (vw `a) hT
   refine tqa (wpAny_seqItems O rfl ?_);refine tqa (IQ O `a λh2 hT2 B=>?_)
   have I:∀(c:Nat) o,c≠n+k->c≠n+(m+1)+1->h.get? c=some o->h2.get? c=some o:=λc o x y z=>B.extBut c o y (u.extBut c o x z);refine tqa (wpAny_letGo (tqb {rfl,h2,rfl,I _ _ `a `a hz,{_,(Array.size_setIfInBounds ..).trans U,λj hj=>?_,hT2},λj b' a' M=>?_,λj b a e=>{(H j b a e).1,(H j b a e).2.at λo=>I _ o (by have:=(H j b a e).1;omega) (by have:=(H j b a e).1;omega)},λc o L x=>I c o `a `a (kp c o L x),by rw[B.1,u.1,sz]}))
   ·by_cases jk:j=k
    ·subst jk;rw[Array.getElem?_setIfInBounds_self_of_lt `a,ex]
    ·rw[Array.getElem?_setIfInBounds_ne (RF jk),hx j `a]
   ·by_cases jk:j=k
    ·subst jk;cases e.symm.trans M;rw[if_pos (Nat.lt_succ_self _)];exact j1.at λo=>B.extBut _ o (vw `a)
    ·have q:=hi j b' a' M;have:=mm M;rw[show(if j<k+1 then i+1 else i)=if j<k then i+1 else i by split<;>split<;>omega]
     exact q.at λo=>I _ o `a `a
  ·have W:=u _ _ (vw `a) hz
   have hez:e1≠n+(m+1)+2:=λx=>by subst x;rw[W] at J;cases J;simp at R
   exact wpAny_setField_rec W `s λh2 _ B=>hE h2 e1 k hk en (λc o L x=>B.extBut _ _ (vw `a) (u _ _ (vw `a) (kp c o L x))) {oe,B.extBut _ _ hez J,R}
 ·rintro _ ⟨h4,rfl,X,⟨us,U,hx,hT⟩,hi,H,kp,sz4⟩;refine tqa (wpAny_seqItems hT rfl ?_);refine tqa (wpAny_newTuple (hsz:=QH (show us.toList.length<=64 by rw[SA];omega) `d) ?_)
  have hzlt:=QO X;refine tqa ?_;have hz6:ql (h4.push (jb us)) n (m+1) .ellipsis:=Qu _ X;refine tqa (wpAny_setField_rec hz6 `s λh7 hz7 hs7=>?_)
  refine wpAny_setField_rec hz7 `s λh8 Y hs8=>?_
  have I:∀(c:Nat) o,c≠n+(m+1)+2->(h4.push (jb us)).get? c=some o->h8.get? c=some o:=λc o c1 e=>hs8.extBut _ _ c1 (hs7.extBut _ _ c1 e);refine tqb {_,rfl,?_};have P:=I h4.objs.size _ (Rn hzlt) (QU _ rfl);rw[sz4] at P Y ⊢;refine hQ h8 us U hx Y (I _ _ `a (Qu _ hT)) (λj b a e=>?_) P λc o L e=>I c o `a (Qu _ (kp c o L e))
  have q:=hi j b a e;rw[if_pos (mm e)] at q;exact q.at λo M=>I _ o (by have:=mm e;omega) (Qu _ M)
end
def iE (K:Qr)(H:Hp):Bool->Addr->List V->Prop
 |true,a,xs=>cF K H a xs
 |false,a,xs=>dD K H a xs
noncomputable def ee:D->Bool
 |.tup _=>false
 |_=>true
noncomputable def cX:D->Bool
 |.tup _=>true
 |.lst _=>true
 |.frz _=>true
 |.cell _=>true
 |_=>false
def ng {X:Cx}{u:List (Addr×Obj)}{v:L2.St}{H:Hp}{s:QC}{b:Bool}{a:Addr}{xs:List V}(I:Inv X u v H s)(h:iE X.K H b a xs):∃j:List Qt,Vals xs j/\bA b s.heap a j.toArray:=by
 cases b with
 |true=>obtain⟨j,r,p,_⟩:=I.list h;exact⟨j,r,p.isList⟩
 |false=>obtain⟨j,r,p,_⟩:=I.tuple h;exact⟨j,r,p⟩
def kW {X:Cx}{j:List (Addr×Obj)}{v:L2.St}{H:Hp}{s:QC}{b:Bool}{a:Addr}{xs ys:List V}(I:Inv X j v H s)(h:iE X.K H b a xs)(u:iE X.K H b a ys):xs=ys:=by
 cases b with
 |true=>exact I.list_inj h u
 |false=>exact I.tuple_inj h u
def gj {fa:Fa}{X:Cx}{μ:Mu}{H:Hp}{M:Mem}{d:D}{a:Addr}{ds:List D}(v:RelM fa X.K μ H M)(h:Rep fa X.K μ H d (.ref a))(e:bL M d=some ds):∃vs,iE X.K H (ee d) a vs/\aD fa X.K μ H ds vs:=by
 cases d with
 |tup xs=>cases e;obtain⟨u,vs,e,s,r⟩:=h;cases e;exact⟨vs,s,r⟩
 |lst xs=>obtain⟨u,vs,j,s,r⟩:=bw v h (e);cases j;exact⟨vs,s,r⟩
 |frz xs=>obtain⟨u,vs,j,s,r⟩:=bw v h (e);cases j;exact⟨vs,s,r⟩
 |cell k=>obtain⟨u,vs,j,s,r⟩:=bw v h (e);cases j;exact⟨vs,s,r⟩
 |_=>cases e
def hX {fa:Fa}{X:Cx}{y:List (Addr×Obj)}{L:L2.St}{μ:Mu}{H:Hp}{s:QC}{M:Mem}{d:D}{v:V}(I:Inv X y L H s)(F:RelM fa X.K μ H M)(h:Rep fa X.K μ H d v)(e:cX d=true):∃(a:Nat) (j:Array Qt),v=.ref a/\bA (ee d) s.heap a j:=by
 have u:∀B,bL M d=some B->∃(a:Nat) (j:Array Qt),v=.ref a/\bA (ee d) s.heap a j:=λB z=>by
  obtain⟨a,J,rfl,_,_⟩:=je F h z;obtain⟨J,s1,_⟩:=gj F h z;obtain⟨j,_,p⟩:=ng I s1;exact⟨a,j.toArray,rfl,p⟩
 cases d with
 |tup xs=>exact u xs rfl
 |lst xs=>exact u xs rfl
 |frz xs=>exact u xs rfl
 | cell k=>
   obtain⟨a,e,hk⟩:=id h;obtain⟨B,_,z,_⟩:=F.mu_lt hk;exact u B z
 |_=>cases e
def bA.lt {b:Bool}{h:Heap}{a:Addr}{j:Array Qt}(x:bA b h a j):a<h.objs.size:=by
 cases b<;>(obtain⟨o,ho,r⟩:=x;exact QO ho)
def bA.push {b:Bool}{h:Heap}{a:Addr}{j:Array Qt}(x:bA b h a j)(ob:Obj):bA b (h.push ob) a j:=by
 cases b<;>(obtain⟨o,ho,r⟩:=x;exact{o,Qu _ ho,r})
noncomputable def d9 (b:Bool)(a:Addr):Obj:={cls:=.type (if b then "list_iterator" else "tuple_iterator"),data:=.fields #[.ref a,.int 0 0]}
def eW.new {b:Bool}{h:Heap}{j a:Addr}(e:h.get? j=some (d9 b a)):eW b h j a 0:=by
 cases b<;>exact{_,e,rfl,rfl}
def gO {prog:Rv}{w:Rf}{A:R9}{E:Qt->QC->Prop}{s:QC}{b:Bool}{a:Addr}{j:Array Qt}{Q:Qt->QC->Prop}(h:bA b s.heap a j)(u:Q (.ref s.heap.objs.size) {s with heap:=s.heap.push (d9 b a)}):wpAny (model prog w) A (pyIter (.ref a)) Q E s:=by
 cases b with
 |true=>exact wpAny_pyIter_list h u
 |false=>exact wpAny_pyIter_tuple h u
abbrev jD:=List (Bool×Nat)
def Fz (K:Qr)(l:jD):It:=
 {λi H=>∀ (j : Nat) b a,l[j]? = some (b,a) -> ∃ xs x,iE K H b a xs /\ xs[i]? = some x,
  λi H v u=>∃p h,H p=none/\v=.ref p/\u=upd H p (.tup h)/\h.length=l.length/\∀(j:Nat) b a,l[j]?=some (b,a)->∀xs,iE K H b a xs->h[j]?=xs[i]?,
  λi H=>(∀(j:Nat) b a,l[j]?=some (b,a)->∃xs,iE K H b a xs)/\∃(j:Nat) (b:Bool) (a:Nat) (xs:List V),l[j]?=some (b,a)/\iE K H b a xs/\xs.length<=i}
def tf (n m:Nat)(l:jD)(i:Nat)(h:Heap):Prop:=ql h n (m+1) .none/\h.get? (n+(m+1))=some (jb (qy n 0 (m+1)).toArray)/\(∃j:Array Qt,j.size=m+1/\h.get? (n+(m+1)+1)=some (jb j))/\yL n i 0 l h
noncomputable def DM (n m:Nat):List Addr:=List.range' n (m+4)
def dr {n m b:Nat}:b∈DM n m↔n<=b/\b<n+(m+4):=List.mem_range'_1
def Ep {X:Cx}{u:List (Addr×Obj)}{B:L2.St}{H:Hp}{s:QC}{l:jD}(I:Inv X u B H s)(h:∀(j:Nat) b a,l[j]?=some (b,a)->∃xs,iE X.K H b a xs) :
 ∃(vs:Nat->List V) (ws:Nat->List Qt),∀(j:Nat) b a,l[j]?=some (b,a)->iE X.K H b a (vs j)/\Vals (vs j) (ws j)/\bA b s.heap a (ws j).toArray:=by
 obtain⟨f,hf⟩:=Classical.skolem.mp λj:Nat=>show ∃p:List V×List Qt,∀b a,l[j]?=some (b,a)->iE X.K H b a p.1/\Vals p.1 p.2/\bA b s.heap a p.2.toArray from by
  cases e:l[j]? with
  |none=>exact{([],[]),λ_ _ z=>by cases z}
  | some p=>
    obtain⟨xs,y⟩:=h j p.1 p.2 e;obtain⟨v,r,q⟩:=ng I y;exact{(xs,v),λJ F z=>by cases z;exact⟨y,r,q⟩}
 exact{λj=>(f j).1,λj=>(f j).2,hf}
theorem D7:∀{us:List Qt}{R:Nat->V->Prop},(∀(k:Nat) w,us[k]?=some w->∃y,RelV y w/\R k y)->∃ys,Vals ys us/\∀(k:Nat) y,ys[k]?=some y->R k y
 |[],R,_=>{[],.nil,λ_ _ z=>by simp at z}
 | w::r,R,h=>by
   obtain⟨y,e,q⟩:=h 0 w rfl;obtain⟨ys,v,t⟩:=D7 λk w e=>h (k+1) w e;exact{y::ys,.cons e v,λk z e=>match k,e with
    |0,e=>by cases e;exact q
    |k+1,e=>t k z e}
def tB {P:Rv}{w:Rf}{K:Qr}{M:List Expr}{kk:Nat}{pos:Pos}(n m:Nat)(l:jD)(hl:l.length=m+1)(O:m<64)(hn:∀(j:Nat) b a,l[j]?=some (b,a)->a<n) :
 Turn P w K (.Tuple M kk pos) (Fz K l) (DM n m) (n+(m+1)+2) (λi h=>tf n m l i h) where
 mem:=dr.mpr `a
 obj:=λi h ⟨h1,h2,⟨us,_,h3⟩,B⟩ (b:Nat) u=>by
  replace u:=dr.mp u;by_cases c:b<n+(m+1)
  ·obtain⟨j,rfl⟩:∃j,b=n+j:={b-n,`a}
   exact(B j _ _ (QM `a)).obj
  ·rcases(show b=n+(m+1)\/b=n+(m+1)+1\/b=n+(m+1)+2 by omega) with rfl|rfl|rfl
   ·exact{_,h2,λv z=>by cases z}
   ·exact{_,h3,λv z=>by cases z}
   ·exact{_,h1,λv z=>by cases z}
 keep:=λi h h' ⟨h1,h2,⟨us,y,h3⟩,B⟩ k=>{k _ (dr.mpr `a) _ h1,k _ (dr.mpr `a) _ h2,{us,y,k _ (dr.mpr `a) _ h3},λj b a e=>(B j b a e).at (k _ (dr.mpr (by have:=(Qs.mp e).1;omega)))}
 item:=by
  intro X hP S hK hc i U s σ H E I hf {h1,h2,⟨us,y,h3⟩,B} hg;subst hP S hK;obtain⟨vs,ws,L⟩:=Ep I λj b a e=>(hg j b a e).imp λ_ ⟨_,h,_⟩=>h;have it:∀k,k<m+1->∃x w b a,l[k]?=some (b,a)/\(vs k)[i]?=some x/\(ws k)[i]?=some w/\RelV x w:=λk hk=>by
   have e:l[k]?=some (l[k]'(`a)):=QM _
   obtain⟨xs,x,J,ex⟩:=hg k _ _ e;obtain⟨q1,q2,_⟩:=L k _ _ e;rw[kW I J q1] at ex;obtain⟨w,S,r⟩:=q2.get ex;exact{x,w,_,_,e,ex,S,r}
  have R:s.TypeIs (.ref (n+(m+1)+2)) "zip":={_,h1,rfl};unfold pyNext;refine tqa (wpAny_attempt (wpAny_callSpecial?_slot R F.slot_zip_next
   (wpAny_call_entry F.slot_zip_next R F.entry_zip_next
    (tj (I.ok.hd hc) hl O h1 h2 h3 y B (λj b a e=>{hn j b a e,(L j b a e).2.2}) (λh4 us y J z1 z2 g hTT hk=>tqb {_,rfl,?_}) λh' e k hk en _ _=>?_) (F.args_zip_next_1 _))))
  ·have zlt:n+(m+1)+2<s.heap.objs.size:=QO h1;refine wpAny_letOwnedTupleGo_zip z1 λh5 hz5 hs5=>?_;have Y:∀(c:Nat) o,c≠n+(m+1)+2->h4.get? c=some o->h5.get? c=some o:=λc o=>hs5.extBut c o;obtain⟨ys,vy,ty⟩:=D7 (us:=us.toList) λk w e=>by
    have hk:k<m+1:=by have:=(Qs.mp e).1;rw[SA] at this;omega
    obtain⟨x,w',_,_,_,ex,ew,r⟩:=it k hk;have q:=J k hk;rw[Array.getElem?_toList] at e;simp only[List.getElem?_toArray] at q;rw[e,ew] at q;cases q;exact⟨x,r,ex⟩
   have ly:ys.length=m+1:=by rw[vy.length,SA,y]
   refine{.ref s.heap.objs.size,upd H s.heap.objs.size (.tup ys),rH (s:=s) I hf (λ(b:Nat) o u q=>Y b o (λz=>u (dr.mpr `a)) (hk b o (by rw[dr] at u;omega) q)) (QA _) {by rw[ly];exact QH (show m+1<=64 by omega) `d,us.toList,vy,{_,Y _ _ (Rn zlt) hTT,rfl,_,rfl}},rfl,
    {_,ys,I.hok.fresh (QA _),rfl,rfl,ly.trans hl.symm,λj b a e xs J=>?_},{hz5,Y _ _ `a (hk _ _ `a h2),{us,y,Y _ _ `a z2},λj b a e=>(g j b a e).at λo=>Y _ o (by have:=(Qs.mp e).1;omega)},λ(b:Nat) u=>?_}
   ·have hj:j<ys.length:=by have:=(Qs.mp e).1;omega
    have e1:=QM hj;rw[kW I J (L j b a e).1,ty j _ e1,e1]
   ·rw[dr] at u;rw[av (Q1 (by omega:(b:Nat)<s.heap.objs.size))];exact(hf b (dr.mpr u)).1
  ·obtain⟨_,_,_,_,_,_,ew,_⟩:=it k hk;simp only[List.getElem?_toArray] at en;rw[ew] at en;cases en
 done:=by
  intro X hP S hK hc i U s σ H E I hf {h1,h2,⟨us,y,h3⟩,B} ⟨hs,k,b,a,xs,ek,hq,le⟩;subst hP S hK;obtain⟨vs,ws,L⟩:=Ep I hs;have R:s.TypeIs (.ref (n+(m+1)+2)) "zip":={_,h1,rfl};unfold pyNext;refine tqa (wpAny_attempt (wpAny_callSpecial?_slot R F.slot_zip_next
   (wpAny_call_entry F.slot_zip_next R F.entry_zip_next
    (tj (I.ok.hd hc) hl O h1 h2 h3 y B (λj b a e=>{hn j b a e,(L j b a e).2.2}) (λh4 us y J _ _ _ _ _=>?_) λh' e k _ _ hk he=>?_) (F.args_zip_next_1 _))))
  ·exfalso;have hk:=(Qs.mp ek).1;have q:=J k `a
   obtain⟨q1,q2,_⟩:=L k b a ek;rw[Array.getElem?_eq_getElem `a] at q
   simp only[List.getElem?_toArray] at q;rw[SK (by rw[<- q2.length,kW I q1 hq];exact le)] at q
   cases q
  ·obtain⟨o,ho,hcl⟩:=he;refine tqa (wpAny_isInstance ⟨o,ho,hcl⟩ isSubtype_stop ?_);exact tqb {rfl,vR I hf λ(b:Nat) o u q=>hk b o (by rw[dr] at u;omega) q}
 self:=λ_ _ _ _ _ st h=>wpAny_pyIter_zip st.1 h
def iq (h:Heap):jD->Heap
 |[]=>h
 |p::r=>iq (h.push (d9 p.1 p.2)) r
def sT (h:Heap):jD->List Qt
 |[]=>[]
 |p::r=>.ref h.objs.size::sT (h.push (d9 p.1 p.2)) r
def pE:∀{h:Heap}{l:jD},(iq h l).objs.size=h.objs.size+l.length
 |_,[]=>rfl
 |h,p::r=>by show(iq _ r).objs.size=_;rw[pE,R3,Rx];omega
def mv:∀{l:jD}{h:Heap}{c:Nat}{o:Obj},h.get? c=some o->(iq h l).get? c=some o
 |[],_,_,_,e=>e
 |_::r,_,_,_,e=>mv (l:=r) (Qu _ e)
theorem rW:∀{l:jD}{h:Heap}{j:Nat}{p:Bool×Nat},l[j]?=some p->(iq h l).get? (h.objs.size+j)=some (d9 p.1 p.2)
 |_::r,h,0,_,e=>by cases e;exact mv (l:=r) (QU _ rfl)
 | q::r,h,j+1,_,e=>by
   have:=rW (h:=h.push (d9 q.1 q.2)) (j:=j) e;rw[R3,Sy,Nat.add_comm 1] at this;exact this
def ue:∀{l:jD}{h:Heap}{n k:Nat},h.objs.size=n+k->sT h l=qy n k l.length
 |[],_,_,_,_=>rfl
 | p::r,h,n,k,e=>by
   have:=ue (l:=r) (h:=h.push (d9 p.1 p.2)) (k:=k+1) (by rw[R3,e];rfl)
   show Value.ref h.objs.size::sT _ r=Value.ref (n+k)::qy n (k+1) r.length;rw[this,e]
abbrev DL (h:Heap)(l:jD):Heap:=(iq h l).push (jb (sT h l).toArray)
abbrev vP (h:Heap)(l:jD):Heap:=(DL h l).push (jb (l.map λ_=>Value.none).toArray)
abbrev rD (h:Heap)(l:jD):Heap:=(vP h l).push {cls:=.type "zip",data:=.fields #[.none,.bool false,.bool false,.ref (iq h l).objs.size,.ref (DL h l).objs.size]}
def vO (h:Heap){l:jD}{m:Nat}(hl:l.length=m+1):(vP h l).objs.size=h.objs.size+(m+1)+2/\tf h.objs.size m l 0 (rD h l)/\∀c o,h.get? c=some o->(rD h l).get? c=some o:=by
 have u:(iq h l).objs.size=h.objs.size+(m+1):=by rw[pE,hl]
 have s1:(DL h l).objs.size=h.objs.size+(m+1)+1:=by rw[R3,u]
 have s2:(vP h l).objs.size=h.objs.size+(m+1)+2:=by rw[R3,s1]
 have B:∀{c:Nat}{o},(iq h l).get? c=some o->(rD h l).get? c=some o:=λe=>Qu _ (Qu _ (Qu _ e));have v:(rD h l).get? (iq h l).objs.size=some _:=Qu _ (Qu _ (QU _ rfl));have y:(rD h l).get? (DL h l).objs.size=some _:=Qu _ (QU _ rfl);have z:(rD h l).get? (vP h l).objs.size=some _:=QU _ rfl;rw[u,ue (Nat.add_zero _).symm,hl] at v;rw[s1] at y;rw[s2,s1,u] at z;exact{s2,{z,v,{_,by simp[hl],y},λj b a e=>eW.new (B (rW e))},λc o e=>B (mv e)}
def xW (b0:Bool)(a0:Nat)(b1:Bool)(a1:Nat)(xs0 xs1:Array Qt) :
 Meets (Builtin.«zip.__new__» {[.type "zip",.ref a0,.ref a1],[]}) (λ_ R s=>bA b0 s.heap a0 xs0/\bA b1 s.heap a1 xs1/\
  R (.ok (.ret (.ref (vP s.heap [(b0,a0),(b1,a1)]).objs.size))) {s with heap:=rD s.heap [(b0,a0),(b1,a1)]}):=
 .of_wp λprog w A R s h=>by
  obtain⟨y,g,d,tk,os⟩:=s;obtain⟨z,B,h⟩:=h;have j:=sub_zip;have u:=z;have v:bA b1 (Shared.heap {y.push (d9 b0 a0),g,d,tk,os}) a1 xs1:=(B).push _;wp_walk using gO u,gO v
  exact{_,rfl,h}
def xV (b0:Bool)(a0:Nat)(b1:Bool)(a1:Nat)(b2:Bool)(a2:Nat)(xs0 xs1 xs2:Array Qt) :
 Meets (Builtin.«zip.__new__» {[.type "zip",.ref a0,.ref a1,.ref a2],[]}) (λ_ R s=>bA b0 s.heap a0 xs0/\bA b1 s.heap a1 xs1/\bA b2 s.heap a2 xs2/\
  R (.ok (.ret (.ref (vP s.heap [(b0,a0),(b1,a1),(b2,a2)]).objs.size))) {s with heap:=rD s.heap [(b0,a0),(b1,a1),(b2,a2)]}):=
 .of_wp λprog w A R s h=>by
  obtain⟨j,g,d,tk,os⟩:=s;obtain⟨B,F,H,h⟩:=h;have u:=sub_zip;have v:=B;have y:bA b1 (Shared.heap {j.push (d9 b0 a0),g,d,tk,os}) a1 xs1:=(F).push _;have z:bA b2 (Shared.heap {(j.push (d9 b0 a0)).push (d9 b1 a1),g,d,tk,os}) a2 xs2:=((H).push _).push _;wp_walk using gO v,gO y,gO z
  exact{_,rfl,h}
def qs (a b c:Qt):checkTypeCall "zip" {[a,b,c],[]}=pure ():=by kernel_rfl
def sM (a b c:Qt):checkBuiltinCall "zip.__new__" {[.type "zip",a,b,c],[]}=pure ():=by kernel_rfl
def mV (a b c d:Qt):argsOk "object.__init__" {[a,b,c,d],[]}:=by
 unfold argsOk;rw[signature?_of (n:=['_','_','t','i','n','i','_','_']) (by kernel_rfl) F.owner_object];kernel_rfl
section
variable{prog:Rv}{w:Rf}{A:R9}{E:Qt->QC->Prop}{s:QC}{a0 a1 a2:Nat}{b0 b1 b2:Bool}{xs0 xs1 xs2:Array Qt}{Q:Qt->QC->Prop}
def Bd (u:bA b0 s.heap a0 xs0)(v:bA b1 s.heap a1 xs1)(h:∀j,tf s.heap.objs.size 1 [(b0,a0),(b1,a1)] 0 j->(∀c o,s.heap.get? c=some o->j.get? c=some o)->Q (.ref (s.heap.objs.size+2+2)) {s with heap:=j}) :
 wpAny (model prog w) A (call (.type "zip") [.ref a0,.ref a1]) Q E s:=by
 obtain⟨z,y,x⟩:=vO s.heap (l:=[(b0,a0),(b1,a1)]) rfl;refine callType_new F.called_zip `d (F.typeCall_zip_2 _ _) (F.newCall_zip_2 _ _) (λobj=>F.args_object_init_3 obj _ _) F.entry_zip_new (xW b0 a0 b1 a1 xs0 xs1) {u,v,?_}
 show _/\_;rw[z];exact{{_,y.1,rfl},h _ y x}
def Bc (u:bA b0 s.heap a0 xs0)(v:bA b1 s.heap a1 xs1)(B:bA b2 s.heap a2 xs2)(h:∀j,tf s.heap.objs.size 2 [(b0,a0),(b1,a1),(b2,a2)] 0 j->(∀c o,s.heap.get? c=some o->j.get? c=some o)->Q (.ref (s.heap.objs.size+3+2)) {s with heap:=j}) :
 wpAny (model prog w) A (call (.type "zip") [.ref a0,.ref a1,.ref a2]) Q E s:=by
 obtain⟨z,y,x⟩:=vO s.heap (l:=[(b0,a0),(b1,a1),(b2,a2)]) rfl;refine callType_new F.called_zip `d (qs _ _ _) (sM _ _ _) (λobj=>mV obj _ _ _) F.entry_zip_new (xV b0 a0 b1 a1 b2 a2 xs0 xs1 xs2) {u,v,B,?_}
 show _/\_;rw[z];exact{{_,y.1,rfl},h _ y x}
end
def pj (d0 d1:D):Walk:=λM=>(bL M d0).bind λh=>(bL M d1).map λj=>iI h j
def nH (j u:Env->Mem->Res D):Env->Mem->Res Walk:=λh M=>(j h M).bind λd0 M=>(u h M).bind λd1 M=>if cX d0&&cX d1 then .ok (pj d0 d1) M else .bad
theorem tq:∀(j u:List D) (i:Nat) (d:D),(iI j u)[i]?=some d↔∃h e1,j[i]?=some h/\u[i]?=some e1/\d=.tup [h,e1]
 |v::t0,y::t1,0,d=>by simp[iI,eq_comm]
 | v::t0,y::t1,i+1,d=>by
   have:=tq t0 t1 i d;simpa[iI] using this
 |[],_,i,d=>by simp[iI]
 |_::_,[],i,d=>by simp[iI]
def tm:∀(j u:List D) (i:Nat),(iI j u).length<=i->j.length<=i\/u.length<=i
 |v::t0,y::t1,0,h=>by simp[iI] at h
 | v::t0,y::t1,i+1,h=>by
   have:=tm t0 t1 i (by simpa[iI] using h)
   simpa using this
 |[],_,i,h=>`s
 |_::_,[],i,h=>`s
def kI (d0 d1 d2:D):Walk:=λM=>(bL M d0).bind λh=>(bL M d1).bind λj=>(bL M d2).map λu=>fC h j u
def nF (j u v:Env->Mem->Res D):Env->Mem->Res Walk:=λh M=>(j h M).bind λd0 M=>(u h M).bind λd1 M=>(v h M).bind λd2 M=>if cX d0&&cX d1&&cX d2 then .ok (kI d0 d1 d2) M else .bad
theorem rC:∀(j u v:List D) (i:Nat) (d:D),(fC j u v)[i]?=some d↔∃h e1 e2,j[i]?=some h/\u[i]?=some e1/\v[i]?=some e2/\d=.tup [h,e1,e2]
 |y::t0,z::t1,B::t2,0,d=>by simp[fC,eq_comm]
 | y::t0,z::t1,B::t2,i+1,d=>by
   have:=rC t0 t1 t2 i d;simpa[fC] using this
 |[],_,_,i,d=>by simp[fC]
 |_::_,[],_,i,d=>by simp[fC]
 |_::_,_::_,[],i,d=>by simp[fC]
def rB:∀(j u v:List D) (i:Nat),(fC j u v).length<=i->j.length<=i\/u.length<=i\/v.length<=i
 |y::t0,z::t1,B::t2,0,h=>by simp[fC] at h
 | y::t0,z::t1,B::t2,i+1,h=>by
   have:=rB t0 t1 t2 i (by simpa[fC] using h)
   simpa using this
 |[],_,_,i,h=>`s
 |_::_,[],_,i,h=>`s
 |_::_,_::_,[],i,h=>`s
def Et {fa:Fa}{K:Qr}{μ:Mu}{H:Hp}:∀{es:List D}{ws:List V},es.length=ws.length->(∀(j:Nat) e w,es[j]?=some e->ws[j]?=some w->Rep fa K μ H e w)->aD fa K μ H es ws
 |[],[],_,_=>rfl
 |e::es,w::ws,hl,h=>{w,ws,rfl,h 0 e w rfl rfl,Et (by simpa using hl) λj e w=>h (j+1) e w}
def tu {fa:Fa}{X:Cx}{μ0:Mu}{H0:Hp}{l:jD}{w:Walk} (Y:∀μ H M ds,ExtW μ0 H0 μ H->RelM fa X.K μ H M->w M=some ds->∃ys:List (List D),ys.length=l.length/\(∀(j:Nat) y b a,ys[j]?=some y->l[j]?=some (b,a)->∃vs,iE X.K H b a vs/\aD fa X.K μ H y vs)/\
 (∀(i:Nat) d,ds[i]?=some d->∃es,d=.tup es/\es.map some=ys.map (·[i]?))/\∀i,ds.length<=i->∃y∈ys,y.length<=i):dC fa X.K μ0 H0 w (Fz X.K l):=λμ H M ds x L e=>by
 obtain⟨ys,hl,B,hd,he⟩:=Y μ H M ds x L e;have at_:∀(j:Nat) b a,l[j]?=some (b,a)->∃y vs,ys[j]?=some y/\iE X.K H b a vs/\aD fa X.K μ H y vs:=λj b a e=>by
  have hj:=(Qs.mp e).1;have u:=QM (l:=ys) (i:=j) `a
  obtain⟨vs,q,r⟩:=B j _ b a u e;exact{_,vs,u,q,r}
 refine{λi d O=>?_,λi O=>{λj b a e=>?_,?_}}
 ·obtain⟨es,rfl,F⟩:=hd i d O;have J:∀{j:Nat}{y:List D},ys[j]?=some y->es[j]?.map some=some y[i]?:=λ{j y} u=>by
   have:=congrArg (·[j]?) F;simpa[u] using this
  have le:es.length=l.length:=by have:=congrArg List.length F;simpa[hl] using this
  have S:∀(j:Nat) b a,l[j]?=some (b,a)->∃vs e v,es[j]?=some e/\iE X.K H b a vs/\vs[i]?=some v/\Rep fa X.K μ H e v:=λj b a e=>by
   obtain⟨y,vs,u,q,r⟩:=at_ j b a e;have z:=J u;cases h:es[j]? with
   |none=>rw[h] at z;cases z
   | some e=>
     rw[h] at z;obtain⟨v,B,R⟩:=r.get (Qz z).symm;exact⟨vs,e,v,rfl,q,B,R⟩
  refine{λj b a e=>?_,λy H' ⟨p,zs,P,u,U,lz,t⟩=>?_}
  ·obtain⟨vs,_,v,_,q,B,_⟩:=S j b a e;exact⟨vs,v,q,B⟩
  subst U u;refine{Ext.alloc L P,L.alloc P,p,zs,rfl,.inl (.inl bG),Et (le.trans lz.symm) λj e w F W=>?_};have I:=QM (l:=l) (i:=j) (by have:=(Qs.mp F).1;omega)
  obtain⟨vs,e',v,h1,q,B,R⟩:=S j _ _ I;have z:=t j _ _ I vs q;rw[W,B] at z;rw[F] at h1;cases z;cases h1;exact R.ext (Ext.alloc L P)
 ·obtain⟨_,vs,_,q,_⟩:=at_ j b a e;exact⟨vs,q⟩
 ·obtain⟨y,hy,ly⟩:=he i O;obtain⟨j,J⟩:=List.getElem?_of_mem hy;have I:=QM (l:=l) (i:=j) (by have:=(Qs.mp J).1;omega)
  obtain⟨vs,q,r⟩:=B j y _ _ J I;exact{j,_,_,vs,I,q,by rw[r.length];exact ly}
section
variable{fa:Fa}{X:Cx}{μ0:Mu}{H0:Hp}{d0 d1 d2:D}{a0 a1 a2:Nat}(r0:Rep fa X.K μ0 H0 d0 (.ref a0))(r1:Rep fa X.K μ0 H0 d1 (.ref a1))(r2:Rep fa X.K μ0 H0 d2 (.ref a2))
include r0 r1
theorem yW:dC fa X.K μ0 H0 (pj d0 d1) (Fz X.K [(ee d0,a0),(ee d1,a1)]):=tu λR H M O x F e=>by
 obtain⟨v,L,e⟩:=QT.mp e;obtain⟨B,s1,rfl⟩:=QG.mp e;refine{[v,B],rfl,λj y b a u h=>?_,λi d hd=>?_,λi J=>?_}
 ·match j,u,h with
  |0,u,h=>cases u;cases h;exact gj F (Rep.extW x r0) L
  |1,u,h=>cases u;cases h;exact gj F (Rep.extW x r1) s1
 ·obtain⟨P,e1,I,h1,rfl⟩:=(tq v B i d).mp hd;exact{_,rfl,by simp[I,h1]}
 ·rcases tm v B i J with z|z<;>exact{_,`s,z}
include r2
theorem yV:dC fa X.K μ0 H0 (kI d0 d1 d2) (Fz X.K [(ee d0,a0),(ee d1,a1),(ee d2,a2)]):=tu λS H M P x v e=>by
 obtain⟨B,O,e⟩:=QT.mp e;obtain⟨F,s1,e⟩:=QT.mp e;obtain⟨I,s2,rfl⟩:=QG.mp e;refine{[B,F,I],rfl,λj y b a u h=>?_,λi d hd=>?_,λi L=>?_}
 ·match j,u,h with
  |0,u,h=>cases u;cases h;exact gj v (Rep.extW x r0) O
  |1,u,h=>cases u;cases h;exact gj v (Rep.extW x r1) s1
  |2,u,h=>cases u;cases h;exact gj v (Rep.extW x r2) s2
 ·obtain⟨R,e1,e2,J,h1,h2,rfl⟩:=(rC B F I i d).mp hd;exact{_,rfl,by simp[J,h1,h2]}
 ·rcases rB B F I i L with z|z|z<;>exact{_,`s,z}
end
set_option tactic.hygienic true in
def HV {fa:Fa}{X:Cx}{B:List Expr}{kk:Nat}{tp p pos:Pos}{Y e1:Expr}{g0 g1:Env->Mem->Res D}(h0:DE fa X Y g0)(h1:DE fa X e1 g1)(hg:Gl X "zip")(hm:X.mg "zip"=none)
 (F:starEach [Y,e1] X.env=[(false,eval Y X.env),(false,eval e1 X.env)]) (v:starEach [e1] X.env=[(false,eval e1 X.env)]):DI fa X (.Tuple B kk tp) (.Call (.Name "zip" p) [Y,e1] [] pos) (nH g0 g1):=by
 intro O s σ H R I ⟨μ,Z,M,hE,hM,h⟩;obtain⟨d0,M0,c0,t0⟩:=aC h;obtain⟨d1,M1,c1,t1⟩:=aC t0;split at t1
 ·next J=>
  simp only[Qw] at J;obtain⟨hq0,hq1⟩:=J;refine Call_ (gV I hg hm boot_zip (RN (aO (bC h0 (bC h1 cY v) (by rw[F,v]) pos O s σ H (λvs y=>∃U W u,vs=[U,W]/\Ext μ H u y/\RelM fa X.K u y M1/\Rep fa X.K u y d0 U/\Rep fa X.K u y d1 W) I ?_) λus s1 ⟨vs,y,z,r1,U,W,u,ev,x1,L,P,S⟩=>?_) (by rw[F,v]) (by rw[v];rfl)))
  ·refine{μ,Z,M,hE,hM,?_};rw[c0];intro U y u x1 L r0;refine{u,Z,M0,(hE.ext x1),L,?_};rw[c1];intro W H2 μ2 x2 m2 r1;exact{U,W,μ2,rfl,(x1.trans x2),m2,(r0.ext x2),r1}
  subst ev;obtain⟨a0,its0,rfl,z0⟩:=hX z L P hq0;obtain⟨a1,its1,rfl,z1⟩:=hX z L S hq1;cases r1 with
  | cons y0 r1=>
    cases r1 with
    | cons y1 r1=>
      cases r1;obtain rfl:=y0;obtain rfl:=y1;refine Bd z0 z1 λh1 za hk=>?_;have I2:=z.kept (t':=s1.toks) hk;refine wpAny_pyIter_zip za.1 ?_;refine{s1.heap.objs.size+2+2,DM s1.heap.objs.size 1,_,_,y,rfl,I2,tB s1.heap.objs.size 1 [(ee d0,a0),(ee d1,a1)] rfl `d (λj b a e=>match j,e with
       |0,e=>by cases e;exact z0.lt
       |1,e=>by cases e;exact z1.lt),za,λb hb=>?_,t1 _ y u x1 L (yW P S)}
      have hb:=(dr.mp hb).1;exact z.fpOk hb (z.hok.fresh hb)
 ·exact t1.elim
set_option tactic.hygienic true in
def HU {fa:Fa}{X:Cx}{F:List Expr}{kk:Nat}{tp p pos:Pos}{e0 e1 e2:Expr}{g0 g1 g2:Env->Mem->Res D}(h0:DE fa X e0 g0)(h1:DE fa X e1 g1)(h2:DE fa X e2 g2)(hg:Gl X "zip")(hm:X.mg "zip"=none)
 (J:starEach [e0,e1,e2] X.env=[(false,eval e0 X.env),(false,eval e1 X.env),(false,eval e2 X.env)]) (y:starEach [e1,e2] X.env=[(false,eval e1 X.env),(false,eval e2 X.env)]) (L:starEach [e2] X.env=[(false,eval e2 X.env)]):DI fa X (.Tuple F kk tp) (.Call (.Name "zip" p) [e0,e1,e2] [] pos) (nF g0 g1 g2):=by
 intro P s σ H R I ⟨μ,Z,M,hE,hM,h⟩;obtain⟨d0,M0,c0,t0⟩:=aC h;obtain⟨d1,M1,c1,t1⟩:=aC t0;obtain⟨d2,M2,c2,t2⟩:=aC t1;split at t2
 ·next O=>
  simp only[Qw,and_assoc] at O;obtain⟨hq0,hq1,hq2⟩:=O;refine Call_ (gV I hg hm boot_zip (RN (aO (bC h0 (bC h1 (bC h2 cY L) (by rw[y,L])) (by rw[J,y]) pos P s σ H (λvs v=>∃Y v1 v2 u,vs=[Y,v1,v2]/\Ext μ H u v/\RelM fa X.K u v M2/\Rep fa X.K u v d0 Y/\Rep fa X.K u v d1 v1/\Rep fa X.K u v d2 v2) I ?_) λus s1 ⟨vs,v,z,r1,Y,v1,v2,u,ev,x1,B,S,U,W⟩=>?_) (by rw[J,y]) (by rw[y];rfl)))
  ·refine{μ,Z,M,hE,hM,?_};rw[c0];intro Y v u x1 B r0;refine{u,Z,M0,(hE.ext x1),B,?_};rw[c1];intro v1 H2 μ2 x2 m2 r1;refine{μ2,Z,M1,((hE.ext x1).ext x2),m2,?_};rw[c2];intro v2 H3 μ3 x3 m3 r2;exact{Y,v1,v2,μ3,rfl,((x1.trans x2).trans x3),m3,((r0.ext x2).ext x3),(r1.ext x3),r2}
  subst ev;obtain⟨a0,its0,rfl,z0⟩:=hX z B S hq0;obtain⟨a1,its1,rfl,z1⟩:=hX z B U hq1;obtain⟨a2,its2,rfl,z2⟩:=hX z B W hq2;cases r1 with
  | cons y0 r1=>
    cases r1 with
    | cons y1 r1=>
      cases r1 with
      | cons y2 r1=>
        cases r1;obtain rfl:=y0;obtain rfl:=y1;obtain rfl:=y2;refine Bc z0 z1 z2 λh1 za hk=>?_;have I2:=z.kept (t':=s1.toks) hk;refine wpAny_pyIter_zip za.1 ?_;refine{s1.heap.objs.size+3+2,DM s1.heap.objs.size 2,_,_,v,rfl,I2,tB s1.heap.objs.size 2 [(ee d0,a0),(ee d1,a1),(ee d2,a2)] rfl `d (λj b a e=>match j,e with
         |0,e=>by cases e;exact z0.lt
         |1,e=>by cases e;exact z1.lt
         |2,e=>by cases e;exact z2.lt),za,λb hb=>?_,t2 _ v u x1 B (yV S U W)}
        have hb:=(dr.mp hb).1;exact z.fpOk hb (z.hok.fresh hb)
 ·exact t2.elim
noncomputable def yu (h:Addr):Obj:={cls:=.type "enumerate",data:=.fields #[.none,.bool false,.ref h,rawInt 0,.none,.none]}
set_option tactic.hygienic true in
def Ax (l:Addr)(us:Array Qt)(n:Nat)(dct:Option Addr)(sl:Array (Option Qt)) :
 Meets (Builtin.«enumerate.__new__» {[.type "enumerate",.ref l],[]}) (λ_ R s=>s.heap.get? l=some {.type "tuple",dct,.seq us n,sl}/\
  R (.ok (.ret (.ref (s.heap.push (d9 false l)).objs.size))) {s with heap:=(s.heap.push (d9 false l)).push (yu s.heap.objs.size)}):=
 .of_wp λprog w A R s h=>by
  obtain⟨v,g,d,tk,os⟩:=s;obtain⟨j,h⟩:=h;have q:=sub_enumerate;have u:Heap.IsTuple (Shared.heap ⟨v,g,d,tk,os⟩) l us:={_,j,rfl,n,rfl};wp_walk using AutoSeq1.wpAny_loadPart' j
  refine wpAny_stack_any λ_=>tqb ?_;split
  ·rename_i c _ _ _ _ _;cases (c==Value.type "enumerate")<;>
   ·wp_walk using AutoSeq1.wpAny_loadPart' j,wpAny_pyIter_tuple u
    exact{_,rfl,h}
  ·wp_walk using AutoSeq1.wpAny_loadPart' j,wpAny_pyIter_tuple u
   exact{_,rfl,h}
section
variable{prog:Rv}{w:Rf}{A:R9}{E:Qt->QC->Prop}{s:QC}
def Ds (u:bA b s.heap l us)
 (h:∀j,IsEnum j (s.heap.objs.size+1) s.heap.objs.size 0 .none->eW b j s.heap.objs.size l 0->(∀c o,s.heap.get? c=some o->j.get? c=some o)->Q (.ref (s.heap.objs.size+1)) {s with heap:=j}):wpAny (model prog w) A (call (.type "enumerate") [.ref l]) Q E s:=by
 cases b with
 |true=>exact call_enumerate_list u λj e i _ k=>h j e i k
 | false=>
   obtain⟨⟨c,dct,B,sl⟩,z,y,n,hd⟩:=u;cases y;cases hd;refine callType_new F.called_enumerate `d (F.typeCall_enumerate_1 _) (F.newCall_enumerate_1 _) (λo=>F.args_object_init_2 o _) F.entry_enumerate_new (Ax l us n dct sl) {z,?_}
   have v:(s.heap.push (d9 false l)).objs.size=s.heap.objs.size+1:=R3 ..;rw[v];have he:IsEnum ((s.heap.push (d9 false l)).push (yu s.heap.objs.size)) (s.heap.objs.size+1) s.heap.objs.size 0 .none:=by
    have:=QU (s.heap.push (d9 false l)) (o:=yu s.heap.objs.size) rfl;rw[v] at this;exact this
   exact{{_,he,rfl},h _ he (eW.new (Qu _ (QU _ rfl))) λc o x=>Qu _ (Qu _ x)}
def LH (hh:A.handled=none)(y:l≠it)(us:Array Qt):Draws prog w A it [it,l] us.size (λi v=>us[i]?=some v) (λi h=>eW b h it l i/\bA b h l us) where
 live:=λ_ _ st=>let{o,ho,_}:=st.1.obj;⟨o,ho⟩
 frame:=λ_ _ _ st hk=>{st.1.at λo e=>hk it `s o e,st.2.at λo e=>hk l `s o e}
 item:=λi s Q E J st I=>iQ hh st.1 st.2 (λx F u B j=>I _ F s.toks u {B,st.2.extBut j.extBut y} j) λz=>by rw[Array.getElem?_eq_getElem J] at z;cases z
 done:=λs Q E st H=>iQ hh st.1 st.2 (λx F u=>by rw[Array.getElem?_eq_none (QA _)] at u;cases u) λ_=>H
def LG (hh:A.handled=none)(v:us[i]?=none):Draws prog w A it [it,l] i (λ_ _=>True) (λk h=>k=i/\eW b h it l i/\bA b h l us) where
 live:=λ_ _ st=>let{o,ho,_}:=st.2.1.obj;⟨o,ho⟩
 frame:=λ_ _ _ st hk=>{st.1,st.2.1.at λo e=>hk it `s o e,st.2.2.at λo e=>hk l `s o e}
 item:=λk s Q E u st z=>absurd st.1 (Q1 u)
 done:=λs Q E st j=>iQ hh st.2.1 st.2.2 (λx y e=>by rw[v] at e;cases e) λ_=>j
def Nn {P:Nat->Qt->Prop}{St:Nat->Heap->Prop}(D:Draws prog w A it fp n P St)(k:Nat):Draws prog w A it fp (k+n) (λj=>P (j-k)) (λj h=>k<=j/\St (j-k) h) where
 live:=λ_ _ st=>D.live _ _ st.2
 frame:=λ_ _ _ st hk=>{st.1,D.frame _ _ _ st.2 hk}
 item:=λj s Q E B st y=>D.item (j-k) s Q E (by have:=st.1;omega) st.2 λx u tk z hs=>y x u tk z {Nat.le_succ_of_le st.1,by rw[Nat.succ_sub st.1];exact hs}
 done:=λs Q E st v=>D.done s Q E (by have:=st.2;rwa [Q7] at this) v
end
noncomputable def Ov (K:Qr)(b:Bool)(a:Addr)(k:Nat):It:=
 {λi H=>∃xs x,iE K H b a xs/\xs[i]?=some x,λi H v h=>∃p x,H p=none/\v=.ref p/\h=upd H p (.tup [.int (k+i:Nat),x])/\∀xs,iE K H b a xs->xs[i]?=some x,λi H=>∃xs,iE K H b a xs/\xs.length<=i}
def zl {K:Qr}(b:Bool)(a L e:Addr)(k:Nat)(M:e≠L)(hna:a≠L)(hea:e≠a) :
 Turn P w K (.Tuple elts kk pos) (Ov K b a k) [e,L] e (λi h=>(∃old,IsEnum h e L (k+i:Nat) old)/\eW b h L a i) where
 mem:=`s
 obj:=λi h ⟨⟨old,he⟩,hi⟩ c B=>by
  rcases Rg.mp B with z|z
  ·subst z;exact{_,he,λv z=>by cases z}
  ·have e:c=L:=by simpa using z
   subst e;exact hi.obj
 keep:=λi h h' ⟨⟨old,he⟩,st⟩ q=>{{old,q e `s _ he},st.at λo e=>q L `s o e}
 item:=by
  intro X hP hw hK hc i S s σ H E I hf st hg;subst hP hw hK;obtain⟨xs,x,Y,hx⟩:=hg;obtain⟨⟨old,he⟩,F⟩:=st;obtain⟨J,rv,p⟩:=ng I Y;obtain⟨u,hu,ru⟩:=rv.get hx;have hi:i<J.toArray.size:=by have:=(Qs.mp hu).1;simpa using this
  have R:k+i-k=i:=Q7 k i;refine wpAny_pyNext_enum_itemD (Nn (LH (A:=X.A.in1) (I.ok.hd hc) hna J.toArray) k) he {RJ k i,by rw[R];exact⟨F,p⟩} (Nat.add_lt_add_left hi k) M (by simp[M,hea]) λU h1 tk y ho j hT hsz hk=>{_,rfl,?_}
  rw[R] at y;replace j:=j.2;rw[show k+i+1-k=i+1 from Q7 k (i+1)] at j;have eu:U=u:=by
   have y:J[i]?=some U:=by simpa using y
   rw[hu] at y;exact(Qz y).symm
  subst eu;have hT0:=I.hok.fresh (QA _);have Q:=QO he;refine wpAny_letOwnedTupleGo_enum ho λh2 he2 O=>?_;have hT2:h2.get? s.heap.objs.size=some {cls:=.type "tuple",data:=.seq #[.int (k+i:Nat) tk,U]}:=(O.2 _ (Rn Q)).trans hT;refine{.ref s.heap.objs.size,upd H s.heap.objs.size (.tup [.int (k+i:Nat),x]),rH (s:=s) I hf (λc o B q=>(O.2 c (λz=>B (by simp[z]))).trans (hk c o (λz=>B (by simp[z])) (λz=>B (by simp[z])) q)) (QA _) {?_,[.int (k+i:Nat) tk,U],.cons {_,rfl} (.cons ru .nil),{_,hT2,rfl,_,rfl}},rfl,
   {_,x,hT0,rfl,rfl,λys hy=>by rw[kW I hy Y];exact hx},{⟨U,he2⟩,j.1.extBut O.extBut (RF M)},λc B=>?_}
  ·show 2<=sizeLine;decide
  ·have:c<s.heap.objs.size:=by
    rcases Rg.mp B with z|z
    ·subst z;exact Q
    ·have e:c=L:=by simpa using z
     subst e;obtain⟨o,e,_⟩:=F.obj;exact QO e
   rw[av (Q1 this)];exact(hf c B).1
 done:=by
  intro X hP hw hK hc i S s σ H E I hf st hg;subst hP hw hK;obtain⟨xs,Y,hx⟩:=hg;obtain⟨⟨old,he⟩,F⟩:=st;obtain⟨J,rv,p⟩:=ng I Y;have hl:=rv.length;exact wpAny_pyNext_enum_endD (LG (A:=X.A.in1) (I.ok.hd hc) `o) he ⟨rfl,F,p⟩ λh' eb=>{rfl,vR I hf λc o B q=>eb c o (λz=>B (by simp[z])) q}
 self:=λ_ _ _ _ _ ⟨⟨old,he⟩,_⟩ h=>wpAny_pyIter_enum he h
section
variable{fa:Fa}{X:Cx}{a:Expr}{ga:Env->Mem->Res D}{pos p:Pos}
def yY {ad:Addr}{k:Nat}(h:Rep fa X.K μ0 H0 dd (.ref ad)):dC fa X.K μ0 H0 (λM=>(bL M dd).map (fj k)) (Ov X.K (ee dd) ad k):=λY H M W x j e=>by
 dsimp only at e;cases u:bL M dd with
 |none=>rw[u] at e;cases e
 | some I=>
   rw[u] at e;have e:=Qz e;subst e;obtain⟨F,s,r⟩:=gj j (Rep.extW x h) u;refine{λi d hd=>?_,λi P=>{F,s,by rw[r.length,<- mL I k];exact P}}
   rw[jT] at hd;cases e1:I[i]? with
   |none=>rw[e1] at hd;cases hd
   | some U=>
     rw[e1] at hd;have hd:=Qz hd;subst hd;obtain⟨v,J,R⟩:=r.get e1;refine{⟨F,v,s,J⟩,λy S ⟨q,z,B,O,L,Q⟩=>?_};have:=Q F s;rw[J] at this;cases this;subst L O;refine{Ext.alloc j B,j.alloc B,q,[.int (k+i:Nat),v],rfl,.inl (.inl bG),.int (k+i:Nat),[v],rfl,rfl,v,[],rfl,R.ext (Ext.alloc j B),rfl}
def gZ (ga:Env->Mem->Res D):Env->Mem->Res Walk:=λh M=>(ga h M).bind λx M=>if cX x=true then .ok (λM=>(bL M x).map (fj 0)) M else .bad
def HX {B:List Expr}(ha:DE fa X a ga)(hg:Gl X "enumerate")(hm:X.mg "enumerate"=none)(hs:starEach [a] X.env=[(false,eval a X.env)]):DI fa X (.Tuple B kk tp) (.Call (.Name "enumerate" p) [a] [] pos) (gZ ga):=by
 intro F s σ H R I ⟨Y,Z,M,hE,hM,h⟩;obtain⟨x,M1,e,q⟩:=aC h;cases Q:cX x with
 |false=>rw[Q] at q;exact q.elim
 |true=>
 rw[Q] at q;refine Call_ (gV I hg hm boot_enumerate (RN (aO (bC ha cY hs pos F s σ H (λW u=>∃v j,W=[v]/\Ext Y H j u/\RelM fa X.K j u M1/\Rep fa X.K j u x v) I {Y,Z,M,hE,hM,?_}) λus s1 ⟨W,u,J,r1,v,j,ev,S,O,U⟩=>?_) hs rfl))
 ·rw[e];exact λv u j S O r1=>⟨v,j,rfl,S,O,r1⟩
 subst ev;obtain⟨ad,its,rfl,p1⟩:=hX J O U Q;cases r1 with
 | cons r1 rr=>
   cases rr;obtain rfl:=r1;have y:=p1.lt;refine Ds p1 λh1 he P hk=>?_;have I2:=J.kept (t':=s1.toks) hk;refine wpAny_pyIter_enum he ?_;refine{s1.heap.objs.size+1,[s1.heap.objs.size+1,s1.heap.objs.size],_,_,u,rfl,I2,zl (ee x) ad s1.heap.objs.size (s1.heap.objs.size+1) 0 (Nat.succ_ne_self _) (Q1 y) (Rn (Sf y)),{{.none,he},P},λb L=>?_,q _ u j S O (yY U)};have L:s1.heap.objs.size<=b:=by
    rcases Rg.mp L with z|z
    ·subst z;exact S0 _
    ·have e:b=s1.heap.objs.size:=by simpa using z
     subst e;exact QA _
   exact J.fpOk L (J.hok.fresh L)
end
abbrev GE:=Env->Mem->Res D
abbrev GT:=Env->Mem->Res Bool
abbrev GA:=Env->Mem->Res (List D)
abbrev GW:=Env->Mem->Res Walk
abbrev GS:=Env->Mem->Res Fl
abbrev GB:=Env->List D->Mem->Res (List D)
abbrev Call:=Nat->List D->Mem->Res D
def aa (i:Nat):GE:=λh M=>bS M (h[i]?.getD none)
noncomputable def gC (d:D):GE:=λ_ M=>.ok d M
def au (m:Bool)(o:oo)(a b:GE):GE:=λh M=>(a h M).bind λx M=>(b h M).bind λy M=>fP m o x y M
def aG (o:jZ)(a b:GE):GE:=λh M=>(a h M).bind λx M=>(b h M).bind λy M=>(bS M (bz o x y M)).bind λb M=>.ok (.bl b) M
def uV (o j:jZ)(a b c:GE):GE:=λh M=>(a h M).bind λx M=>(b h M).bind λy M=>(bS M (bz o x y M)).bind λk M=>
 if k then(c h M).bind λz M=>(bS M (bz j y z M)).bind λb M=>.ok (.bl b) M else .ok (.bl false) M
def cH (a:GE):GE:=λh M=>(a h M).bind λx M=>match x with|.int i=>.ok (.int (-i)) M|_=>.bad
def fb (a b:GE):GE:=λh M=>(a h M).bind λx M=>match x with|.bl true=>b h M|.bl false=>.ok (.bl false) M|_=>.bad
def Oo (a b:GE):GE:=λh M=>(a h M).bind λx M=>match x with|.bl true=>.ok (.bl true) M|.bl false=>b h M|_=>.bad
def Px (a:GE):GE:=λh M=>(a h M).bind λx M=>match x with|.bl k=>.ok (.bl (!k)) M|_=>.bad
def eP (t:GT)(a b:GE):GE:=λh M=>(t h M).bind λk M=>if k then a h M else b h M
def aw (a b:GE):GE:=λh M=>(a h M).bind λx M=>(b h M).bind λy M=>bS M (bO x y M)
def cx (m hl hh:Bool)(a lo hi:GE):GE:=λj M=>(a j M).bind λx M=>(lo j M).bind λl M=>(hi j M).bind λh M=>if eE hl l&&eE hh h then fM m x l h M else .bad
noncomputable def bH:GA:=λ_ M=>.ok [] M
def c6 (a:GE)(s:GA):GA:=λh M=>(a h M).bind λx M=>(s h M).bind λxs M=>.ok (x::xs) M
def bW (s:GA):GE:=λh M=>(s h M).bind kZ
def aT (m:Bool)(s:GA):GE:=λh M=>(s h M).bind (ba m)
def ai (f:Nat)(c:Call)(s:GA):GE:=λj M=>(s j M).bind λh M=>c f h M
def mI (i:Nat)(c:Call)(s:GA):GE:=λh M=>match h[i]?.getD none with|some (.fn f)=>(s h M).bind λj M=>c f j M|_=>.bad
def aL (f:xr)(s:GA):GE:=λj M=>(s j M).bind λh M=>dB f h M
def cK (t:Ty)(a:GE):GE:=λh M=>(a h M).bind λx M=>(bS M (gW t x)).bind λb M=>.ok (.bl b) M
def ao (a:GE):GT:=λh M=>(a h M).bind λx M=>bS M (j3 M x)
def dI (a b:GT):GT:=λh M=>(a h M).bind λk M=>if k then b h M else .ok false M
def fJ (a b:GT):GT:=λh M=>(a h M).bind λk M=>if k then .ok true M else b h M
def bM (a:GT):GT:=λh M=>(a h M).bind λk M=>.ok (!k) M
def az (t:fK)(a:GE):GS:=λj M=>(a j M).bind λx M=>(bS M (bU t x j)).bind λh M=>.ok (.next h) M
def eM (a b d:GE):GS:=λh M=>(d h M).bind λz M=>(a h M).bind λx M=>(b h M).bind λy M=>match x,y with
 | .cell k,.int n=>match M[k]? with
   | some u=>match bT u.length n with
     |some j=>.ok (.next h) (M.set k (u.set j z))
     |none=>.bad
   |none=>.bad
 |_,_=>.bad
def d3 (a d:GE):GS:=λh M=>(a h M).bind λx M=>(d h M).bind λz M=>match x with
 | .cell k=>match M[k]? with
   |some j=>if j.length<sz then .ok (.next h) (M.set k (j++[z])) else .bad
   |none=>.bad
 |_=>.bad
def sEx (a:GE):GS:=λh M=>(a h M).bind λ_ M=>.ok (.next h) M
def aI (a:GE):GS:=λh M=>(a h M).bind λx M=>.ok (.ret x) M
noncomputable def Er:GS:=λ_ M=>.ok (.ret .non) M
def Es:GS:=λh M=>.ok (.next h) M
def xG:GS:=λ_ _=>.bad
def aN (c:GT)(a b:GS):GS:=λh M=>(c h M).bind λk M=>if k then a h M else b h M
def cM (t:fK)(w:GW)(b:GS):GS:=λh M=>(w h M).bind λw M=>cU (fY t b) w (.next h) M
def aE:GS:=λh M=>.ok (.next h) M
noncomputable def aS (a b:GS):GS:=λh M=>(a h M).bind λfl M=>match fl with
 |.next h=>b h M
 |fl=>.ok fl M
noncomputable def notStar:Expr->Bool
 |.Starred _ _=>false
 |_=>true
def bf (h:notStar a=true):starEach (a::es) env=(false,eval a env)::starEach es env:=by
 cases a<;>first|rfl|cases h
theorem cq:∀{es:List Expr},es.all notStar=true->(backTo pos (starEach es env)).any (·.1)=false
 |[],_=>rfl
 | a::es,h=>by
   simp only[RB,Qw] at h;have j:=cq (pos:=pos) (env:=env) h.2;rw[bf h.1];simpa[backTo] using j
section
variable{fa:Fa}{X:Cx}{a b d:Expr}{ga gb gd:GE}{ta tb:GT}{pos p:Pos}{es:List Expr}{gs:GA}{n:Nat}
def JK {i:Int}(h:Gl X x)(hm:X.mg x=some (.int i t))(hd:(x==("__debug__":Str))=false):DE fa X (.Name x pos) (gC (.int i)):=i6 (v:=.int i) (hZ h hm ⟨t,rfl⟩ hd) λ_ _=>rfl
end
structure Df where
 params:Nat
 slots:Nat
 body:Call->GS
noncomputable def PC:Fl->Mem->Res D
 |.ret d,M=>.ok d M
 |.next _,M=>.ok .non M
 |.exc x _,M=>.err x M
def PB:Res Fl->Res D
 |.ok fl M=>PC fl M
 |_=>.bad
def fq (c:Call)(d:Df)(ds:List D)(M:Mem):Res D:=if ds.length=d.params then PB (d.body c (ds.map some++List.replicate (d.slots-ds.length) none) M) else .bad
def ah (P:Nat->Option Df):Nat->Call
 |0,_,_,_=>.bad
 | n+1,f,h,M=>match P f with
   |none=>.bad
   |some d=>fq (ah P n) d h M
structure yM (K:Qr) (x qual:Str) (st:Stmt) (f:Addr) (fd:FuncData):Prop where
 ex:∃(oc:Qt) (od:Option Addr) (dV kV doc pm:Qt) (an:Option Addr) (cdv ct:Qt) (osl:Array (Option Qt)),
  fd=PySem.W.fnOf x qual (eZ st) (cQ st) (a7 st) dV kV doc pm an cdv ct/\K.lookup f=some {oc,od,.func fd,osl}/\PySem.W.codeIn K cdv qual=true
 kp:PySem.W.keepIn K (.ref f)=true
def xp.toD {K:Qr}{st:Stmt}(F:xp K x qual st f fd):yM K x qual st f fd:=let⟨oc,od,kV,j,pm,v,h,ct,u,r⟩:=F.ex;{{oc,od,.none,kV,j,pm,v,h,ct,u,r},F.kp}
structure yN (fa:Fa) (P:Rv) (w:Rf) (K:Qr) (mg:Str->Option Qt) (base:Heap) (f:Nat) (d:Df):Prop where
 ex:∃(ad:Addr) (fd:FuncData) (ps N:List Str) (st:Stmt) (x qual:Str),fa f=some ad/\yM K x qual st ad fd/\Binds K fd ps []/\((fa (500+f)).isSome=true->Binds K fd ps [.none])/\i8 N ps (a7 st)/\d.params=ps.length/\d.slots=N.length/\
  ∀(call:Call) (n:Nat) (cdv:Qt) (A:R9) (outer:List R1) (s:QC) (H:Hp) (E:XK),(∀f,dZ fa P w K mg base n f (call f))->bP (2*n+5) (A.deeper (envOfC qual (a7 st) s.heap.objs.size ad cdv))->
   jE fa (gn (iH P w) P w K mg base N qual (a7 st) ad cdv A outer s H E) (cQ st) (d.body call)
def zA {K:Qr}(h:aD fa K μ H ds vs):a8 fa K μ H (L2.start N vs) (ds.map some++List.replicate (N.length-ds.length) none):=by
 have hl:=h.length;refine{by unfold L2.start;simp[hl],λi d e=>?_}
 by_cases j:i<ds.length
 ·rw[QB (by simpa using j),QX] at e
  cases e1:ds[i]? with
  |none=>rw[e1] at e;cases e
  | some z=>
    rw[e1] at e;cases e;obtain⟨v,u,y⟩:=h.get e1;refine{v,?_,y};unfold L2.start;rw[QB `o,QX,u]
    rfl
 ·rw[QV `o,SG] at e
  split at e<;>cases e
def wU {K:Qr}{st:Stmt}(F:yM K x qual st f fd)(S:i8 N ps (a7 st))(len:∀vs H Q E,sp vs H Q E->vs.length=ps.length)
 (j:∀(h:Qt) (A:R9) (outer:List R1) (s:QC) (H:Hp) (vs:List V) (Q:VK) (E:XK),bP k (A.deeper (envOfC qual (a7 st) s.heap.objs.size f h))->sp vs H Q E->
  ∃t,kG (gn (iH P w) P w K mg base N qual (a7 st) f h A outer s H E) (cQ st) t/\t {nx:=λ_ y=>Q .non y,rt:=Q} (start N vs) H):hD P w K mg base (iH P w) (k+1) f fd ps sp:=by
 obtain⟨oc,od,dV,kV,z,pm,I,h,ct,B,rfl,lk,u⟩:=F.ex;exact Nd lk u S len λA outer s H vs Q E hr v=>j h A outer s H vs Q E hr v
set_option tactic.hygienic true in
def su {K:Qr}
 (hs:d.slots=N.length) (L:RelM fa K μ H M) (hr:aD fa K μ H ds vs) (h:dS (fq c d ds M) (aW fa K μ H Q) (Fu fa K μ H E)):tF fa (gn (iH P w) P w K mg base N qual scope f cd A outer s H E) (d.body c) {nx:=λ_ u=>Q .non u,rt:=Q} (start N vs) H:=by
 unfold fq at h;split at h
 ·refine{μ,_,M,zA hr,L,?_};rw[<- hs];cases e1:d.body c (ds.map some++List.replicate (d.slots-ds.length) none) M with
  | ok fl U=>
    rw[e1] at h;cases fl with
    | next z=>
      have v:=h;exact λB u j S Y R=>v .non u j S R rfl
    |ret d=>exact h
    | exc x z=>
      have v:=h;exact λF B u j s' a C J c p I y _ m ex O hn fl=>CV I fl (v C J c p u j y m ex O hn)
  |err=>rw[e1] at h;exact h.elim
  |bad=>rw[e1] at h;exact h.elim
 ·exact h.elim
theorem vi {P:Rv}{w:Rf}{K:Qr}(h:∀f d,Pg f=some d->yN fa P w K mg base f d):∀(n f:Nat),dZ fa P w K mg base n f (ah Pg n f)
 |0,f=>.inl λ_ _=>rfl
 | n+1,f=>by
   have U:=vi h n;cases e:Pg f with
   |none=>exact .inl λj M=>by show(match Pg f with|none=>Res.bad|some d=>fq (ah Pg n) d j M)=Res.bad;rw[e]
   | some d=>
     have eq:∀j M,ah Pg (n+1) f j M=fq (ah Pg n) d j M:=λj M=>by show(match Pg f with|none=>Res.bad|some d=>fq (ah Pg n) d j M)=_;rw[e]
     obtain⟨ad,J,ps,N,st,x,I,h1,F,O,z,S,R,hs,u⟩:=(h f d e).ex;refine .inr {ad,J,ps,h1,F.kp,O,λj M hl=>?_,?_,z}
     ·rw[eq];unfold fq;rw[if_neg (by rw[R];exact hl)]
     ·refine wU F S (λY H Q E v=>v.1) λy A outer s H Y Q E hr v=>{_,u (ah Pg n) n y A outer s H E U hr,?_};obtain⟨hl,μ,M,j,L,hr,B⟩:=v;rw[eq] at B;exact su hs L hr B
def ph (P:Sd)(e:Sl)(h:Str×Addr):Prop:=∃t,e={PyData.keyHash P h.1,.str h.1 t,.ref h.2}
structure fH (K:Qr) (P:Sd) (a:Addr) (kvs:List (Str×Addr)):Prop where
 ex:∃(es:Array Sl) (n:Nat),K.lookup a=some {cls:=.type "dict",data:=.dict es n}/\Su (ph P) es.toList kvs
 nd:(kvs.map (·.1)).Nodup
 ns:(a==sysModules)=false
def wI (kvs:List (Str×Addr)):List (Key×Qt):=kvs.map λh=>(Sum.inr h.1,.ref h.2)
theorem u4:∀{es:List Sl}{kvs:List (Str×Addr)},Su (ph P) es kvs->∀e∈es,∃x t,e.key=.str x t/\e.hash=PyData.keyHash P x
 |_,_,.nil,e,h=>nomatch h
 | _,_,.cons r t,e,h=>by
   rcases Rg.mp h with z|z
   ·subst z;obtain⟨t,rfl⟩:=r;exact{_,t,rfl,rfl}
   ·exact u4 t e z
def p9:∀{es:List Sl}{kvs:List (Str×Addr)},Su (ph w.params) es kvs->Pairs (ky prog w) es (wI kvs)
 |_,_,.nil=>.nil
 | e::es,h::kvs,.cons r t=>by
   obtain⟨u,rfl⟩:=r;exact Pairs.cons (jO h.1 u) rfl (p9 t)
def uK (I:Inv X pins σ H s)(h:fH X.K X.w.params a kvs):s.heap.DictOf (ky X.prog X.w) a (wI kvs):=by
 obtain⟨j,n,lk,pr⟩:=h.ex;refine{_,j,n,I.kIn _ _ lk,⟨rfl,rfl,rfl⟩,rfl,λe he=>?_,p9 pr,?_}
 ·obtain⟨x,t,e1,e2⟩:=u4 pr e (by simpa using he)
  exact{Sum.inr x,by rw[e1];exact jO x t,e2}
 ·have e:(wI kvs).map (·.1)=(kvs.map (·.1)).map Sum.inr:=by unfold wI;simp
  rw[e];exact List.Pairwise.map _ (λa b (n:a≠b) z=>n (Sum.inr.inj z)) h.nd
def AF (kvs:List (Str×Addr))(k:Str):valueAt (wI kvs) (Sum.inr k:Key)=(kvs.lookup k).map Value.ref:=by
 induction kvs with
 |nil=>rfl
 | cons j r h=>
   unfold valueAt wI at h ⊢;rw[Ry,List.find?_cons,Rw];by_cases e:j.1=k
   ·subst e;simp
   ·have e2:decide ((Sum.inr j.1:Key)=Sum.inr k)=false:=decide_eq_false λz=>e (Sum.inr.inj z);have u:=RC.mpr (RF e);rw[e2,u];exact h
def eB (fa:Fa)(kvs:List (Str×Addr))(fs:List (Str×Nat)):Prop:=Su (λ(p:Str×Addr) (q:Str×Nat)=>p.1=q.1/\fa q.2=some p.2) kvs fs
theorem eB.look:∀{kvs:List (Str×Addr)}{fs:List (Str×Nat)},eB fa kvs fs->(fs.lookup k=none/\kvs.lookup k=none)\/∃f ad,fs.lookup k=some f/\kvs.lookup k=some ad/\fa f=some ad
 |_,_,.nil=>.inl ⟨rfl,rfl⟩
 | (x,a)::r,(y,f)::t,.cons ⟨e1,e2⟩ q=>by
   subst e1;rw[Rw,Rw];cases e:k==x with
   |true=>exact .inr ⟨f,a,rfl,rfl,e2⟩
   |false=>exact eB.look q
def lA (fs:List (Str×Nat))(i:GE):GE:=λh M=>(i h M).bind λd M=>match d with
 |.str k=>bS M ((fs.lookup k).map D.fn)
 |_=>.bad
def iT (fs:List (Str×Nat))(i:GE):GE:=λh M=>(i h M).bind λd M=>match d with
 |.str k=>.ok (.bl (!(fs.lookup k).isSome)) M
 |_=>.bad
section
variable{fa:Fa}{X:Cx}{a b:Expr}{ga gb:GE}{pos p:Pos}{ad:Addr}{kvs:List (Str×Addr)}{fs:List (Str×Nat)}{x:Str}
def C7 (hd:fH X.K X.w.params ad kvs):jY X (λx y H Q=>∃k v,x=.ref ad/\y=.str k/\kvs.lookup k=some v/\Q (.ref v) H):=by
 intro z j E s P H x y v u Q I M O h hs;obtain⟨k,c,rfl,rfl,hk,q⟩:=h;cases M;obtain⟨t,rfl⟩:=O;have B:=uK I hd;have J:s.TypeIs (.ref ad) "dict":=let{o,_,_,ho,{L,_},_}:=B;⟨o,ho,L⟩
 refine tail_any J PySem.F.slot_dict_getitem.lookup (wpAny_getItem_of (k:=(Sum.inr k:Key)) (jO k t) B.mapOf (v:=.ref c) ?_ ?_) hs
 ·rw[AF,hk];rfl
 ·exact{.ref c,H,I.tok _,rfl,q}
def uo (hd:fH X.K X.w.params ad kvs):bF X (compareOp .NotIn) (λx y H Q=>∃k,x=.str k/\y=.ref ad/\Q (.bl (!(kvs.lookup k).isSome)) H):=by
 intro j s F H x y v u Q I B E h;obtain⟨k,rfl,rfl,q⟩:=h;obtain⟨t,rfl⟩:=B;cases E;have z:=uK I hd;refine wpAny_notIn_of (k:=(Sum.inr k:Key)) (jO k t) hd.ns z.mapOf ?_;rw[AF,Sw];exact{.bl _,H,I.tok _,rfl,q}
def JM (hd:fH X.K X.w.params ad kvs)(ho:eB fa kvs fs)(L:Gl X x)(hm:X.mg x=some (.ref ad))(u:(x==("__debug__":Str))=false)(J:DE fa X b gb)(hs:gG b):DE fa X (.Subscript (.Name x p) b pos) (lA fs gb):=
 a9 (pH (C7 hd) (hZ (v:=.ref ad) L hm rfl u) J hs) λU H Q ⟨R,S,M,E,I,h⟩=>t1 E I h λd P v z y O F j r1 h1=>by
  cases d with
  | str k=>
    obtain⟨d,e,q⟩:=i4 h1;rcases ho.look with⟨e1,_⟩|⟨f,c,e1,e2,B⟩
    ·rw[e1] at e;cases e
    ·rw[e1] at e;cases e;exact{k,c,rfl,r1,e2,q (.ref c) z y O j {c,rfl,.inl B}}
  |_=>exact h1.elim
def CI {d:D}{P:D->Mem->Prop}(h:ae (match d with|.str k=>Res.ok (.bl (!(fs.lookup k).isSome)) M1|_=>.bad) P):∃k,d=.str k/\P (.bl (!(fs.lookup k).isSome)) M1:=by
 cases d with
 |str k=>exact⟨k,rfl,h⟩
 |_=>exact h.elim
def Dn (ho:eB fa kvs fs)(k:Str):(kvs.lookup k).isSome=(fs.lookup k).isSome:=by
 rcases ho.look with⟨e1,e2⟩|⟨f,c,e1,e2,_⟩<;>rw[e1,e2]<;>rfl
def AW (ho:eB fa kvs fs)(z:L2.St)(H:Hp)(Q:VK)(h:tE fa X.K (iT fs ga) z H Q):zv (λx y H Q=>∃k,x=.str k/\y=.ref ad/\Q (.bl (!(kvs.lookup k).isSome)) H) (tE fa X.K ga) (tC (.ref ad)) z H Q:=by
 obtain⟨O,P,M,E,I,h⟩:=h;refine t1 E I h λd L v B u J F j r1 h1=>?_;obtain⟨k,rfl,q⟩:=CI h1;refine{k,r1,rfl,?_};rw[Dn ho];exact q (.bl _) B u J j rfl
def JL (hd:fH X.K X.w.params ad kvs)(ho:eB fa kvs fs)(z:Gl X x)(hm:X.mg x=some (.ref ad))(j:(x==("__debug__":Str))=false)(y:DE fa X a ga)(u:behindInMarks .NotIn (.Name x p)=false):DE fa X (.Compare a [.NotIn] [.Name x p] pos) (iT fs ga):=
 a9 (qE (uo hd) y (hZ (v:=.ref ad) z hm rfl j) u) λB H Q h=>AW ho B H Q h
def JU (hd:fH X.K X.w.params ad kvs)(ho:eB fa kvs fs)(J:Gl X x)(hm:X.mg x=some (.ref ad))(j:(x==("__debug__":Str))=false)(I:DE fa X a ga)(u:behindInMarks .NotIn (.Name x p)=false):DT fa X (.Compare a [.NotIn] [.Name x p] pos) (ao (iT fs ga)):=
 kg (qB (uo hd) I (hZ (v:=.ref ad) J hm rfl j) u) λW H Q h=>by
  refine AW ho W H _ ?_;obtain⟨S,U,M,E,F,h⟩:=h;obtain⟨z,M3,e,q⟩:=aC h;refine{S,U,M,E,F,?_};rw[e];have L:∃k,z=.bl k:=by
   obtain⟨d,Y,e1,e2⟩:=eR e;cases d<;>first|(cases e2;exact{_,rfl})|cases e2
  obtain⟨k,rfl⟩:=L;intro v B y R O P;obtain rfl:v=.bl k:=P;exact{k,rfl,q B y R O}
def mH (m:Bool)(a:GE):GE:=λh M=>(a h M).bind λx M=>match x with
 |.int n=>if -(2^62)<=n/\n<2^20 then ba m ((List.range n.toNat).map λ(k:Nat)=>D.int (k:Int)) M else .bad
 |_=>.bad
def yh:∀(n:Nat) (y:List Qt),y.length=n->(∀(i:Nat) (v:Qt),y[i]?=some v->∃t,v=.int (i:Int) t)->Vals ((List.range n).map λ(k:Nat)=>V.int (k:Int)) y:=by
 intro n y hl h;have z:∀(k:Nat) (y:List Qt),(∀(i:Nat) (v:Qt),y[i]?=some v->∃t,v=.int ((k+i:Nat):Int) t)->Vals ((List.range y.length).map λj=>V.int ((k+j:Nat):Int)) y:=by
  intro k y;induction y generalizing k with
  |nil=>intro _;exact .nil
  | cons v r B=>
    intro h;rw[Rx,List.range_succ_eq_map,Ry,RO];refine .cons (h 0 v rfl) ?_;have:=B (k+1) λi u e=>by
     have:=h (i+1) u (by simpa using e)
     rw[show k+1+i=k+(i+1) by omega];exact this
    refine cast (congrArg (λf=>Vals ((List.range r.length).map f) r) ?_) this
    funext j
    congr 2
    omega
 have:=z 0 y λi v e=>by rw[Nat.zero_add];exact h i v e
 rw[hl] at this;simpa using this
def GL (m:Bool)(hc:X.calm=true)(ha:DE fa X a ga)(L:Gl X "list")(P:X.mg "list"=none)(hg:Gl X "range")(hm:X.mg "range"=none)(hs:starEach [a] X.env=[(false,eval a X.env)])
 (F:starEach [.Call (.Name "range" p2) [a] [] pos2] X.env=[(false,eval (.Call (.Name "range" p2) [a] [] pos2) X.env)]) :
 DE fa X (.Call (.Name "list" p1) [.Call (.Name "range" p2) [a] [] pos2] [] pos) (mH m ga):=by
 intro y s σ H Q I ⟨μ,Z,M,hE,hM,h⟩;obtain⟨x,M1,e,q⟩:=aC h;have U:∀n,x=.int n->ae (if -(2^62)<=n/\n<2^20 then ba m ((List.range n.toNat).map λ(k:Nat)=>D.int (k:Int)) M1 else .bad) (aW fa X.K μ H Q)->
  wpAny (model X.prog X.w) X.A (eval (.Call (.Name "list" p1) [.Call (.Name "range" p2) [a] [] pos2] [] pos) X.env) (EP X y σ Q) X.xe s:=λn en J=>by
  subst en;by_cases c:-(2^62)<=n/\n<2^20
  ·rw[if_pos c] at J;refine Call_ (gV I L P (by decide +kernel:bootBuiltins "list"=some (.type "list")) (RN ?_ F rfl))
   rw[F];refine Calls.spliced_cons ?_;refine Call_ (gV I hg hm boot_range (RN (aO (bC ha cY hs pos2 y s σ H (λvs E=>∃j,vs=[.int n]/\Ext μ H j E/\RelM fa X.K j E M1) I {μ,Z,M,hE,hM,?_}) λus s1 ⟨vs,E,I1,r1,j,ev,Y,W⟩=>?_) hs rfl))
   ·rw[e];intro v E j Y W r1;obtain rfl:v=.int n:=r1;exact⟨j,rfl,Y,W⟩
   subst ev;cases r1 with
   | cons r rr=>
     cases rr;obtain⟨t,rfl⟩:=r;refine call_range_1 ?_;refine Calls.spliced_nil ?_;refine call_list_range (n:=n.toNat) (I.ok.hd hc) (IsRange.new ..) (small_one `a `a `a `a) (by rw[rangeSize_one];split<;>omega) `a λh' tk B c' kp eS S=>?_
     obtain⟨R,O⟩:=S;have I2:Inv X y σ E {s1 with heap:=s1.heap.push {cls:=.type "range",data:=.fields #[.int 0 s1.toks,.int n t,.int 1 (s1.toks+1)]},toks:=s1.toks+1+1}:=I1.kept λb o e=>Qu _ e
     have hv:=yh n.toNat B.toList (by simpa using R) λi v e=>by
      obtain⟨u,z⟩:=O i v (by simpa using e)
      exact{u,by rw[z];simp}
     have rl:aD fa X.K j E ((List.range n.toNat).map λ(k:Nat)=>D.int (k:Int)) ((List.range n.toNat).map λ(k:Nat)=>V.int (k:Int)):=by
      have:=aD.ints (fa:=fa) (K:=X.K) (μ:=j) (H:=E) ((List.range n.toNat).map λ(k:Nat)=>(k:Int));simpa[RO,R0] using this
     obtain⟨c1,k1⟩:=hR W rl (kj J Y);refine{.ref _,_,I2.laid (o:=.lst ((List.range n.toNat).map λ(k:Nat)=>V.int (k:Int))) kp (QA _) {?_,B.toList,c',hv,by simpa using eS},rfl,k1 _ (I2.hok.fresh (QA _))}
     rw[rl.length,<- dE];exact c1
  ·rw[if_neg c] at J;exact J.elim
 cases x with
 |int n=>exact U n rfl q
 |_=>exact q.elim
end
noncomputable def rg (bn N:List Str)(sc scope:Scope):Bool:=
 scope.names.all (λy=>(y.2 != .cell||scope.names.lookup y.1==some .cell)&&(y.2 != .local||scope.names.lookup y.1==some .local)&&(y.2 != .free||sc.names.lookup y.1==some .cell||sc.names.lookup y.1==some .free)) &&
 bn.length==N.length&&(bn.zip N).all λp=>(p.1==p.2&&(scope.names.lookup p.2 != some .local&&scope.names.lookup p.2 != some .cell))||scope.names.lookup p.1==none
theorem pK {j v:Type}{R:j->v->Prop}:∀{l:List j}{r:List v},l.length=r.length->(∀p∈l.zip r,R p.1 p.2)->Su R l r
 |[],[],_,_=>.nil
 |a::l,b::r,h,g=>.cons (g (a,b) QS) (pK (by simpa using h) λp z=>g p (QD _ z))
 |[],_::_,h,_=>by cases h
 |_::_,[],h,_=>by cases h
def Ba (hk:scope.kind=.function)(hs:X.env.scope=sc)(v:X.N=N)(h:rg bn N sc scope=true):fB X own bn scope:=by
 unfold rg at h;rw[Qw,Qw,QY,QY] at h;obtain⟨⟨h1,hl⟩,h2⟩:=h;refine{hk,λy j e=>?_,λy j e=>?_,λy j e=>?_,?_}
 ·have:=h1 y j;rw[e] at this;simpa using this
 ·have:=h1 y j;simp only[Qw] at this;rw[e] at this;simpa using this
 ·have:=h1 y j;simp only[Qw] at this;rw[e] at this;show X.env.scope.names.lookup y.1=_\/X.env.scope.names.lookup y.1=_;rw[hs];simpa using this
 ·rw[v];refine pK (by simpa using hl) λp z=>?_
  have:=h2 p z;simp only[Si,Qw,beq_iff_eq,bne_iff_ne] at this;exact this
section
variable{fa:Fa}{X:Cx}{elt tg iter c t2 i2:Expr}{scope:Scope}{pos:Pos}{own bn:List Str}{t u:fK}{gw gw2:GW}{ge:GE}{gc:GT}
def kS {l:List Nat}(h:l.all (· < n)=true):∀i∈l,i<n:=λi j=>by
 have:=QY.mp h i j;simpa using this
def zP {l W:List Nat}(h:W.all (λi=>!l.contains i)=true):∀i∈W,i∉l:=λi j z=>by
 have:=QY.mp h i j;simp[z] at this
variable{i:Nat}{y:Str}{py spos:Pos}
def GP {i:Int}(j:Gl X x)(hm:∃t,X.mg x=some (.int i t))(hd:(x==("__debug__":Str))=false):DE fa X (.Name x pos) (gC (.int i)):=let{_,h}:=hm;JK j h hd
def GR (h:∃ad j,X.mg x=some (.ref ad)/\fH X.K X.w.params ad j/\eB fa j fs)(B:Gl X x)(v:(x==("__debug__":Str))=false)(z:DE fa X b gb)(hs:gG b):DE fa X (.Subscript (.Name x p) b pos) (lA fs gb):=
 let{_,_,h1,h2,h3}:=h;JM h2 h3 B h1 v z hs
def GQ (h:∃ad j,X.mg x=some (.ref ad)/\fH X.K X.w.params ad j/\eB fa j fs)(E:Gl X x)(v:(x==("__debug__":Str))=false)(B:DE fa X a ga)(z:behindInMarks .NotIn (.Name x p)=false):DE fa X (.Compare a [.NotIn] [.Name x p] pos) (iT fs ga):=
 let{_,_,h1,h2,h3}:=h;JL h2 h3 E h1 v B z
def GV (h:∃ad j,X.mg x=some (.ref ad)/\fH X.K X.w.params ad j/\eB fa j fs)(E:Gl X x)(v:(x==("__debug__":Str))=false)(B:DE fa X a ga)(z:behindInMarks .NotIn (.Name x p)=false):DT fa X (.Compare a [.NotIn] [.Name x p] pos) (ao (iT fs ga)):=
 let{_,_,h1,h2,h3}:=h;JU h2 h3 E h1 v B z
def GK (h:bP (n+4) X.A):Rm X:=by have:=h.un;show X.A.units+100<cLine;omega
end
section
variable{fa:Fa}{X:Cx}{a st:Expr}{ga:GE}{pos p2:Pos}
def JI (m:Bool)(x:D)(M:Mem):Res D:=match x with
 |.tup xs=>.ok (.tup xs.reverse) M
 | x=>match ff M x with
   |some xs=>ba m xs.reverse M
   |none=>.bad
end
def mm {fa:Fa}{mg:Str->Option Qt}(e:fa i=some f)(m:mg x=some (.ref f)):∀ad,fa i=some ad->mg x=some (.ref ad):=λad h=>by rw[e] at h;cases h;exact m
def us1 {j:Type}{p:List j->Prop}(h:∀a,p [a])(us:List j)(hl:us.length=1):p us:=by
 obtain⟨a,rfl⟩:=List.length_eq_one_iff.mp hl;exact h a
def us2 {j:Type}{p:List j->Prop}(h:∀a b,p [a,b]):∀(us:List j) (hl:us.length=2),p us
 |[a,b],_=>h a b
def us3 {j:Type}{p:List j->Prop}(h:∀a b c,p [a,b,c]):∀(us:List j) (hl:us.length=3),p us
 |[a,b,c],_=>h a b c
def us4 {j:Type}{p:List j->Prop}(h:∀a b c d,p [a,b,c,d]):∀(us:List j) (hl:us.length=4),p us
 |[a,b,c,d],_=>h a b c d
def Aw {K:Qr}(X:K.In h)(G:h.Ns mainGlobals mg)(a:PySem.W.nsIn K mainGlobals x=some (some (.ref f))):mg x=some (.ref f):=RX X G a
def AK:Su (ph P) [] []:=.nil
def gz (h:Su (ph P) es kvs):Su (ph P) ({PyData.keyHash P x,.str x t,.ref a}::es) ((x,a)::kvs):=.cons ⟨t,rfl⟩ h
def Eo (K:Qr):Sp:=λj H Q _=>∃(a:Addr) (ns:List Int),j=[.ref a]/\cF K H a (ns.map V.int)/\yJ H/\ns.length<=63/\∀h,Q (.bl true) h
def KP {K:Qr}{ad:Addr}{st:Stmt}(h:∀f d,Pg f=some d->yN fa P w K mg base f d)
 (hl:∀ns:List Int,ns.length<=63->∃M,ah Pg (n+1) f [.frz (ns.map D.int)] []=.ok (.bl true) M) (e:Pg f=some d) (F:xp K x qual st ad fd) (S:i8 N [y] (a7 st)) (hs:d.slots=N.length)
 (u:∀(call:Call) (n:Nat) (j:Qt) (A:R9) (outer:List R1) (s:QC) (H:Hp) (E:XK),(∀f,dZ fa P w K mg base n f (call f))->bP (2*n+5) (A.deeper (envOfC qual (a7 st) s.heap.objs.size ad j))->
  jE fa (gn (iH P w) P w K mg base N qual (a7 st) ad j A outer s H E) (cQ st) (d.body call)):hD P w K mg base (iH P w) (2*n+5+1) ad fd [y] (Eo K):=by
 have eq:∀I M,ah Pg (n+1) f I M=fq (ah Pg n) d I M:=λI M=>by show(match Pg f with|none=>Res.bad|some d=>fq (ah Pg n) d I M)=_;rw[e]
 refine wU (xp.toD F) S (λU H Q E B=>?_) λj A outer s H U Q E hr B=>{_,u (ah Pg n) n j A outer s H E (vi h n) hr,?_}
 ·obtain⟨a,ns,rfl,_⟩:=B;rfl
 ·obtain⟨a,ns,rfl,R,O,hn,q⟩:=B;obtain⟨Y,J⟩:=hl ns hn;rw[eq] at J;have rp:aD fa K {λ_=>none,[],λ_=>none} H [.frz (ns.map D.int)] [.ref a]:=by
   refine{.ref a,[],rfl,{a,ns.map V.int,rfl,?_,aD.ints ns},rfl};rcases R with(z|⟨o,z⟩)|z
   ·rcases O a with y|⟨o,xs,y⟩
    ·rw[y] at z;cases z
    ·rw[y] at z;cases z
   ·exact .inl ⟨o,z⟩
   ·exact .inr z
  refine su (μ:={λ_=>none,[],λ_=>none}) (M:=[]) hs {λk I z=>by simp at z,λ_ _=>rfl,λ_ _=>rfl,(λ_ _ _ z=>nomatch z),(λ_ _ _ z=>nomatch z),(λ_ _ z=>nomatch z),(λ_ z=>nomatch z)} rp ?_
  rw[J];intro v L X _ _ r;obtain rfl:v=.bl true:=r;exact q L
def wA {K:Qr}{ad:Addr}(X:K.In h)(G:h.Ns mainGlobals mg)(a:PySem.W.nsIn K mainGlobals x=some (some (.ref ad)))
 (l:K.lookup ad=some {cls:=.type "dict",data:=.dict es n}) (he:Su (ph P) es.toList j) (nd:(j.map (·.1)).Nodup) (ns:(ad==sysModules)=false) (dk:eB fa j fs):∃ad j,mg x=some (.ref ad)/\fH K P ad j/\eB fa j fs:=
 {ad,j,RX X G a,{⟨es,n,l,he⟩,nd,ns},dk}
end LD
namespace LD
open PySem PySem.Spec PySem.Calls PyProof.Rows PySem.W
section
variable{prog:Rv}{w:Rf}{A:R9}{E:Qt->QC->Prop}{s:QC}{K:Frag}{x C:Addr}{ox:Obj}{od:Option Obj}{name:Str}
noncomputable def kJ (K:Frag)(C:Addr):Bool:=findIn K (.ref C) "__getattribute__"==some (some (.builtin "BaseException.__getattribute__"))&&findIn K (.ref C) "__getattr__"==some none&&mroIn K C (.type "BaseException")==some true&&mroIn K C (.type "object")==some true &&
 findIn K (.ref C) "__class__"==some (some (.builtin "object.__class__"))&&specialIn K (.builtin "object.__class__") "__get__"==some (some (.builtin "getset_descriptor.__get__"))&&takesIn K (.builtin "object.__class__")==some true
def Py (prog:Rv)(w:Rf)(A:R9)(x C:Addr)(Q:Qt->QC->Prop)(E:Qt->QC->Prop)(s:QC):Builtin.ObjectAttr.Found->Prop
 |.value v=>wpAny (model prog w) A (handedOut v) Q E s
 |.bind g a=>wpAny (model prog w) A.in1 (call g [a,.ref x,.ref C]) (λv h=>wpAny (model prog w) A (handedOut v) Q E h) (λ_ _=>False) s
 |.missing=>False
def HE {u j:Bool}(X:K.In s.heap)(I:InstAt s.heap x ox C od)(B:kJ K C=true)(hf:findObj K C od name=some r)
 (h:Py prog w A x C Q E s r) :
 wpAny (model prog w) A (getAttrBy (.ref x) (.str name tk) u j) Q E s:=by
 unfold kJ at B;simp only[Qw,beq_iff_eq] at B;obtain⟨⟨⟨⟨⟨⟨H,J⟩,L⟩,Y⟩,_⟩,_⟩,_⟩:=B;obtain⟨hh,g,d,t,os⟩:=s;have P:=I.type (M:=model prog w);have R:=looks_findIn (M:=model prog w) X H;have S:=looks_findIn (M:=model prog w) X J;have U:=looks_find (M:=model prog w) X I hf;have W:=looks_mroIn (M:=model prog w) X L;have O:(Value.builtin "BaseException.__getattribute__"==Value.builtin "object.__getattribute__")=false:=`k
 have hk:builtinKind "BaseException.__getattribute__"=some .slot:=`k
 have y:splitId "BaseException.__getattribute__"=some ("BaseException","__getattribute__"):=`k
 refine tqo (tqa (P.at (tqa (R.at ?_))));show wpAny _ _ (if (true&&Value.builtin "BaseException.__getattribute__"==Value.builtin "object.__getattribute__")=true then _ else _) _ _ _;rw[O,if_neg `d]
 refine tqa (S.at (tqa (wpAny_attempt (tqo ?_))));unfold callGetattribute;rw[if_neg (by cases j<;>decide)]
 refine tqa (wpAny_of_eq (PySem.F.excAttr_ValueError.ga.bind (.ref x)) ?_);refine wpAny_call (codeAny_call_builtin PySem.F.excAttr_ValueError.ga.plain F.entry_bexc_ga ?_);refine tqa (tqa (P.at (W.at ?_)))
 repeat (any_goals (first|assumption|wp_step))
 refine wpAny_loadPart_at I.at_ (tqb ?_);rw[I.cls];refine tqa (U.at ?_);cases r with
 |value v=>exact tqb h
 | bind g a=>
   exact tqa (tqo (wpAny_mono h (λv s' z=>tqb z) λ_ _ z=>z.elim))
 |missing=>exact h.elim
def A2 {Q:Option Qt->QC->Prop}(X:K.In s.heap)(I:InstAt s.heap x ox C od)(v:kJ K C=true)(h:Q (some (.ref C)) {s with toks:=s.toks+1}):wpAny (model prog w) A (getAttr? (.ref x) "__class__") Q E s:=by
 have j:=v;unfold kJ at j;simp only[Qw,beq_iff_eq] at j;obtain⟨⟨⟨⟨⟨⟨_,_⟩,_⟩,hm⟩,y⟩,hn⟩,u⟩:=j;have hf:findObj K C od "__class__"=some (.bind (.builtin "getset_descriptor.__get__") (.builtin "object.__class__")):=by
  obtain⟨B,z,_⟩:=QT.mp hm;unfold findObj;rw[z,SD,y,SD];simp[hn,u]
 refine tqa (wpAny_mkText (tqa (wpAny_attempt (HE X I v hf ?_))));exact wpAny_call (class_get X I hm (handed_on rfl (tqb h)))
set_option tactic.hygienic true in
def HB (X:K.In s.heap)(I:InstAt s.heap x ox C od)(L:kJ K C=true)(z:∀(M:Model) u,K.In u->Looks M u (typeOf c) (.type "type"))(y:∀(M:Model) u,K.In u->Looks M u (isType c) true)
 (H:(Value.ref C==c)=false) (j:∀(M:Model) u,K.In u->Looks M u (isSubtype (.ref C) c) false) (h:Q (.bool false) {s with toks:=s.toks+1}):wpAny (model prog w) A (call (.builtin "isinstance") [.ref x,c]) Q E s:=by
 refine call_isinstance_of ?_ (by intro q;cases q)
 have B:Looks (model prog w) s.heap (isType (.ref C)) true:=by
  have v:=L;unfold kJ at v;simp only[Qw,beq_iff_eq] at v;obtain⟨cd,F,_⟩:=QT.mp v.1.1.1.2;unfold clsIn at F;split at F
  ·rename_i c' d' P S ho;intro U Y W s' k q;exact tqa (wpAny_loadPart (k _ _ (X _ _ ho)) (tqb q))
  ·cases F
 have z:=z (model prog w) s.heap X;have y:=y (model prog w) s.heap X;have j:=j (model prog w) s.heap X;obtain⟨R,g,d,tt,os⟩:=s;have J:=I.type (M:=model prog w);have O:Looks (model prog w) R (isInstance (.ref x) c) false:=J.andThen j;refine tqa (J.at ?_);rw[if_neg (λq=>by rw[H] at q;exact Bool.noConfusion q)]
 refine tqa (z.at ?_);rw[if_pos `d]
 k_delta "plainIsInstance"
 refine tqa (tqa (y.at ?_));refine tqa (O.at ?_);refine tqa (A2 X I L ?_);refine tqa (B.at ?_);refine tqa (wpAny_rule ?_);refine j.at ?_;exact tqb h
set_option tactic.hygienic true in
def Dh {D:Addr}(X:K.In s.heap)(I:InstAt s.heap x ox C od)(B:kJ K C=true)(e:kin_not K C D=true)(h:Q (.bool false) {s with toks:=s.toks+1}):wpAny (model prog w) A (call (.builtin "isinstance") [.ref x,.ref D]) Q E s:=by
 unfold kin_not at e;rw[Qw,Qw,Qw] at e;obtain⟨⟨⟨y,e1⟩,e2⟩,z⟩:=e;refine HB X I B (λ_ u j=>looks_typeIn j (SV.mp e2)) (λ_ u j=>?_) ?_ (λ_ u j=>looks_subIn j (SV.mp z)) h
 ·unfold clsIn at e1;split at e1
  ·rename_i M O v F ho;intro H L J P k q;exact tqa (wpAny_loadPart (k _ _ (j _ _ ho)) (tqb q))
  ·cases e1
 ·exact Bool.eq_false_iff.mpr λq=>of_decide_eq_true y (Value.ref.inj (SV.mp q))
def HC (X:K.In s.heap)(I:InstAt s.heap x ox C od)(j:typeOf (.type T)=pure (.type "type"))(hm:mroIn K C (.type T)=some true)(h:Q (.bool true) s):wpAny (model prog w) A (call (.builtin "isinstance") [.ref x,.type T]) Q E s:=by
 refine call_isinstance_of ?_ (by intro q;cases q)
 have v:=looks_mroIn (M:=model prog w) X hm;obtain⟨z,g,d,B,os⟩:=s;have u:=I.type (M:=model prog w);have y:Looks (model prog w) z (isInstance (.ref x) (.type T)) true:=u.andThen v;refine tqa (u.at ?_);rw[if_neg (by intro q;cases SV.mp q)]
 refine tqa (wpAny_of_eq j ?_);rw[if_pos `d]
 k_delta "plainIsInstance"
 refine tqa (tqa (wpAny_of_eq rfl ?_));refine tqa (y.at ?_);exact tqb (tqb h)
end
end LD
namespace LD
open PySem PySem.Spec PyProof.Rows L2
noncomputable def bI (f:Nat)(c:Call)(s:GA):GE:=λj M=>match s j M with
 |.ok h M=>c f h M
 |_=>.bad
noncomputable def qp (k:D->Mem->Res Fl)(Z:Env):Res D->Res Fl
 |.ok d M=>k d M
 |.err x M=>.ok (.exc x Z) M
 |.bad=>.bad
def jd (a:GE):GS:=λh M=>qp (λ_ M=>.ok (.next h) M) h (a h M)
def dF (t:fK)(a:GE):GS:=λh M=>qp (λx M=>(bS M (bU t x h)).bind λj M=>.ok (.next j) M) h (a h M)
def nh (a:GE):GS:=λh M=>qp (λx M=>.ok (.ret x) M) h (a h M)
noncomputable def ym (t:GT)(a b:GE):GE:=λh M=>match t h M with
 |.ok k M=>if k then a h M else b h M
 |_=>.bad
noncomputable def dQ (c:Nat)(s:GA):GS:=λh M=>match s h M with
 |.ok j M=>if j.length<=sz then .ok (.exc (.exc c none) h) M else .bad
 |_=>.bad
def bQ (o:Option Nat)(a:GE):GE:=λh M=>(a h M).bind λx M=>match x with
 |.exc c _=>.ok (.bl (match o with|some k=>k==c|none=>true)) M
 |_=>.bad
noncomputable def IL (i:Nat):Fl->Mem->Res Fl
 |.next h,M=>.ok (.next (h.set i none)) M
 |.ret d,M=>.ok (.ret d) M
 |.exc _ _,_=>.bad
def Ox (i:Nat)(h:GS):Fl->Mem->Res Fl
 |.exc x j,M=>(h (j.set i (some x)) M).bind (IL i)
 |fl,M=>.ok fl M
def t6 (b:GS)(i:Nat)(h:GS):GS:=λj M=>(b j M).bind (Ox i h)
def Jm (fa:Fa)(X:Cx)(g:GE):TE:=λv H Q=>∃h j M,a8 fa X.K h H v j/\RelM fa X.K h H M/\dS (g j M) (aW fa X.K h H Q) (λx u=>XW fa X h H x j u)
abbrev DX (fa:Fa)(X:Cx)(e:Expr)(g:GE):Prop:=PE X e (Jm fa X g)
section
variable{fa:Fa}{X:Cx}{a b:Expr}{ga gb:GE}{ta:GT}{pos p:Pos}{es:List Expr}{gs:GA}{n:Nat}
def x_call (f:Nat){call:Call}(C:∀f,dZ fa X.prog X.w X.K X.mg X.base n f (call f))(hr:bP (2*n+4) X.A)(hex:X.ex=[])(hg:Gl X x)(hm:∀ad,fa f=some ad->X.mg x=some (.ref ad))(hs:DA fa X (a::es) gs)
 (hdb:(x==("__debug__":Str))=false) (he:notStar a=true) (hpl:es.all notStar=true):DX fa X (.Call (.Name x p) (a::es) [] pos) (bI f call gs):=by
 intro B s σ H Q I ⟨μ,Z,M,hE,hM,h⟩;unfold bI at h;cases eg:gs Z M with
 |err=>rw[eg] at h;exact h.elim
 |bad=>rw[eg] at h;exact h.elim
 | ok E R=>
   rw[eg] at h;have h:dS (call f E R) (aW fa X.K μ H Q) (λx P=>XW fa X μ H x Z P):=h;rcases C f with hb|⟨ad,fd,ps,h1,h2,h3,h4,F,_⟩
   ·rw[hb] at h;exact h.elim
   ·have hl:E.length=ps.length:=by
     by_cases hl:E.length=ps.length
     ·exact hl
     ·rw[h4 E R hl] at h;exact h.elim
    refine wpAny_Call_Name_kw (gy I hg (hm ad h1) ?_ hdb);refine Sn I.ok.mod.kin h2 (aO (hs pos B s σ H (λU z=>∃j,Ext μ H j z/\RelM fa X.K j z R/\aD fa X.K j z E U) I {μ,Z,M,hE,hM,by rw[eg];exact λU z j Y m1 r1=>⟨j,Y,m1,r1⟩}) λus s1 ⟨U,z,O,r,j,Y,m1,r1⟩=>{O.kIn,?_}) (bf he) (cq hpl)
    have hsp:tW fa X.K ps.length (call f) U z Q λCv dx J=>∃y P v C' c p,Cv=.ref C'/\Ext j z v J/\RelM fa X.K v J P/\y=.exc c p/\fa (eY c)=some C'/\rn J c dx p/\XW fa X μ H y Z P:=by
     refine{by rw[r1.length];exact hl,j,R,E,m1,r1,?_}
     cases S:call f E R with
     |ok d M2=>rw[S] at h;exact aW.ext h Y
     |err y M2=>rw[S] at h;exact λC dx c p J v y' m ex hc hn=>{_,M2,v,C,c,p,rfl,y',m,ex,hc,hn,h}
     |bad=>rw[S] at h;exact h.elim
    have hl2:us.length=ps.length:=by rw[<- r.length,r1.length];exact hl
    have hb:=h3 s1 us O.kIn (by simpa using hl2)
    rw[Q8] at hb;refine wpAny_call (codeAny_mono (F.run X.A X.stack s1 z {us,[]} us U Q _ hr O.env0 hb r hsp) λr' s' L=>?_);cases r' with
    | error e=>
      unfold CR at L;obtain⟨a',C',dx,J,rfl,I',fl,y,P,v,C2,c,p,S,ye,m',ey,hc,hn,hw⟩:=mF O hex L;cases S;exact hw B σ J v s' a' C' dx c p I' (Y.trans ye) ((hE.ext Y).ext ye) m' ey hc hn fl
    | ok fl=>
      cases fl with
      |ret u=>exact O.after L
      |next=>exact False.elim L
      |brk=>exact False.elim L
      |cont=>exact False.elim L
def FO (f:Nat){call:Call}(C:∀f,dZ fa X.prog X.w X.K X.mg X.base n f (call f))(hr:bP (2*n+4) X.A)(hex:X.ex=[])(hg:Gl X x)(hm:∀ad,fa f=some ad->X.mg x=some (.ref ad))(hdf:(fa (500+f)).isSome=true)(hs:DE fa X a ga)
 (hdb:(x==("__debug__":Str))=false) (he:notStar a=true):DX fa X (.Call (.Name x p) [a] [] pos) (bI f call (c6 ga (c6 (gC .non) bH))):=by
 intro E s σ H Q I ⟨μ,Z,M,hE,hM,h⟩;unfold bI at h;cases eg:ga Z M with
 |err=>unfold c6 at h;rw[eg] at h;exact h.elim
 |bad=>unfold c6 at h;rw[eg] at h;exact h.elim
 | ok L S=>
   unfold c6 at h;rw[eg] at h;have h:dS (call f [L,.non] S) (aW fa X.K μ H Q) (λx R=>XW fa X μ H x Z R):=h;rcases C f with hb|⟨ad,fd,ps,h1,h2,h3,h4,F,hbd⟩
   ·rw[hb] at h;exact h.elim
   ·have hl:2=ps.length:=by
     by_cases hl:2=ps.length
     ·exact hl
     ·rw[h4 [L,.non] S hl] at h;exact h.elim
    refine wpAny_Call_Name_kw (gy I hg (hm ad h1) ?_ hdb);refine Sn I.ok.mod.kin h2 (aO (bC hs cY (bf he) pos E s σ H (λvs B=>∃v j,vs=[v]/\Ext μ H j B/\RelM fa X.K j B S/\Rep fa X.K j B L v) I {μ,Z,M,hE,hM,by rw[eg];exact λv B j x1 m1 r1=>⟨v,j,rfl,x1,m1,r1⟩}) λus s1 ⟨vs,B,P,r,v0,j,ev,x1,m1,r0⟩=>{P.kIn,?_}) (bf he) (cq rfl)
    subst ev;have r1:aD fa X.K j B [L,.non] [v0,.non]:={v0,[.non],rfl,r0,.non,[],rfl,rfl,rfl};have hsp:tW fa X.K ps.length (call f) [v0,.non] B Q λCv dx J=>∃y R z C' c p,Cv=.ref C'/\Ext j B z J/\RelM fa X.K z J R/\y=.exc c p/\fa (eY c)=some C'/\rn J c dx p/\XW fa X μ H y Z R:=by
     refine{hl,j,S,[L,.non],m1,r1,?_};cases U:call f [L,.non] S with
     |ok d M2=>rw[U] at h;exact aW.ext h x1
     |err y M2=>rw[U] at h;exact λC dx c p J z y' m ex hc hn=>{_,M2,z,C,c,p,rfl,y',m,ex,hc,hn,h}
     |bad=>rw[U] at h;exact h.elim
    have Y:=r.length.symm;have hb:=hbd hdf s1 us P.kIn (by rw[Q6,Y];exact hl)
    obtain⟨u0,rfl⟩:∃u0,us=[u0]:=List.length_eq_one_iff.mp Y;have r2:Vals [v0,.non] [u0,.none]:=by cases r with|cons a _=>exact .cons a (.cons rfl .nil)
    refine wpAny_call (codeAny_mono (F.run X.A X.stack s1 B {[u0],[]} [u0,.none] [v0,.non] Q _ hr P.env0 hb r2 hsp) λr' s' O=>?_);cases r' with
    | error e=>
      unfold CR at O;obtain⟨a',C',dx,J,rfl,I',fl,y,R,z,C2,c,p,U,ye,m',ey,hc,hn,hw⟩:=mF P hex O;cases U;exact hw E σ J z s' a' C' dx c p I' (x1.trans ye) ((hE.ext x1).ext ye) m' ey hc hn fl
    | ok fl=>
      cases fl with
      |ret u=>exact P.after O
      |next=>exact False.elim O
      |brk=>exact False.elim O
      |cont=>exact False.elim O
def Mn (S:DT fa X c ta)(P:DX fa X a ga)(R:DX fa X b gb):DX fa X (.IfExp c a b pos) (ym ta ga gb):=
 a9 (uj S P R) λW H Q ⟨B,j,M,F,O,h⟩=>by
  unfold ym at h;cases u:ta j M with
  |err=>rw[u] at h;exact h.elim
  |bad=>rw[u] at h;exact h.elim
  | ok k v=>
    rw[u] at h;refine{B,j,M,F,O,?_};rw[u];intro I E z U;have go:∀g:GE,dS (g j v) (aW fa X.K B H Q) (λx J=>XW fa X B H x j J)->Jm fa X g W I Q:=λg q=>by
     refine{E,j,v,F.ext z,U,?_};cases e:g j v with
     |ok d L=>rw[e] at q;exact aW.ext q z
     |err y L=>rw[e] at q;exact XW.ext q z
     |bad=>rw[e] at q;exact q
    cases k with
    |true=>exact go ga h
    |false=>exact go gb h
def MC (I:DX fa X a ga)(hs:swapsWith a none pos.line X.env=pure false):DS fa X (.Expr a pos) (jd ga):=
 dh (nj I hs) λP O H ⟨L,z,M,u,F,h⟩=>{L,z,M,u,F,by
  unfold jd at h;cases e:ga z M with
  |ok d E=>rw[e] at h;exact λv B j y J r1=>h O B j y (u.ext y) J
  |err x E=>rw[e] at h;exact h
  |bad=>rw[e] at h;exact h.elim}
def JB (R:DX fa X a ga)(S:PG X tg (gT fa X.K t))(hs:swapsWithSole [tg] a pos.line X.env=pure false)(U:swappedStores [tg] a X.env=pure none)(h1:(assignEach [tg] X.env).map (·.2)=[assign tg X.env]) :
 DS fa X (.Assign [tg] a pos) (dF t ga):=
 dh (pF R S hs U h1) λD σ H ⟨W,y,M,I,Q,h⟩=>{W,y,M,I,Q,by
  unfold dF at h;cases e:ga y M with
  | ok d P=>
    rw[e] at h;obtain⟨E,M2,u,q⟩:=aC h;cases z:bU t d y with
    |none=>rw[z] at u;cases u
    | some Y=>
      rw[z] at u;cases u;exact λv O j L J r1=>{j,y,_,d,E,I.ext L,J,r1,z,λF B=>q F O j L B J}
  |err x P=>rw[e] at h;exact h
  |bad=>rw[e] at h;exact h.elim}
def Jy (z:DX fa X a ga):DS fa X (.Return (some a) pos) (nh ga):=
 dh (Aa z) λE F H ⟨B,j,M,v,y,h⟩=>{B,j,M,v,y,by
  unfold nh at h;cases e:ga j M with
  |ok d u=>rw[e] at h;exact h
  |err x u=>rw[e] at h;exact h
  |bad=>rw[e] at h;exact h.elim}
end
noncomputable abbrev Bg:List Qt:=[.type "ValueError",.type "Exception",.type "BaseException",.type "object"]
noncomputable def Jv (K:Qr)(C:Addr)(f:ClassData->Addr->List Qt->String->Bool):Bool:=match K.lookup C with
 | some {.type "type",_,.cls h,sl}=>(match h.mro,sl.toList with
   |.ref j::bm,[_,_,_,_,some (.builtin n),_]=>f h j bm n
   |_,_=>false)
 |_=>false
set_option tactic.hygienic true in
def Ju {K:Qr}(X:K.In h)(q:Jv K C f=true) :
 ∃u N nm q bs hdct sn sub ab col dd k0 k1 k2 k3 k5 dl n j,f {nm,bs,.ref j::u,N,q,hdct,sn,sub,ab,col,dl} j u n=true/\h.get? C=some {.type "type",dd,.cls {nm,bs,.ref j::u,N,q,hdct,sn,sub,ab,col,dl},#[k0,k1,k2,k3,some (.builtin n),k5]}:=by
 unfold Jv at q;split at q
 ·rename_i dd y sl ho;split at q
  ·rename_i j u k0 k1 k2 k3 n k5 hm hs;obtain⟨nm,bs,B,ns,qn,hd,sn,sub,ab,col,z⟩:=y;subst hm;have v:sl=#[k0,k1,k2,k3,some (.builtin n),k5]:=by
    obtain⟨l⟩:=sl;simp only at hs;rw[hs]
   subst v;exact{_,_,_,_,_,_,_,_,_,_,_,_,_,_,_,_,_,_,_,q,X _ _ ho}
  ·cases q
 ·cases q
def Di {K:Qr}(X:K.In h)(q:PySem.W.excIn K C bmB newId=true) :
 ∃j N nm q bs hdct sn sub ab col dd k0 k1 k2 k3 k5 v,h.get? C=some (excClassObj nm q C N bs j hdct sn sub ab col dd k0 k1 k2 k3 k5 newId)/\h.Ns N v/\v "__init__"=none/\OwnTail h bmB j:=by
 obtain⟨j,ns,nm,qn,bs,hd,sn,sub,ab,col,dd,k0,k1,k2,k3,k5,dl,n,z,q,ho⟩:=Ju X q;simp only[Qw,beq_iff_eq,Bool.not_eq_true'] at q;obtain⟨⟨⟨⟨⟨rfl,rfl⟩,rfl⟩,y⟩,hok⟩,u⟩:=q;exact{j,ns,nm,qn,bs,hd,sn,sub,ab,col,dd,k0,k1,k2,k3,k5,_,ho,.of_isNs (PySem.W.isNs_of_in X hok),PySem.W.nsMap_none_of_in X hok u,PySem.W.tail_of_in X y}
def An (x:eA P w H h a o):∃ob,h.get? a=some ob:=by
 cases o with
 |lst xs=>obtain⟨_,_,_,_,e⟩:=x;exact{_,e}
 |tup xs=>obtain⟨_,_,_,ob,e,_⟩:=x;exact{_,e}
 |dK j=>obtain⟨_,_,_,_,o,_,_,e,_⟩:=x;exact{_,e}
 |dT j=>obtain⟨_,_,_,_,o,_,_,e,_⟩:=x;exact{_,e}
 |set S n=>obtain⟨o,_,_,_,e,_⟩:=x;exact{_,e}
 |ins C v fs=>obtain⟨_,_,_,e,_⟩:=x;exact{_,e}
 |own y=>exact x
 |xd fs=>obtain⟨_,⟨_,_,_,e,_⟩,_⟩:=x;exact{_,e}
 |rng lo z=>obtain⟨_,_,_,e⟩:=x;exact{_,e}
 |frz ob u=>obtain⟨e,_⟩:=x;exact{_,e}
 |tbl ps=>exact{_,x}
 |met f y=>exact{_,x}
 |ext B=>obtain⟨_,e,_⟩:=x;exact e
 |dn es=>obtain⟨_,_,o,e,_⟩:=x;exact⟨o,e⟩
def oP (I:Inv X pins σ H s)(h:X.ex=[])(hn:s.heap.get? e=none):yK X e/\H e=none:=by
 refine{{?_,λp v z=>?_},?_}
 ·cases q:X.s₀.heap.get? e with
  |none=>rfl
  | some o=>
    obtain⟨y,j⟩:=I.base.there e o q (by rw[h];simp)
    rw[hn] at j;cases j
 ·have:=(I.pin p (RD _ v)).1;rw[z,hn] at this;cases this
 ·cases q:H e with
  |none=>rfl
  | some u=>
    obtain⟨ob,z⟩:=An (I.hok e u q);rw[hn] at z;cases z
section
variable{fa:Fa}{X:Cx}{a b:Expr}{ga gb:GE}{ta:GT}{pos p:Pos}{es:List Expr}{gs:GA}{n:Nat}
set_option tactic.hygienic true in
def GH (c:Nat){x:Str}(hx:∃C,X.mg x=some (.ref C)/\fa (eY c)=some C/\PySem.W.excIn X.K C Bg "ValueError.__new__"=true)(L:X.ex=[])(hg:Gl X x)(hc:X.calm=true)(hs:DA fa X (a::es) gs)
 (J:(x==("__debug__":Str))=false) (he:notStar a=true) (S:es.all notStar=true):DS fa X (.Raise (some (.Call (.Name x np) (a::es) [] cpos)) none pos) (dQ c gs):=by
 intro u s σ H D' I ⟨μ,Z,M,hE,hM,h⟩;obtain⟨C,Q,O,P⟩:=hx;obtain⟨bm,N,nm,q,bs,hdct,sn,sub,ab,col,dd,k0,k1,k2,k3,k5,mN,hC,hN,R,T⟩:=Di I.ok.mod.kin P;unfold dQ at h;cases z:gs Z M with
 |err=>rw[z] at h;exact h.elim
 |bad=>rw[z] at h;exact h.elim
 | ok ds M1=>
   rw[z] at h;dsimp only at h;split at h
   ·next hz=>
    refine wpAny_Raise_call_subT (nm:=nm) (q:=q) (N:=N) (bs:=bs) (hdct:=hdct) (sn:=sn) (sub:=sub) (ab:=ab) (col:=col) (dd:=dd) (k0:=k0) (k1:=k1) (k2:=k2) (k3:=k3) (k5:=k5) PySem.F.excBase_ValueError (T.hasType `k) (I.ok.hd hc) (cq (by simp[he,S])) R (gy I hg Q {rfl,?_} J)
    have ar:=aO (hs cpos u s σ H (λvs v=>∃j,Ext μ H j v/\RelM fa X.K j v M1/\aD fa X.K j v ds vs) I {μ,Z,M,hE,hM,by rw[z];exact λvs v j E U r1=>⟨j,E,U,r1⟩}) (Q':=λY s2=>([]:List (Str×Qt))=[]/\Y.length<=sizeLine/\s2.heap.get? C=some (excClassObj nm q C N bs bm hdct sn sub ab col dd k0 k1 k2 k3 k5 "ValueError.__new__")/\s2.heap.Ns N mN/\OwnTail s2.heap Bg bm/\∀B e,Heap.MadeExcOf s2.heap B e (.ref C) Y->X.xe (.ref e) {s2 with heap:=B}) λY s1 ⟨vs,v,y,r,j,E,U,r1⟩=>by
     refine{rfl,?_,y.bk _ _ hC,hN.keeps y.bk,T.keeps y.bk,λB e hm=>?_}
     ·rw[<- r.length,r1.length,<- dE];exact hz
     ·obtain⟨t,ht,_,_⟩:=hm.there;obtain⟨n1,n2⟩:=oP y L hm.new;exact h u σ v j {s1 with heap:=B} e C none c none (y.kept hm.keeps) E (hE.ext E) U rfl O rfl {n1,n2,_,_,ht,rfl,rfl,rfl,.inl rfl}
    rw[bf he] at ar ⊢;exact PySem.Calls.evalArgs_plain ar
   ·exact h.elim
end
structure om (fa:Fa) (K:Qr):Prop where
 g:∀c C,fa (eY c)=some C->kJ K C=true/\PySem.W.mroIn K C (.type "ValueError")=some true/\PySem.W.isIn K (.ref C) C=true
 d:∀c C D,fa (eY c)=some C->fa 999=some D->PySem.W.isIn K (.ref C) D=true/\PySem.W.mroIn K C (.ref D)=some true/\PySem.W.mroIn K D (.type "BaseException")=some true/\PySem.W.typeIn K (.ref D)=some (.type "type")
 n:∀c C c' C',fa (eY c)=some C->fa (eY c')=some C'->c'≠c->PySem.W.kin_not K C C'=true
section
variable{fa:Fa}{X:Cx}{pins:List (Addr×Obj)}{σ:L2.St}{H:Hp}{s:QC}{μ:Mu}
def qR (I:Inv X pins σ H s)(r:Rep fa X.K μ H (.exc c p) v):∃a C u od,v=.ref a/\fa (eY c)=some C/\PySem.W.InstAt s.heap a u C od:=by
 obtain⟨a,C,y,rfl,hf,j,hn⟩:=r;obtain⟨⟨o,J,h1,h2,h3,h4,E⟩,_,_⟩:=I.hok a _ j;have h:PySem.W.notCls o=true:=by unfold PySem.W.notCls;rw[h4]
 cases p with
 | none=>
   exact{a,C,o,none,rfl,hf,h1,h2,h,by rw[h3,hn];trivial}
 | some i=>
   obtain⟨d,rfl,hd⟩:=hn;obtain⟨F,⟨od,B,z,e,_⟩,_⟩:=I.hok d _ hd;exact{a,C,o,some od,rfl,hf,h1,h2,h,by rw[h3];exact e}
def pD (fa:Fa)(K:Qr)(o:Option Nat)(w:V)(xs:List V)(H:Hp)(Q:VK):Prop:=∃μ c p v,xs=[v,w]/\Rep fa K μ H (.exc c p) v/\Q (.bl (match o with|some k=>k==c|none=>true)) H
def Hx (B:om fa X.K){D:Addr}(j:fa (eY k)=some D):b4 X (.builtin "isinstance") (pD fa X.K (some k) (.ref D)):=by
 intro pins s σ H xs L Q I r h;obtain⟨μ,c,p,v,rfl,F,q⟩:=h;obtain⟨u,w,rfl,r1,r2⟩:=vals2 r;obtain rfl:w=Value.ref D:=r2;obtain⟨a,C,J,od,rfl,hf,E⟩:=qR I F;obtain rfl:u=Value.ref a:=r1;dsimp only at q;by_cases y:k=c
 ·subst y;rw[j] at hf;cases hf;rw[beq_self_eq_true] at q;exact PySem.W.isi_call I.kIn (λM=>E.type) (B.g k D j).2.2 (by intro z;cases z) {.bl true,H,I,rfl,q}
 ·rw[RC.mpr y] at q;exact Dh I.kIn E (B.g c C hf).1 (B.n c C k D hf j y) {.bl false,H,I.tok _,rfl,q}
def Hz (B:om fa X.K){D:Addr}(y:fa 999=some D):b4 X (.builtin "isinstance") (pD fa X.K none (.ref D)):=by
 intro pins s σ H xs J Q I r h;obtain⟨μ,c,p,v,rfl,E,q⟩:=h;obtain⟨u,w,rfl,r1,r2⟩:=vals2 r;obtain rfl:w=Value.ref D:=r2;obtain⟨a,C,F,od,rfl,hf,j⟩:=qR I E;obtain rfl:u=Value.ref a:=r1;exact PySem.W.isi_call I.kIn (λM=>j.type) (B.d c C D hf y).1 (by intro z;cases z) {.bl true,H,I,rfl,q}
def Hy (y:om fa X.K):b4 X (.builtin "isinstance") (pD fa X.K none (.ty "ValueError")):=by
 intro pins s σ H xs E Q I r h;obtain⟨μ,c,p,v,rfl,z,q⟩:=h;obtain⟨u,w,rfl,r1,r2⟩:=vals2 r;obtain rfl:w=Value.type "ValueError":=r2;obtain⟨a,C,B,od,rfl,hf,j⟩:=qR I z;obtain rfl:u=Value.ref a:=r1;exact HC I.kIn j (by kernel_rfl) (y.g c C hf).2.1 {.bl true,H,I,rfl,q}
end
section
variable{fa:Fa}{X:Cx}{a:Expr}{ga:GE}{pos p1 p2:Pos}{x:Str}
def qS (h:tE fa X.K (bQ o ga) σ H Q):tE fa X.K ga σ H λv y=>pD fa X.K o w [v,w] y Q:=by
 obtain⟨μ,J,M,z,E,h⟩:=h;exact t1 z E h λx I v y u F B j r1 h1=>by
  cases x with
  |exc c p=>exact{u,c,p,v,rfl,r1,aQ j (aW.ext h1 F) rfl}
  |_=>exact h1.elim
def qz (k:Nat)(z:om fa X.K)(E:∃D,X.mg x=some (.ref D)/\fa (eY k)=some D)(y:DE fa X a ga)(B:Gl X "isinstance")(hm:X.mg "isinstance"=none)(u:Gl X x)(j:(x==("__debug__":Str))=false)
 (he:starEach [a,.Name x p1] X.env=(false,eval a X.env)::starEach [.Name x p1] X.env):DE fa X (.Call (.Name "isinstance" p2) [a,.Name x p1] [] pos) (bQ (some k) ga):=by
 obtain⟨D,h1,h2⟩:=E;exact a9 (gm (Hx z h2) B hm `k (bC y (bC (hZ u h1 (v:=.ref D) rfl j) cY `r) he) `d `d he `r) λσ H Q h=>qS h
def GO (z:om fa X.K)(E:∃D,X.mg x=some (.ref D)/\fa 999=some D)(y:DE fa X a ga)(B:Gl X "isinstance")(hm:X.mg "isinstance"=none)(u:Gl X x)(j:(x==("__debug__":Str))=false)
 (he:starEach [a,.Name x p1] X.env=(false,eval a X.env)::starEach [.Name x p1] X.env):DE fa X (.Call (.Name "isinstance" p2) [a,.Name x p1] [] pos) (bQ none ga):=by
 obtain⟨D,h1,h2⟩:=E;exact a9 (gm (Hz z h2) B hm `k (bC y (bC (hZ u h1 (v:=.ref D) rfl j) cY `r) he) `d `d he `r) λσ H Q h=>qS h
def GN (z:om fa X.K)(y:DE fa X a ga)(B:Gl X "isinstance")(hm:X.mg "isinstance"=none)(j:Gl X "ValueError")(u:X.mg "ValueError"=none)
 (he:starEach [a,.Name "ValueError" p1] X.env=(false,eval a X.env)::starEach [.Name "ValueError" p1] X.env):DE fa X (.Call (.Name "isinstance" p2) [a,.Name "ValueError" p1] [] pos) (bQ none ga):=
 a9 (gm (Hy z) B hm `k (bC y (bC (wm j u `k (v:=.ty "ValueError") rfl) cY `r) he) `d `d he `r) λσ H Q h=>qS h
end
set_option tactic.hygienic true in
def vM {K:Qr}{x C D:Addr}(X:K.In s.heap)(I:PySem.W.InstAt s.heap x ox C od)
 (y:PySem.W.mroIn K D (.type "BaseException")=some true) (L:PySem.W.typeIn K (.ref D)=some (.type "type")) (hs:PySem.W.mroIn K C (.ref D)=some true) (h:Q true s):wpAny (model prog w) A (excMatches (.ref x) (.ref D)) Q E s:=by
 obtain⟨O,g,d,t,os⟩:=s;have v:=PySem.W.looks_mroIn (M:=model prog w) X hs;have z:=PySem.W.looks_mroIn (M:=model prog w) X y;have F:=PySem.W.looks_typeIn (M:=model prog w) X L;have f:=tc_notTuple;obtain⟨cd,u,_⟩:=QT.mp y;unfold PySem.W.clsIn at u;split at u
 ·rename_i Y d' J P ho;have j:=X _ _ ho;have B:PySem.W.Looks (model prog w) O (isType (.ref D)) true:=λR U S s' k q=>by
   exact tqa (wpAny_loadPart (k _ _ j) (tqb q))
  refine tqa (tqa (F.at (wpAny_of_eq f ?_)))
  repeat (first|with_reducible refine tqa (B.at ?_)|with_reducible refine z.at ?_|with_reducible refine v.at ?_|with_reducible refine wpAny_loadPart_at I.at_ ?_|wp_step)
  rw[I.cls];refine v.at ?_
  repeat (first|exact h|wp_step)
 ·cases u
def pY (f:mY New C dx a s.heap H)(h:Q () s):wpAny M A (setFlight (.ref a) none) Q E s:=by
 obtain⟨_,_,o,B,h1,_,_,h4,z⟩:=f;rcases z with t|⟨T,y,ts,t1,_,_,_,j,u,v⟩
 ·refine tqa (tqf h1 h4 t ?_);rw[if_neg `d]
  exact tqb h
 ·refine tqa (tqf h1 h4 t1 ?_);rw[if_pos `s]
  refine wpAny_setField j u (RL.mp v).1 ?_;have e:=Heap.update_setField_same s.heap T y ts 3 .none j u v;show Q () {s with heap:=s.heap.update T (Obj.mapFields (·.setIfInBounds 3 .none))}
  rw[e];exact h
section
variable{X:Cx}{pins:List (Addr×Obj)}{σ:L2.St}{H:Hp}{s:QC}
def wO (I:Inv X pins σ H s)(W:X.N.Nodup)(hi:X.N[i]?=some x)(hk:X.env.scope.names.lookup x=some .local)
 (h:∀R,Inv X pins (σ.set i none) H R->Q () R):wpAny M A (do bindName X.env x .none;unbindBehindTheSuite X.env x ps) Q E s:=by
 obtain⟨m,hn,hl⟩:=id I.loc;have B:(X.env.scope.kind==.class||(X.env.scope.kind==.module&&X.env.locals != X.env.globals))=false:=by rw[I.ok.kind];rfl
 refine wpAny_nameGoes_keeps hk hn B λh' v P hs=>h _ ?_;obtain⟨oL,_,_,Y,_⟩:=id hn;have n0:∀b o,X.s₀.heap.get? b=some o->b≠X.env.locals:=λb o e=>Q1 (QL (QO e) I.ok.above);refine{I.ok,I.os,I.bare,{λb o e n L J=>?_,λb o e n L J=>?_,I.base.free,λb o e J=>?_,I.base.tups,I.base.frzs,I.base.tbls},{_,P,λj y v' e1 e2 U=>?_},λy c e=>?_,I.free,I.freeC,λp hp=>?_,λb ob e=>?_,by simpa using I.len}
 ·exact(hs.2 b (n0 b o e)).trans (I.base.keep b o e n L J)
 ·obtain⟨sl,e1⟩:=I.base.slot b o e n L J;exact{sl,(hs.2 b (n0 b o e)).trans e1}
 ·obtain⟨o',e1⟩:=I.base.there b o e J;exact{o',(hs.2 b (n0 b o e)).trans e1}
 ·by_cases O:j=i
  ·subst O;by_cases F:j<σ.length
   ·rw[QI F] at e2;cases e2
   ·rw[SK (by simpa using F)] at e2;cases e2
  ·rw[Qv (RF O)] at e2;obtain⟨u',r',q⟩:=hl j y v' e1 e2 U;refine{u',r',?_};rcases q with⟨k,e⟩|⟨k,c,e,z⟩
   ·refine .inl {k,?_};have:y≠x:=λe=>O (oH W e1 (e ▸ hi));simp[this,e]
   ·exact .inr {k,c,e,z.sameBut hs (I.cne y c e)}
 ·obtain⟨S,z⟩:=I.cell y c e;exact{S,z.sameBut hs (I.cne y c e)}
 ·obtain⟨e,n,ne,nf,d⟩:=I.pin p hp;exact{(hs.2 p.1 ne).trans e,n,ne,nf,d}
 ·refine(I.hok b ob e).stay (λc S u q=>(hs.2 c ?_).trans q) (λ_ q=>q) λ_ _ q=>q;rintro rfl;rcases u with u|u
  ·rw[<- u,I.free] at e;cases e
  ·rw[I.free] at u;cases u
noncomputable abbrev pV (X:Cx)(pn:List (Addr×Obj))(E:Qt->QC->Prop):Cx:={X with pn:=pn,xe:=E}
noncomputable abbrev pX (X:Cx)(v:Qt)(E:Qt->QC->Prop):Cx:={X with A:=X.A.mark (some v),calm:=false,xe:=E}
def se (I:Inv X pins σ H s)(E:Qt->QC->Prop):Inv (pV X (X.pn++pins) E) [] σ H s:=
 {⟨I.ok.mod,I.ok.kind,I.ok.glob,I.ok.blt,I.ok.above,I.ok.inj,I.ok.has,I.ok.cab,I.ok.hd,I.ok.frames,I.ok.stk,I.ok.exf,I.ok.bs,I.ok.bsz,I.ok.noex,I.ok.exfs,I.ok.funs,I.ok.frf⟩,I.os,I.bare,I.base,I.loc,I.cell,I.free,I.freeC,λp hp=>I.pin p (by simpa using hp),I.hok,I.len}
def dm (I:Inv (pV X (X.pn++pins) E) pins' σ H s):Inv X pins σ H s:=
 {⟨I.ok.mod,I.ok.kind,I.ok.glob,I.ok.blt,I.ok.above,I.ok.inj,I.ok.has,I.ok.cab,I.ok.hd,I.ok.frames,I.ok.stk,I.ok.exf,I.ok.bs,I.ok.bsz,I.ok.noex,I.ok.exfs,I.ok.funs,I.ok.frf⟩,I.os,I.bare,I.base,I.loc,I.cell,I.free,I.freeC,λp hp=>I.pin p (RD _ hp),I.hok,I.len}
def jQ (I:Inv X pins σ H s)(v:Qt)(E:Qt->QC->Prop):Inv (pX X v E) pins σ H s:=
 {{I.ok.mod,I.ok.kind,I.ok.glob,I.ok.blt,I.ok.above,I.ok.inj,I.ok.has,I.ok.cab,(λz=>nomatch z),I.ok.frames,I.ok.stk,I.ok.exf,I.ok.bs,I.ok.bsz,I.ok.noex,I.ok.exfs,I.ok.funs,I.ok.frf},I.os,I.bare,I.base,I.loc,I.cell,I.free,I.freeC,I.pin,I.hok,I.len}
def gA (hh:X.calm=true->X.A.handled=none)(I:Inv (pX X v E) pins σ H s):Inv X pins σ H s:=
 {⟨I.ok.mod,I.ok.kind,I.ok.glob,I.ok.blt,I.ok.above,I.ok.inj,I.ok.has,I.ok.cab,hh,I.ok.frames,I.ok.stk,I.ok.exf,I.ok.bs,I.ok.bsz,I.ok.noex,I.ok.exfs,I.ok.funs,I.ok.frf⟩,I.os,I.bare,I.base,I.loc,I.cell,I.free,I.freeC,I.pin,I.hok,I.len}
end
section
variable{fa:Fa}{X:Cx}{pos np hp:Pos}{x nm:Str}{i:Nat}{body suite:List Stmt}{b0:Stmt}{gB gH:GS}
def a8.unset {K:Qr}(h:a8 fa K μ H σ Z)(i:Nat):a8 fa K μ H (σ.set i none) (Z.set i none):=by
 refine{by simp[h.len],λj d e=>?_}
 by_cases u:j=i
 ·subst u;by_cases hl:j<Z.length
  ·rw[QI hl] at e;cases e
  ·rw[SK (by simpa using hl)] at e;cases e
 ·rw[Qv (RF u)] at e;obtain⟨v,h1,h2⟩:=h.at' j d e;exact{v,by rw[Qv (RF u)];exact h1,h2}
set_option tactic.hygienic true in
def MA (hc:om fa X.K)(hx:∃D,X.mg x=some (.ref D)/\fa 999=some D)(hex:X.ex=[])(J:X.stack=X.env::X.outer)(hfr:X.env.frame=some X.env.locals)(hN:X.N.Nodup)(hi:X.N[i]?=some nm)(hl:X.env.scope.names.lookup nm=some .local)
 (hg:Gl X x) (hdb:(x==("__debug__":Str))=false) (hb:∀pn E,jE fa (pV X pn E) body gB) (hh:∀v E,jE fa (pX X v E) (b0::suite) gH) :
 DS fa X (.Try body [.ExceptHandler (some (.Name x np)) (some nm) (b0::suite) hp] [] [] pos) (t6 gB i gH):=by
 intro pins s σ H D' I ⟨μ,Z,M,hE,hM,h⟩;obtain⟨D,hmD,hfD⟩:=hx;obtain⟨fl,M1,e,q⟩:=aC h;refine wpAny_Try_except (wpAny_mono (hb (X.pn++pins) (λe s₁=>wpAny (model X.prog X.w) X.A (noteFrame e X.env) (λ_ s₂=>wpAny (model X.prog X.w) X.A (setFlight e none) (λ_ s₃=>wpAny (model X.prog X.w) X.A (handleBy e X.env [.ExceptHandler (some (.Name x np)) (some nm) (b0::suite) hp]) (SP X pins D') X.xe s₃) X.xe s₂) X.xe s₁) [] s σ H D' (se I _) {μ,Z,M,hE,hM,?_}) (λf s1 z=>?_) λ_ _ z=>z)
 ·rw[e];cases fl with
  |next ρ'=>exact q
  |ret d=>exact q
  | exc y ρ1=>
    intro pins' σ' U L s' a C S c p R ye hE1 hM1 ey hcC hn fl;have hall:=fl.1.2;refine qF (by rw[<- J];exact R.ok.frames) (by rw[<- J];exact R.stack) hfr fl (λb z=>(oP R hex (Heap.get?_none_of_le z)).1) R.hok (by rw[<- J];exact R.stkFree) λh' ch P u hok fl2=>?_
    have Y:=uO (dm R) (λb hb=>{(P b hb).1.1,(P b hb).2.2,(P b hb).1.2}) (by rw[J];exact u) hok
    have O:=hc.d c C D hcC hfD;obtain⟨nw,ha,o,vs,h1,h2,h3,h4,tr⟩:=id fl2;have hxat:xm C S a h':={o,vs,h1,h2,h3,h4,by
     rcases tr with t|⟨T,oT,ts,t,_⟩
     ·exact(RL.mp t).1
     ·exact(RL.mp t).1}
    have hnc:PySem.W.notCls o=true:=by unfold PySem.W.notCls;rw[h4]
    refine wpAny_handleBy_cons (codeAny_handlers_test (gy (jQ Y (.ref a) X.xe) hg hmD ?_ hdb)) (by intro z;cases z)
    have IA:∃od,PySem.W.InstAt h' a o C od:=by
     cases p with
     | none=>
       exact{none,h1,h2,hnc,by rw[h3,hn];trivial}
     | some k=>
       obtain⟨d,rfl,hd⟩:=hn;obtain⟨mA,⟨od,es,ep,ed,_⟩,_⟩:=hok d _ hd;exact{some od,h1,h2,hnc,by rw[h3];exact ed}
    obtain⟨od,IA⟩:=IA;refine vM Y.kIn IA O.2.2.1 O.2.2.2 O.2.1 ?_;refine codeAny_handlers_suite_as (pY fl2 ?_);have I3:Inv X pins σ' (upd U a (.ext (xm C S a))) {s' with heap:=h'}:=AR Y hex ha nw.1 ⟨o,vs,h1,h4⟩ hall {hxat,⟨o,h1⟩,λg1 g2 ⟨o,vs,k1,k2⟩ kk=>{o,vs,kk o k1,k2}}
    have xa:Ext L U L (upd U a (.ext (xm C S a))):=Ext.alloc hM1 ha;have rp:Rep fa X.K L (upd U a (.ext (xm C S a))) y (.ref a):=by
     rw[ey];refine{a,C,S,rfl,hcC,bG,?_};cases p with
     |none=>exact hn
     |some k=>exact let⟨d,z1,z2⟩:=hn;{d,z1,by rw[av (aP z2 ha)];exact z2}
    refine tO I3 hN hi (.inl hl) (v:=.ref a) rfl (λs4 I4=>?_) (.inr hl);obtain⟨fl3,M2,e3,q3⟩:=aC q;refine wpAny_mono (hh (.ref a) _ pins s4 (σ'.set i (some (.ref a))) (upd U a (.ext (xm C S a))) {nx:=λQ H2=>D'.nx (Q.set i none) H2,rt:=D'.rt} (jQ I4 (.ref a) _) {L,_,M1,(hE1.ext xa).set rp,hM1.alloc ha,?_}) (λf s5 z=>?_) λ_ _ z=>z
    ·rw[e3];cases fl3 with
     |next ρ2=>exact λQ H2 μ2 x2 hE2 hM2=>q3 (Q.set i none) H2 μ2 ((ye.trans xa).trans x2) (hE2.unset i) hM2
     |ret d=>exact aW.ext q3 (ye.trans xa)
     |exc=>exact q3.elim
    ·dsimp only;cases f with
     | next=>
       obtain⟨j,B,F,z⟩:=z;exact wO (gA Y.ok.hd F) hN hi hl λs6 I6=>{_,B,I6,z}
     | ret u=>
       obtain⟨v,j,B,F,r5,z⟩:=z;exact wO (gA Y.ok.hd F) hN hi hl λs6 I6=>{v,_,B,I6,r5,z}
     |brk=>obtain⟨_,_,_,z⟩:=z;exact z.elim
     |cont=>obtain⟨_,_,_,z⟩:=z;exact z.elim
 ·cases f with
  |next=>obtain⟨j,B,F,z⟩:=z;exact wpAny_execs_nil {j,B,dm F,z}
  |ret u=>obtain⟨v,j,B,F,r5,z⟩:=z;exact{v,j,B,dm F,r5,z}
  |brk=>obtain⟨j,B,F,z⟩:=z;exact{j,B,dm F,z}
  |cont=>obtain⟨j,B,F,z⟩:=z;exact{j,B,dm F,z}
end
noncomputable def II (K:Qr)(cl:List (Nat×Addr))(D:Addr):Bool:=PySem.W.mroIn K D (.type "BaseException")==some true&&PySem.W.typeIn K (.ref D)==some (.type "type") &&
 cl.all λq=>kJ K q.2&&PySem.W.mroIn K q.2 (.type "ValueError")==some true&&PySem.W.isIn K (.ref q.2) q.2&&PySem.W.isIn K (.ref q.2) D&&PySem.W.mroIn K q.2 (.ref D)==some true&&cl.all λr=>r.1==q.1||PySem.W.kin_not K q.2 r.2
noncomputable def uX (l cl:List (Nat×Addr))(D:Addr):Fa:=λi=>if i<999 then l.lookup i else if i=999 then some D else cl.lookup (i-1000)
set_option tactic.hygienic true in
theorem lookup_mem:∀{l:List (Nat×Addr)}{c:Nat}{C:Addr},l.lookup c=some C->(c,C)∈l
 |[],_,_,h=>by cases h
 | (a,b)::r,c,C,h=>by
   rw[Rw] at h;split at h
   ·next e=>cases h;rw[eq_of_beq e];exact QS
   ·exact QD _ (lookup_mem h)
def kD {D:Addr}(h:uX l cl D (eY c)=some C):(c,C)∈cl:=by
 unfold uX eY at h;rw[if_neg `a,if_neg `a,Q7] at h
 exact lookup_mem h
def IH {K:Qr}{D:Addr}(h:II K cl D=true):om (uX l cl D) K:=by
 unfold II at h;simp only[Qw,beq_iff_eq,QY,Si] at h;obtain⟨⟨h1,h2⟩,h3⟩:=h;refine{λc C e=>?_,λc C v e j=>?_,λc C y u e j n=>?_}
 ·obtain⟨⟨⟨⟨⟨a1,a2⟩,a3⟩,a4⟩,a5⟩,a6⟩:=h3 _ (kD e);exact⟨a1,a2,a3⟩
 ·obtain⟨⟨⟨⟨⟨a1,a2⟩,a3⟩,a4⟩,a5⟩,a6⟩:=h3 _ (kD e);cases j;exact⟨a4,a5,h1,h2⟩
 ·obtain⟨⟨⟨⟨⟨a1,a2⟩,a3⟩,a4⟩,a5⟩,a6⟩:=h3 _ (kD e);exact(a6 _ (kD j)).elim (λz=>absurd z n) id
end LD
namespace LD
open PySem PySem.Spec PyProof.Rows L2 PySem.SeqAt
def pq (M:Mem)(x:D):Option (List Bool):=(ff M x).bind boolsOf
def yp (a:GE):GE:=λh M=>(a h M).bind λx M=>match pq M x with
 |some bs=>.ok (.int (bs.count true)) M
 |none=>.bad
def yn (a:GE):GE:=λh M=>(a h M).bind λx M=>match pq M x with
 |some bs=>if true∈bs then .ok (.int (bs.idxOf true)) M else .bad
 |none=>.bad
noncomputable def pT:Qt->Bool
 |.bool b=>b
 |_=>false
section
variable{fa:Fa}{X:Cx}
def eqT {bs:List Bool}(h:us=bs.map Value.bool):∀y,y∈us.toArray->EqAt A s y (.bool true) (pT y):=λy u=>by
 have u:y∈us:=by simpa using u
 rw[h] at u;obtain⟨b,_,rfl⟩:=QF.mp u;have e:=EqAt.bool_bool (A:=A) (s:=s) b true;have q:(b==true)=pT (.bool b):=by cases b<;>rfl
 rw[<- q];exact e
def PJ {bs:List Bool}:(bs.map Value.bool).countP pT=bs.count true:=by
 induction bs with
 |nil=>rfl
 |cons b r h=>cases b<;>simp[List.countP_cons,pT,h]
def sr:∀{us:List Qt}{bs:List Bool},PyProof.Rows.LSm.BoolsAre us bs->us=bs.map Value.bool:=by
 intro us bs h;induction h with
 |nil=>rfl
 |cons _ _ u=>simp[u]
def OU (fa:Fa)(K:Qr)(x:V)(vs:List V)(H:Hp)(Q:VK):Prop:=∃v h bs p u,x=.ref p/\vs=[.bl true]/\cF K H p u/\aD fa K v H h u/\boolsOf h=some bs/\Q (.int (bs.count true)) H
def MG (fa:Fa)(K:Qr)(x:V)(vs:List V)(H:Hp)(Q:VK):Prop:=∃v h bs p u,x=.ref p/\vs=[.bl true]/\cF K H p u/\aD fa K v H h u/\boolsOf h=some bs/\true∈bs/\Q (.int (bs.idxOf true)) H
def KI:Fy X "list.count" (OU fa X.K):=by
 intro M s σ H x vs v us Q I W J h;obtain⟨μ,Y,bs,p,ws,rfl,rfl,R,S,P,q⟩:=h;cases W;obtain⟨u,rfl,U⟩:=vals1 J;obtain rfl:u=Value.bool true:=U;obtain⟨y,J,⟨o,n,e1,e2,e3,O⟩,hz⟩:=I.list R;have L:=sr (mq P S J);obtain⟨oc,od,B,E⟩:=o;obtain rfl:oc=.type "list":=e2;obtain rfl:B=.seq y.toArray n:=O;refine call_meets PySem.F.slot_list_count {_,e1,rfl} PySem.F.entry_list_count (PySem.F.args_list_count_2 _ _) (PySem.SeqAt.list_countAt p y.toArray n od E (.bool true) pT) {e1,eqT L,?_};have z:y.toArray.toList.countP pT=bs.count true:=by rw[L,List.toList_toArray];exact PJ
 exact{.int (bs.count true),H,I.tok _,{s.toks,by rw[z]},q}
def KH:Fy X "list.index" (MG fa X.K):=by
 intro L s σ H x vs v us Q I rx z h;obtain⟨μ,ds,bs,p,ws,rfl,rfl,R,W,O,hm,q⟩:=h;cases rx;obtain⟨u,rfl,Y⟩:=vals1 z;obtain rfl:u=Value.bool true:=Y;obtain⟨y,z,⟨o,n,e1,e2,e3,M⟩,S⟩:=I.list R;have B:=sr (mq O W z);obtain⟨oc,od,E,J⟩:=o;obtain rfl:oc=.type "list":=e2;obtain rfl:E=.seq y.toArray n:=M;have hl:=List.idxOf_lt_length_of_mem hm;have P:y.length=bs.length:=by rw[B];simp
 have U:y.length<=sizeLine:=by rw[<- z.length];exact S
 have hs:((bs.idxOf true:Nat):Int)<2^63-1:=by
  have:sizeLine<2^62:=`d
  omega
 have at':∀m (hm:m<y.toArray.size),pT y.toArray[m]=bs[m]'(by simp at hm;omega):=λm hm=>by subst B;simp[pT]
 refine call_meets PySem.F.slot_list_index {_,e1,rfl} PySem.F.entry_list_index (PySem.F.args_list_index_2 _ _) (PySem.SeqAt.list_indexAt p y.toArray n od J (.bool true) pT (bs.idxOf true) `o hs (by rw[at'];simp) λm hm h=>?_) {e1,eqT B,?_}
 ·rw[at'];have:=List.not_of_lt_findIdx h;simpa using this
 ·exact{.int (bs.idxOf true),H,I.tok _,{_,rfl},q}
variable{a:Expr}{ga:GE}{apos cpos kp:Pos}{j:Nat}
def JN (U:DE fa X a ga)(u:attributeBase a "count" X.env (eval a X.env)=eval a X.env)(y:(apos.endLine==cpos.line)=true):DE fa X (.Call (.Attribute a "count" apos) [.Constant (.bool true) j kp] [] cpos) (yp ga):=
 a9 (sU Se PySem.F.slot_list_count PySem.F.type_list_count (KI) U (bC xK cY `r) u `r y `r `r) λσ H Q ⟨μ,Z,M,P,S,h⟩=>t1 P S h λx L v H1 E Y R z r1 h1=>by
  cases B:pq L x with
  |none=>rw[B] at h1;exact h1.elim
  |some bs=>
   rw[B] at h1;obtain⟨O,e,e2⟩:=QT.mp B;obtain⟨p,J,rfl,I,W⟩:=bw z r1 e;exact{.inl ⟨rfl,J,I⟩,E,O,bs,p,J,rfl,rfl,I,W,e2,aQ z (aW.ext h1 Y) rfl}
set_option tactic.hygienic true in
def JJ (U:DE fa X a ga)(u:attributeBase a "index" X.env (eval a X.env)=eval a X.env)(y:(apos.endLine==cpos.line)=true):DE fa X (.Call (.Attribute a "index" apos) [.Constant (.bool true) j kp] [] cpos) (yn ga):=
 a9 (sU Se PySem.F.slot_list_index PySem.F.type_list_index (KH) U (bC xK cY `r) u `r y `r `r) λσ H Q ⟨μ,Z,M,P,S,h⟩=>t1 P S h λx I v H1 E Y R z r1 h1=>by
  cases B:pq I x with
  |none=>rw[B] at h1;exact h1.elim
  |some bs=>
   rw[B] at h1;obtain⟨O,e,e2⟩:=QT.mp B;have h1:ae (if true∈bs then .ok (.int (bs.idxOf true)) I else .bad) (aW fa X.K μ H Q):=h1;split at h1
   ·next hm=>
    obtain⟨p,L,rfl,J,W⟩:=bw z r1 e;exact{.inl ⟨rfl,L,J⟩,E,O,bs,p,L,rfl,rfl,J,W,e2,hm,aQ z (aW.ext h1 Y) rfl}
   ·exact h1.elim
end
end LD
namespace LD
open PySem PySem.Spec PyProof.Rows L2
def fit (z:Str)(i:Int)(y:Str):Prop:=i.natAbs.log2<1920/\(z++(toString i:Str)).length<=sizeLine/\(z++(toString i:Str)++y).length<=sizeLine
section
variable{X:Cx}{a:Expr}{ta:TE}{pos p1 p2 p3:Pos}{j j2:Nat}{z y:Str}
def tF3 (z y:Str)(ta:TE):TE:=λB H Q=>z.length<=sizeLine/\ta B H λv u=>∃i,v=.int i/\fit z i y/\Q (.str (z++(toString i:Str)++y)) u
def Bm (z:Str):Str.empty++z=z:=by
 cases z with
 |mk c=>show Str.mk (#[]++c)=_;simp
def MO (P:PE X a ta):PE X (.JoinedStr [.Constant (.str z) j p1,.FormattedValue a (-1) none p2,.Constant (.str y) j2 p3] pos) (tF3 z y ta):=by
 intro B s S H Q I ⟨R,h⟩;refine JoinedStr_many (joinParts_cons (Calls.Constant_str ?_));show(Str.empty++z).length<=sizeLine/\_;rw[Bm];refine{R,joinParts_cons (FormattedValue_plain (aO (P B _ S H _ (I.tok _) h) λu s1 ⟨v,J,L,r1,i,M,⟨f1,O,F⟩,q⟩=>?_))};subst M;obtain⟨t,rfl⟩:=r1;refine formatField_int_small f1 {O,joinParts_cons (Calls.Constant_str {F,joinParts_nil ?_ F})};exact{.str _,J,L.tok _,{_,rfl},q}
end
def Mb (C:Addr)(v:Option Addr)(a:Addr)(h:Heap):Prop:=∃o u B,h.get? a=some o/\o.cls=.ref C/\o.dict=v/\o.data=.fields u/\u[0]?=some (.ref B)/\u[1]?=some .none
def Li (K:Qr)(C:Addr)(fI:Addr):Bool:=Jv K C λcd C' bm n=>C'==C&&n=="ValueError.__new__"&&!cd.hasDel&&PySem.W.tailIn K Bg bm&&PySem.W.nsOkIn K cd.ns&&PySem.W.nsIn K cd.ns "__init__"==some (some (.ref fI))
def spI (C:Addr)(fld:Str):Sp:=λh H Q _=>∃e i,h=[.ref e,.int i]/\H e=some (.ext (Mb C none e))/\i.natAbs<2^64/\∀d,H d=none->d≠e->Q .non (upd (upd H d (.xd [(fld,.int i)])) e (.ext (Mb C (some d) e)))
def len_app (a b:Str):(a++b).length=a.length+b.length:=by
 show(Str.append a b).length=_;unfold Str.append Str.length;simp
def Le {i:Int}(hz:z.length<=1000)(u:y.length<=1000)(hi:i.natAbs<2^64):fit z i y:=by
 have h1:i.natAbs.log2<1920:=by
  by_cases h:i.natAbs=0
  ·rw[h];decide
  ·exact QL ((Nat.log2_lt h).mpr hi) `a
 have h2:=PyProof.Rows.int_text_len_1921 h1;have hs:sizeLine=16777216:=dE.symm;refine{h1,?_,?_}
 ·rw[len_app];omega
 ·rw[len_app,len_app];omega
def Bs (fa:Fa)(P:Rv)(w:Rf)(K:Qr)(mg:Str->Option Qt)(base:Heap)(c:Nat)(x:Str):Prop:=
 ∃C h j y u,mg x=some (.ref C)/\fa (eY c)=some C/\Li K C h=true/\PySem.W.keepIn K (.ref C)=true/\K.lookup h=some u/\u.cls=.type "function"/\Binds K j ["self",y] []/\hD P w K mg base (iH P w) 1 h j ["self",y] (spI C (Bz c))
section
variable{fa:Fa}{X:Cx}{a b:Expr}{ga gb:GE}{ta:GT}{pos p np cpos:Pos}{es:List Expr}{gs:GA}{n:Nat}{x:Str}
def Ft (fa:Fa)(K:Qr)(f:Str):Prop:=∀c C,fa (eY c)=some C->Bz c=f->PySem.W.hasDictIn K C=true/\PySem.W.findIn K (.ref C) f=some none
end
def inC (s:Stmt):Stmt:=match s with
 |.ClassDef _ _ _ (b::_) _ _ _ _ _ _ _=>b
 |_=>s
def sf (z y:Str)(a:GE):GE:=λh M=>(a h M).bind λd M=>match d with
 |.int i=>if z.length<=1000/\y.length<=1000/\i.natAbs<2^64 then .ok (.str (z++(toString i:Str)++y)) M else .bad
 |_=>.bad
set_option tactic.hygienic true in
def OQ (O:DE fa X a ga):DE fa X (.JoinedStr [.Constant (.str z) j p1,.FormattedValue a (-1) none p2,.Constant (.str y) j2 p3] pos) (sf z y ga):=
 a9 (MO O) λW H Q ⟨B,U,M,J,L,h⟩=>by
  obtain⟨R,F,I,h1⟩:=aC h;cases R with
  | int i=>
    have h1:ae (if z.length<=1000/\y.length<=1000/\i.natAbs<2^64 then .ok (.str (z++(toString i:Str)++y)) F else .bad) (aW fa X.K B H Q):=h1;split at h1
    ·next hm=>
     refine{QH hm.1 (by rw[<- dE];decide),B,U,M,J,L,?_}
     rw[I];intro v E u S P r1;obtain rfl:v=.int i:=r1;exact{i,rfl,Le hm.1 hm.2.1 hm.2.2,h1 (.str _) E u S P rfl}
    ·exact h1.elim
  |_=>exact h1.elim
def l6 (k1 k2:Nat)(h:GS):Fl->Mem->Res Fl
 | .exc x j,M=>match x with
   |.exc c _=>if c=k1\/c=k2 then(h j M).bind λfl M=>match fl with|.exc _ _=>.bad|fl=>.ok fl M else .bad
   |_=>.bad
 |fl,M=>.ok fl M
def ml (b:GS)(k1 k2:Nat)(h:GS):GS:=λj M=>(b j M).bind (l6 k1 k2 h)
def xn (fa:Fa)(K:Qr)(mg:Str->Option Qt)(x1 x2:Str)(k1 k2:Nat):Prop:=∃h j,mg x1=some (.ref h)/\mg x2=some (.ref j)/\∀c C,c=k1\/c=k2->fa (eY c)=some C->PySem.W.exmAny K (.ref C) [.ref h,.ref j]=some true
noncomputable def Oy (K:Qr)(cl:List (Nat×Addr))(h j:Addr)(k1 k2:Nat):Bool:=cl.all λq=>!(q.1==k1||q.1==k2)||PySem.W.exmAny K (.ref q.2) [.ref h,.ref j]==some true
def Jg {K:Qr}{D j u:Addr}(y:mg x1=some (.ref j))(B:mg x2=some (.ref u))(h:Oy K cl j u k1 k2=true):xn (uX l cl D) K mg x1 x2 k1 k2:=by
 refine{j,u,y,B,λc C v e=>?_};have:=QY.mp h _ (kD e);rw[Si] at this;rcases this with z|z
 ·have e1:(c==k1||c==k2)=true:=by simpa using v
  rw[e1] at z;cases z
 ·exact eq_of_beq z
def uW (M:Mem)(o:Nat)(nm:Str):Option D:=if 5000<=o then(match M[o-5000]? with
 |some (.int c::es)=>((bJ c.toNat).findIdx? (·==nm)).bind λi=>es[i]?
 |_=>none) else none
def bR (nm:Str)(a:GE):GE:=λh M=>(a h M).bind λx M=>match x with
 |.fn o=>bS M (uW M o nm)
 |_=>.bad
def Br (fa:Fa)(K:Qr):Prop:=∀c C,fa (fg c)=some C->bJ c≠[]->iG K C/\∀f∈bJ c,jC K C f
section
variable{fa:Fa}{K:Qr}{μ:Mu}{H:Hp}{M:Mem}
def RelM.obj {c:Int}(h:RelM fa K μ H M)(ho:5000<=o)(z:μ.ob o=some a)(e:M[o-5000]?=some (.int c::es))(hf:bJ c.toNat≠[]) :
 ∃n C j fs,c=(n:Nat)/\fa (fg n)=some C/\H a=some (.ins C j fs)/\fs.map (·.1)=(bJ n).take fs.length/\aD fa K μ H es (fs.map (·.2)):=by
 have y:aj (o-5000)=o:=Nat.add_sub_cancel' ho;rcases h.at' _ _ e with⟨b,J,h1,_⟩|⟨b,h1,h2,⟨n,C,j,fs,u,h3,h4,B,v,E⟩|⟨c,u,I,_,F,v,_⟩⟩
 ·have:=h.sep _ _ h1;rw[y,z] at this;cases this
 ·rw[y,z] at h1;cases h1;cases v;exact⟨n,C,j,fs,rfl,h3,h4,B,E⟩
 ·cases v;rcases F with rfl|rfl<;>exact absurd rfl hf
set_option tactic.hygienic true in
theorem uE:∀{fs:List (Str×V)}{ns:List Str}{i:Nat}{v:V},fs.map (·.1)=ns.take fs.length->ns.findIdx? (·==nm)=some i->(fs.map (·.2))[i]?=some v->fs.lookup nm=some v
 |[],_,_,_,_,_,e=>by simp at e
 |(x,u)::fs,[],_,_,h,_,_=>by simp at h
 | (x,u)::fs,y::ns,i,v,h,f,e=>by
   simp only[Ry,Rx,List.take_succ_cons,List.cons.injEq] at h;obtain⟨rfl,h⟩:=h;rw[List.findIdx?_cons] at f;split at f
   ·next q=>
    cases f;cases e;rw[Rw,show(nm==x)=true by rw[<- eq_of_beq q,beq_self_eq_true]]
   ·next q=>
    obtain⟨j,B,rfl⟩:=QG.mp f;rw[Rw,show(nm==x)=false by rw[Bool.eq_false_iff];exact λz=>q (by rw[<- eq_of_beq z,beq_self_eq_true])]
    exact uE h B e
end
section
variable{fa:Fa}{X:Cx}{a:Expr}{ga:GE}{pos:Pos}
set_option tactic.hygienic true in
def NG (nm:Str)(Y:Br fa X.K)(hf:∀o,5000<=o->fa o=none)(W:DE fa X a ga)(j:attributeBase a nm X.env (eval a X.env)=eval a X.env):DE fa X (.Attribute a nm pos) (bR nm ga):=
 a9 (Kb W j) λσ H Q ⟨μ,Z,M,R,U,h⟩=>by
  obtain⟨x0,M1,J,h⟩:=aC h;refine{μ,Z,M,R,U,?_};rw[J];intro v F B x1 E r1;cases x0 with
  | fn o=>
    obtain⟨d,y,q⟩:=i4 h;unfold uW at y;split at y
    ·next ho=>
     split at y
     ·next c es O=>
      obtain⟨i,u,L⟩:=QT.mp y;obtain⟨b,rfl,j⟩:=r1;rcases j with j|⟨_,j⟩
      ·rw[hf o ho] at j;cases j
      obtain⟨n,C,I,fs,rfl,P,S,hn,hr⟩:=E.obj ho j O (λz=>by rw[z] at u;cases u)
      rw[RP] at u;obtain⟨v,hv,rv⟩:=hr.get L;have ne:bJ n≠[]:=λz=>by rw[z] at u;cases u
      obtain⟨cl,na⟩:=Y n C P ne;have mem:nm∈bJ n:=by
       obtain⟨hl,h1,_⟩:=S1.mp u;rw[<- eq_of_beq h1];exact Sm _
      exact{b,C,I,fs,v,rfl,S,cl,na nm mem,uE hn u hv,q v F B x1 E rv}
     ·cases y
    ·cases y
  |_=>exact h.elim
end
def lE (M:Mem)(o:Nat)(nm:Str)(z:D):Option Mem:=if 5000<=o then(match M[o-5000]? with
 |some (.int c::es)=>((bJ c.toNat).findIdx? (·==nm)).bind λi=>if i<es.length then some (M.set (o-5000) (.int c::es.set i z)) else if i=es.length then some (M.set (o-5000) (.int c::(es++[z]))) else none
 |_=>none) else none
def ik (nm:Str)(a v:GE):GS:=λh M=>(v h M).bind λz M=>(a h M).bind λx M=>match x with
 | .fn o=>(match lE M o nm z with
   |some j=>.ok (.next h) j
   |none=>.bad)
 |_=>.bad
def De (n:Nat):(bJ n).length<1000:=by
 unfold bJ;split<;>decide
set_option tactic.hygienic true in
theorem wd:∀{fs:List (Str×V)}{ns:List Str}{i:Nat},fs.map (·.1)=ns.take fs.length->ns.findIdx? (·==nm)=some i->i<fs.length->(cP nm v fs).map (·.1)=fs.map (·.1)/\(cP nm v fs).map (·.2)=(fs.map (·.2)).set i v
 |(x,u)::fs,[],_,h,_,_=>by simp at h
 | (x,u)::fs,y::ns,i,h,f,l=>by
   simp only[Ry,Rx,List.take_succ_cons,List.cons.injEq] at h;obtain⟨rfl,h⟩:=h;rw[List.findIdx?_cons] at f;show(if x=nm then(x,v)::fs else(x,u)::cP nm v fs).map _=_/\(if x=nm then(x,v)::fs else(x,u)::cP nm v fs).map _=_;split at f
   ·next q=>
    cases f;rw[if_pos (eq_of_beq q)];exact⟨rfl,rfl⟩
   ·next q=>
    obtain⟨j,B,rfl⟩:=QG.mp f;rw[if_neg (λz=>q (by rw[z,beq_self_eq_true]))]
    obtain⟨h1,h2⟩:=wd h B (Nat.lt_of_succ_lt_succ l);exact{by rw[Ry,h1];rfl,by rw[Ry,h2];rfl}
set_option tactic.hygienic true in
theorem we:∀{fs:List (Str×V)}{ns:List Str},fs.map (·.1)=ns.take fs.length->ns.findIdx? (·==nm)=some fs.length->cP nm v fs=fs++[(nm,v)]
 |[],_,_,_=>rfl
 |(x,u)::fs,[],h,_=>by simp at h
 | (x,u)::fs,y::ns,h,f=>by
   simp only[Ry,Rx,List.take_succ_cons,List.cons.injEq] at h;obtain⟨rfl,h⟩:=h;rw[List.findIdx?_cons] at f;show(if x=nm then(x,v)::fs else(x,u)::cP nm v fs)=_;split at f
   ·cases f
   ·next q=>
    obtain⟨j,B,e⟩:=QG.mp f;cases e;rw[if_neg (λz=>q (by rw[z,beq_self_eq_true])),we h B];rfl
section
variable{fa:Fa}{K:Qr}{μ:Mu}{H:Hp}{M:Mem}
def Ext.ins (h:RelM fa K μ H M)(y:H a=some (.ins C j fs)):Ext μ H μ (upd H a (.ins C j fs')):=by
 have ne:∀{b o},H b=some o->(∀C j fs,o≠.ins C j fs)->b≠a:=λg n z=>by rw[z,y] at g;cases g;exact n _ _ _ rfl
 refine{{λ_ _ q=>q,λb v g=>?_,λb v g n=>{by rw[av (ne g (λ_ _ _ z=>by cases z))];exact g,n},λb ob u g=>by rw[av (ne g (λ_ _ _ z=>by cases z))];exact g,λb o i g=>?_,λ_ _ q=>q},rfl,λb B=>?_}
 ·rcases g with g|⟨ob,g⟩
  ·exact .inl (by rw[av (ne g (λ_ _ _ z=>by cases z))];exact g)
  ·exact .inr {ob,by rw[av (ne g (λ_ _ _ z=>by cases z))];exact g}
 ·rw[av (ne g (λ_ _ _ z=>by rcases i with⟨_,i⟩|⟨_,i⟩<;>(rw[i] at z;cases z)))];exact g
 ·obtain⟨⟨v,g⟩,_⟩:=h.pv b B;rw[av (ne g (λ_ _ _ z=>by cases z))]
def RelM.objW (h:RelM fa K μ H M)(e:M[k]?=some ds)(v:μ.ob (aj k)=some a)(I:fa (fg n)=some C)(F:H a=some (.ins C dx fs))(hn:fs'.map (·.1)=(bJ n).take fs'.length)(hr:aD fa K μ H es (fs'.map (·.2))) :
 RelM fa K μ (upd H a (.ins C dx fs')) (M.set k (.int n::es)):=by
 have x:Ext μ H μ (upd H a (.ins C dx fs')):=Ext.ins h F;refine{λj y q=>?_,λj u=>h.out j (by simpa using u),λj u=>h.oout j (by simpa using u),h.inj,h.oinj,h.sep,λb B=>{let{⟨E,g⟩,_}:=h.pv b B;{E,by rw[x.pk b B];exact g},(h.pv b B).2}}
 by_cases u:j=k
 ·subst u;have hl:j<M.length:=(Qs.mp e).1;rw[QI hl] at q;cases q;have L:μ.pub j=none:=by
   cases z:μ.pub j with
   |none=>rfl
   |some b=>rw[h.sep j b z] at v;cases v
  exact .inr {a,v,L,.inl {n,C,dx,fs',es,I,bG,hn,rfl,hr.ext x}}
 ·rw[Qv (RF u)] at q;rcases h.at' j y q with⟨b,E,h1,h2,h3⟩|⟨b,h1,h2,h3⟩
  ·exact .inl {b,E,h1,by rw[av (λz=>by rw[z,F] at h2;cases h2)];exact h2,h3.ext x}
  ·have J:b≠a:=λz=>u (h.oinj _ _ a (z ▸ h1) v);exact .inr {b,h1,h2,h3.extW x.toExtW (av J)}
end
section
variable{fa:Fa}{X:Cx}{a e:Expr}{ga gv:GE}{pos pos':Pos}
set_option tactic.hygienic true in
def MB (nm:Str)(hc:Br fa X.K)(hf:∀o,5000<=o->fa o=none)(ha:DE fa X a ga)(hv:DE fa X e gv)(hs:swapsWith e (some (.Attribute a nm pos')) pos.line X.env=pure false):DS fa X (.Assign [.Attribute a nm pos'] e pos) (ik nm ga gv):=
 dh (J1 ha hv hs) λD' σ H ⟨μ,Z,M,hE,hM,h⟩=>t2 hE hM h λz x Y v u W I x2 Q y rz rx h2=>by
  cases x with
  | fn o=>
    dsimp only at h2;cases j:lE Y o nm z with
    |none=>rw[j] at h2;exact h2.elim
    | some M'=>
      rw[j] at h2;have q:=h2;unfold lE at j;split at j
      ·next ho=>
       split at j
       ·next c es em=>
        obtain⟨i,B,j⟩:=QT.mp j;obtain⟨b,rfl,F⟩:=rx;rcases F with F|⟨_,F⟩
        ·rw[hf o ho] at F;cases F
        obtain⟨n,C,dx,fs,rfl,hC,P,hn,hr⟩:=y.obj ho F em (λz=>by rw[z] at B;cases B)
        rw[RP] at B;have ne:bJ n≠[]:=λz=>by rw[z] at B;cases B
        obtain⟨cl,na⟩:=hc n C hC ne;obtain⟨S,O,_⟩:=S1.mp B;have mem:nm∈bJ n:=by rw[<- eq_of_beq O];exact Sm _
        have lf:fs.length<=(bJ n).length:=by
         have:=congrArg List.length hn;rw[Qx,R7] at this;omega
        have le:es.length=fs.length:=by rw[<- hr.length,Qx]
        have R:I.ob (aj (o-5000))=some b:=by rw[show aj (o-5000)=o from Nat.add_sub_cancel' ho];exact F
        refine{b,C,dx,fs,rfl,P,cl,na nm mem,RW lf (De n),?_};have J:∀E,M'=Y.set (o-5000) (.int n::E)->(cP nm v fs).map (·.1)=(bJ n).take (cP nm v fs).length->aD fa X.K I W E ((cP nm v fs).map (·.2))->D'.nx σ (upd W b (.ins C dx (cP nm v fs))):=λE e1 e2 e3=>by
         subst e1;exact q σ _ I (x2.trans (Ext.ins y P)) (Q.ext (Ext.ins y P)) (y.objW em R hC P e2 e3)
        split at j
        ·next U=>
         obtain⟨p1,p2⟩:=wd hn B (le ▸ U);have pl:(cP nm v fs).length=fs.length:=by have:=congrArg List.length p1;simpa using this
         exact J _ (Qz j).symm (by rw[p1,pl];exact hn) (by rw[p2];exact hr.set i rz)
        ·split at j
         ·next _ L=>
          rw[L,le] at B;have pa:=we (v:=v) hn B;refine J _ (Qz j).symm ?_ (by rw[pa,QP];exact hr.append (.one rz))
          rw[pa,QP,hn,Q6];subst L;rw[List.length_singleton,List.take_add_one]
          congr 1
          rw[QM (by rw[<- le];exact S)]
          have:=eq_of_beq O;simp only[le] at this;simp[this]
         ·cases j
       ·cases j
      ·cases j
  |_=>exact h2.elim
end
def qo (fa:Fa)(K:Qr)(m:Str)(c f:Nat):Prop:=∃C,fa (fg c)=some C/\iG K C/\(∀ad,fa f=some ad->Meth K C m ad)/\m∉bJ c/\bJ c≠[]
noncomputable def ft (M:Mem)(o:Nat):Option Nat:=if 5000<=o then(match M[o-5000]? with
 |some (.int c::_)=>some c.toNat
 |_=>none) else none
def cy (c f:Nat)(call:Call)(a:GE)(s:GA):GE:=λh M=>(a h M).bind λx M=>match x with
 |.fn o=>if ft M o=some c then(s h M).bind λj M=>call f (.fn o::j) M else .bad
 |_=>.bad
theorem mC:∀{fs:List (Str×V)}{ns:List Str},fs.map (·.1)=ns.take fs.length->m∉ns->fs.lookup m=none
 |[],_,_,_=>rfl
 |(x,u)::fs,[],h,_=>by simp at h
 | (x,u)::fs,y::ns,h,n=>by
   simp only[Ry,Rx,List.take_succ_cons,List.cons.injEq] at h;obtain⟨rfl,h⟩:=h;rw[Rw,show(m==x)=false from RC.mpr λz=>n (by rw[z];exact QS)]
   exact mC h λz=>n (QD _ z)
def nu (h:attributeBase o m env (eval o env)=eval o env)(u:methodCallForm args.length (backTo pos (starEach args env)) (backToKw pos (keywordEach [] env))=true)(j:(apos.endLine==pos.line)=true) :
 ∃pl,eval (.Call (.Attribute o m apos) args [] pos) env=(do
  let v <- eval o env
  standAt apos.atName
  let(f,first) <- holding [v] (getMethod v m pl)
  callWith pos f first (backTo pos (starEach args env)) (backToKw pos (keywordEach [] env))):=by
 refine{(do let b <- importBound o env;pure (b.getD true)),?_}
 show attributeBase o m env (eval o env) >>= _=_;rw[h];unfold methodCall;simp only[List.length_nil,Nat.add_zero,u];have e:methodCallPos true o env apos pos=pure pos:=by unfold methodCallPos;rw[j];rfl
 simp only[e,pure_bind];rfl
section
variable{fa:Fa}{X:Cx}{o e:Expr}{es:List Expr}{go:GE}{gs:GA}{pos apos:Pos}{n c f:Nat}{m:Str}{call:Call}
set_option tactic.hygienic true in
def r6 (ht:∀E H R,tA fa X.K gs E H R->t E H R)(hf:∀o,5000<=o->fa o=none)(W:fa (fg c)=some C)(B:m∉bJ c/\bJ c≠[])(Y:a8 fa X.K μ H E Z)(hM:RelM fa X.K μ H M)(h:ae (cy c f call go gs Z M) (aW fa X.K μ H Q))
 (hk:∀ds M1,ds.length≠k->call f ds M1=.bad):xy C m (tW fa X.K k (call f)) [] E0 (tE fa X.K go) t E H Q:=
 t1 Y hM h λx M1 v H1 μ1 x1 F z r1 h1=>by
  cases x with
  | fn o=>
    dsimp only at h1;split at h1
    ·next j=>
     unfold ft at j;split at j
     ·next ho=>
      split at j
      ·next c' U S=>
       obtain⟨b,rfl,u⟩:=id r1;rcases u with u|⟨_,u⟩
       ·rw[hf o ho] at u;cases u
       obtain⟨n',C',P,fs,rfl,y,hH,hn,_⟩:=z.obj ho u S (by rw[Qz j];exact B.2)
       rw[RP] at j;obtain rfl:n'=c:=Qz j;rw[W] at y;cases y;refine{b,P,fs,rfl,hH,mC hn B.1,?_};refine ht _ _ _ (rL F z h1 λds L vs H2 J O hE2 I r2 h2=>?_);rw[Q8];refine{?_,J,L,.fn o::ds,I,{_,vs,rfl,Rep.ext O r1,r2},Al (kj h2 (x1.trans O))};rw[Rx,r2.length];by_cases hl:(D.fn o::ds).length=k
       ·exact hl
       ·rw[hk _ L hl] at h2;exact h2.elim
      ·cases j
     ·cases j
    ·exact h1.elim
  |_=>exact h1.elim
def uz (j:∀ds M,call f ds M=.bad)(h:ae (cy c f call go gs Z M) P):False:=by
 obtain⟨x,u,_,h⟩:=aC h;cases x with
 | fn o=>
   dsimp only at h;split at h
   ·obtain⟨ds,v,_,h⟩:=aC h;rw[j] at h;exact h
   ·exact h
 |_=>exact h
def LP (O:dZ fa X.prog X.w X.K X.mg X.base n f (call f))(hr:bP (2*n+4) X.A)(hf:∀o,5000<=o->fa o=none)(P:fa (fg c)=some C)(cl:iG X.K C)(hm:∀ad,fa f=some ad->Meth X.K C m ad)(y:m∉bJ c/\bJ c≠[])(ho:DE fa X o go)(hs:DA fa X (e::es) gs)
 (j:attributeBase o m X.env (eval o X.env)=eval o X.env) (v:methodCallForm (e::es).length (backTo pos (starEach (e::es) X.env)) (backToKw pos (keywordEach [] X.env))=true) (u:(apos.endLine==pos.line)=true)
 (he:starEach (e::es) X.env=(false,eval e X.env)::starEach es X.env) (B:(backTo pos (starEach es X.env)).any (·.1)=false) :
 DE fa X (.Call (.Attribute o m apos) (e::es) [] pos) (cy c f call go gs):=by
 rcases O with R|⟨ad,Y,ps,h1,h2,h3,h4,F,_⟩
 ·exact λL s W H Q I ⟨μ,U,M,E,J,h⟩=>(uz R h).elim
 ·obtain⟨pl,S⟩:=nu j v u;exact a9 (G7 ho cl (hm ad h1) F hr h3 .nil pI hs he B S) λW H Q ⟨μ,U,M,E,J,h⟩=>r6 (λ_ _ _ z=>z) hf P y E J h h4
def H9 (L:dZ fa X.prog X.w X.K X.mg X.base n f (call f))(hr:bP (2*n+4) X.A)(hf:∀o,5000<=o->fa o=none)(O:fa (fg c)=some C)(cl:iG X.K C)(hm:∀ad,fa f=some ad->Meth X.K C m ad)(y:m∉bJ c/\bJ c≠[])(ho:DE fa X o go)
 (j:attributeBase o m X.env (eval o X.env)=eval o X.env) (u:(apos.endLine==pos.line)=true) :
 DE fa X (.Call (.Attribute o m apos) [] [] pos) (cy c f call go bH):=by
 rcases L with P|⟨ad,U,ps,h1,h2,h3,h4,F,_⟩
 ·exact λB s J H Q I ⟨μ,E,M,z,v,h⟩=>(uz P h).elim
 ·obtain⟨pl,S⟩:=nu (args:=[]) j rfl u;exact a9 (CC ho cl (hm ad h1) F hr h3 .nil pI S) λJ H Q ⟨μ,E,M,z,v,h⟩=>r6 (λJ H R ⟨μ,E,M,_,v,h⟩=>h [] H μ Ext.refl v rfl) hf O y z v h h4
end
noncomputable def fi (μ:Mu)(k:Nat)(p:Addr):Mu:={μ.pub,μ.priv,λj=>if j=aj k then some p else μ.ob j}
section
variable{fa:Fa}{K:Qr}{μ:Mu}{H:Hp}{M:Mem}
def RelM.ob_ins (h:RelM fa K μ H M)(e:μ.ob (aj k)=some a):∃o,H a=some o:=by
 by_cases hk:k<M.length
 ·rcases h.at' k M[k] (by simp[hk]) with⟨b,j,h1,_⟩|⟨b,h1,h2,h3⟩
  ·rw[h.sep _ _ h1] at e;cases e
  ·rw[e] at h1;cases h1;exact let{o,z,_}:=h3.hold;⟨o,z⟩
 ·rw[h.oout k (Nat.le_of_not_lt hk)] at e;cases e
set_option tactic.hygienic true in
def Ext.objNew (h:RelM fa K μ H M)(u:H x=none)(hd:H dx=none)(ne:dx≠x):Ext μ H (fi μ M.length x) (upd (upd H dx (.own x)) x (.ins C dx [])):=by
 have e1:Ext μ H μ (upd H dx (.own x)):=Ext.alloc h hd;have e2:Ext μ (upd H dx (.own x)) μ (upd (upd H dx (.own x)) x (.ins C dx [])):=Ext.alloc (h.alloc hd) (by rw[av (RF ne)];exact u)
 have e:=e1.trans e2;refine{{e.mu,e.tups,λb v g n=>{(e.lsts b v g n).1,n},e.frzs,e.exts,λj b z=>?_},rfl,e.pk};show(if j=aj M.length then some x else μ.ob j)=some b;split
 ·next q=>rw[q,h.oout _ (QA _)] at z;cases z
 ·exact z
set_option tactic.hygienic true in
def RelM.objNew (h:RelM fa K μ H M)(u:H x=none)(hd:H dx=none)(ne:dx≠x)(J:fa (fg c)=some C):RelM fa K (fi μ M.length x) (upd (upd H dx (.own x)) x (.ins C dx [])) (M++[[.int c]]):=by
 have X:Ext μ H (fi μ M.length x) (upd (upd H dx (.own x)) x (.ins C dx [])):=Ext.objNew h u hd ne;have old:∀{b o},H b=some o->(upd (upd H dx (.own x)) x (.ins C dx [])) b=some o:=λg=>by rw[av (aP g u),av (aP g hd)];exact g
 have pc:∀{k b},(fi μ M.length x).ob (aj k)=some b->(k=M.length/\b=x)\/μ.ob (aj k)=some b:=λ{k b} z=>by
  have z:(if aj k=aj M.length then some x else μ.ob (aj k))=some b:=z;split at z
  ·next q=>cases z;exact .inl {Sz q,rfl}
  ·exact .inr z
 refine{λk I q=>?_,λk hk=>h.out k (by simp at hk;omega),λk hk=>?_,h.inj,λj k b e1 e2=>?_,λk b z=>?_,λb E=>{?_,(h.pv b E).2}}
 ·by_cases hk:k<M.length
  ·rw[QB hk] at q;rcases h.at' k I q with⟨b,B,h1,h2,h3⟩|⟨b,h1,h2,h3⟩
   ·exact .inl {b,B,h1,old h2,h3.ext X}
   ·exact .inr {b,X.obs _ _ h1,h2,h3.extW X.toExtW (by obtain⟨o,e,_⟩:=h3.hold;rw[old e,e])}
  ·have y:k=M.length:=by
    have:=(Qs.mp q).1;simp at this;omega
   subst y;rw[QV (QA _)] at q;simp at q;subst q;exact .inr {x,by show(if aj M.length=aj M.length then some x else _)=some x;rw[if_pos rfl],h.out _ (QA _),.inl {c,C,dx,[],[],J,bG,rfl,rfl,rfl}}
 ·show(if aj k=aj M.length then some x else μ.ob (aj k))=none;simp at hk;rw[if_neg (λz=>by have:=Sz z;omega)]
  exact h.oout k `a
 ·rcases pc e1 with⟨a1,a2⟩|a1<;>rcases pc e2 with⟨v,F⟩|v
  ·omega
  ·subst a2;obtain⟨_,z⟩:=h.ob_ins v;rw[u] at z;cases z
  ·subst F;obtain⟨_,z⟩:=h.ob_ins a1;rw[u] at z;cases z
  ·exact h.oinj j k b a1 v
 ·show(if aj k=aj M.length then some x else μ.ob (aj k))=none;have z:μ.pub k=some b:=z;rw[if_neg (λq=>by rw[Sz q,h.out _ (QA _)] at z;cases z)]
  exact h.sep k b z
 ·obtain⟨⟨B,g⟩,_⟩:=h.pv b E;exact{B,old g}
end
def nI (c f:Nat)(call:Call)(s:GA):GE:=λu M=>(s u M).bind λj M=>(call f (.fn (aj M.length)::j) (M++[[.int c]])).bind λr h=>match r with
 |.non=>.ok (.fn (aj M.length)) h
 |_=>.bad
section
variable{fa:Fa}{X:Cx}{e:Expr}{es:List Expr}{gs:GA}{pos p:Pos}{n c f:Nat}{x:Str}{call:Call}
def LQ (CO:dZ fa X.prog X.w X.K X.mg X.base n f (call f))(hr:bP (2*n+4+1) X.A)(hf:∀o,5000<=o->fa o=none)(hC:fa (fg c)=some C)(mk:∀ad,fa f=some ad->Mk X.K C ad)(hg:Gl X x)(hm:X.mg x=some (.ref C))(hs:DA fa X (e::es) gs)
 (O:(x==("__debug__":Str))=false) (he:starEach (e::es) X.env=(false,eval e X.env)::starEach es X.env) (R:(backTo pos (starEach es X.env)).any (·.1)=false) :
 DE fa X (.Call (.Name x p) (e::es) [] pos) (nI c f call gs):=by
 rcases CO with hb|⟨ad,fd,ps,h1,h2,h3,h4,F,_⟩
 ·intro pins s σ H Q I ⟨μ,Z,M,W,Y,h⟩;obtain⟨E,j,_,h⟩:=aC h;rw[hb] at h;exact h.elim
 ·exact a9 (G8 (mk ad h1) F hr hg hm h3 .nil pI hs O he R) λσ H Q ⟨μ,Z,M,W,Y,h⟩=>rL W Y h λE j vs B u x1 hE1 y r1 q=>by
   intro a z na nd ne;rw[Q8];have U:Ext u B (fi u j.length a) (upd (upd B z (.own a)) a (.ins C z [])):=Ext.objNew y na nd ne;have P:(fi u j.length a).ob (aj j.length)=some a:=by
    show(if aj j.length=aj j.length then some a else _)=some a;rw[if_pos rfl]
   have rs:Rep fa X.K (fi u j.length a) (upd (upd B z (.own a)) a (.ins C z [])) (.fn (aj j.length)) (.ref a):={a,rfl,.inr {hf _ (RJ _ _),P}};obtain⟨r,M2,J,q⟩:=aC q;refine{?_,fi u j.length a,j++[[.int c]],.fn (aj j.length)::E,y.objNew na nd ne hC,{_,vs,rfl,rs,r1.ext U},?_}
   ·rw[Rx,r1.length];by_cases hl:(D.fn (aj j.length)::E).length=ps.length
    ·exact hl
    ·rw[h4 _ _ hl] at J;cases J
   ·rw[J];intro v H3 S x3 L r3;cases r with
    | non=>
      obtain rfl:v=.non:=r3;exact{rfl,q (.ref a) H3 S (x1.trans (U.trans x3)) L (rs.ext x3)}
    |_=>exact q.elim
end
def qT (a:GE):GE:=λj M=>(a j M).bind λx M=>match x with
 | .cell k=>match M[k]? with
   | some h=>match h[h.length - 1]? with
     |some y=>.ok y (M.set k h.dropLast)
     |none=>.bad
   |none=>.bad
 |_=>.bad
def Fc (a:GE):GE:=λj M=>(a j M).bind λx M=>match x with
 | .cell k=>match M[k]? with
   |some h=>.ok .non (M.set k h.reverse)
   |none=>.bad
 |_=>.bad
section
variable{fa:Fa}{X:Cx}{a:Expr}{ga:GE}{apos cpos:Pos}
def Nx (W:DE fa X a ga)(u:attributeBase a "pop" X.env (eval a X.env)=eval a X.env)(z:(apos.endLine==cpos.line)=true) :
 DE fa X (.Call (.Attribute a "pop" apos) [] [] cpos) (qT ga):=
 a9 (Ai Se PySem.F.slot_list_pop PySem.F.type_list_pop KG W u z) λσ H Q ⟨μ,Z,M,R,U,h⟩=>
  t1 R U h λx P v H1 L x1 S j r1 h1=>by
   cases x with
   | cell k=>
     dsimp only at h1;cases e:P[k]? with
     |none=>rw[e] at h1;exact h1.elim
     | some E=>
       rw[e] at h1;dsimp only at h1;cases I:E[E.length-1]? with
       |none=>rw[I] at h1;exact h1.elim
       | some y=>
         rw[I] at h1;obtain⟨ad,rfl,hk⟩:=r1;obtain⟨ws,h4,B⟩:=j.at_ e hk;obtain⟨w,Y,J⟩:=B.get I;refine{.inl {rfl,ws,cF.of h4},ad,ws,w,rfl,rfl,h4,by rw[B.length];exact Y,?_}
         have O:=Ext.write (vs:=ws) (ws:=ws.dropLast) j hk;have r:=B.take (E.length-1);rw[<- List.dropLast_eq_take,<- B.length,<- List.dropLast_eq_take] at r;exact h1 w _ L (x1.trans O) (j.write hk r) (J.ext O)
   |_=>exact h1.elim
def LO (O:DE fa X a ga)(u:attributeBase a "reverse" X.env (eval a X.env)=eval a X.env)(y:(apos.endLine==cpos.line)=true) :
 DE fa X (.Call (.Attribute a "reverse" apos) [] [] cpos) (Fc ga):=
 a9 (Ai Se PySem.F.slot_list_reverse PySem.F.type_list_reverse xU O u y) λσ H Q ⟨W,Y,M,I,L,h⟩=>
  t1 I L h λx B v S z P J j r1 h1=>by
   cases x with
   | cell k=>
     dsimp only at h1;cases e:B[k]? with
     |none=>rw[e] at h1;exact h1.elim
     | some U=>
       rw[e] at h1;obtain⟨ad,rfl,hk⟩:=r1;obtain⟨ws,h4,E⟩:=j.at_ e hk;refine{.inl {rfl,ws,cF.of h4},ad,ws,rfl,rfl,h4,?_};have R:=Ext.write (vs:=ws) (ws:=ws.reverse) j hk;exact h1 .non _ z (P.trans R) (j.write hk E.reverse) rfl
   |_=>exact h1.elim
end
end LD
namespace LD
open PySem
section
variable{prog:Rv}{w:Rf}{A:R9}{E:Qt->QC->Prop}{s:QC}
abbrev TK (prog:Rv)(w:Rf)(h:Heap)(ks:List Int)(a:Addr):Prop:=IsTupleKey (intKind prog w) h ks a
inductive iF (prog:Rv) (w:Rf) (h:Heap):List (List Int)->List Qt->Prop
 |nil:iF prog w h [] []
 |cons {ks:List Int}{a:Addr}{kss:List (List Int)}{vs:List Qt}:TK prog w h ks a->iF prog w h kss vs->iF prog w h (ks::kss) (.ref a::vs)
def NK (prog:Rv)(w:Rf)(h:Heap)(j:List (List Int))(a:Addr):Prop:=∃o items n,h.get? a=some o/\o.cls=.type "tuple"/\o.data=.seq items n/\iF prog w h j items.toList
def iF.inj:∀{x y:List (List Int)}{vs:List Qt},iF prog w h x vs->iF prog w h y vs->x=y
 |_,_,_,.nil,.nil=>rfl
 |_,_,_,.cons a r,.cons b t=>by rw[a.inj b,iF.inj r t]
def NK.typeIs (x:NK prog w s.heap kss a):s.TypeIs (.ref a) "tuple":=let{o,_,_,ho,h,_}:=x;⟨o,ho,h⟩
def NK.inj (z:NK prog w h x a)(B:NK prog w h y a):x=y:=by
 obtain⟨o,i,n,h1,_,h2,h3⟩:=z;obtain⟨I,F,H,j,_,u,v⟩:=B;rw[h1] at j;cases j;rw[h2] at u;cases u;exact h3.inj v
def iF.keeps (ho:h.get? d=some o)(hd:o.data=.dict es ep)(hs:R5 d h h'):∀{j:List (List Int)}{vs:List Qt},iF prog w h j vs->iF prog w h' j vs
 |_,_,.nil=>.nil
 |_,_,.cons a r=>.cons (a.keeps ho hd hs) (iF.keeps ho hd hs r)
def NK.keeps (x:NK prog w h kss a)(ho:h.get? d=some o)(hd:o.data=.dict es ep)(hs:R5 d h h'):NK prog w h' kss a:=by
 obtain⟨u,i,n,h1,h2,h3,h4⟩:=x;refine{u,i,n,(hs.2 a λz=>?_).trans h1,h2,h3,h4.keeps ho hd hs};rw[z,ho] at h1;cases h1;rw[hd] at h3;cases h3
noncomputable def uu (prog:Rv)(w:Rf)(h:List (List Int)):Int:=reduceHash (Builtin.Tuple.tupleHashOf (h.map (tupleKeyHash (intKind prog w))))
noncomputable def nr (h:List (List Int)):Nat:=(h.map λks=>ks.length+1).sum+1
def Hf (J:A.units+2<cLine)(hk:NK prog w s.heap kss a)(h:Q (uu prog w kss) {s with toks:=s.toks+nr kss}):wpAny (model prog w) A (pyHash (.ref a)) Q E s:=by
 have y:=hk.typeIs;obtain⟨o,items,n,ho,_,hd,H⟩:=hk;first|unfold pyHashByItsType|skip
 first|refine tqa (wpAny_cRoomFor_or (.inr `a) ?_)|skip
 refine tqa (wpAny_specialOf y F.slot_tuple_hash.lookup ?_);rw[if_neg (by rw[beq_builtin_none];exact QZ)]
 refine tqa (wpAny_specialOf y F.slot_tuple_hash.lookup ?_);refine tqa (wpAny_callSpecialIfBoundUnlessNone?_slot y F.slot_tuple_hash (wpAny_call_entry F.slot_tuple_hash y F.entry_tuple_hash ?_ (F.args_tuple_hash_1 _)));show wpAny _ _ (Builtin.Tuple.tupleItemsOf (.ref a) >>= _) _ _ s;refine tqa (wpAny_tupleItemsOf ho hd ?_);refine tqa ?_;rw[<- Array.forIn_toList];refine wpAny_forIn_list _ (λrest (b:Array Int) B=>∃done left,kss=done++left/\iF prog w s.heap left rest/\b.toList=done.map (tupleKeyHash (intKind prog w))/\B={s with toks:=s.toks+(done.map λks=>ks.length+1).sum}) _ ?_ ?_ _ _ {[],kss,rfl,H,rfl,rfl}
 ·rintro x rest b B ⟨done,left,rfl,hl,z,rfl⟩;cases hl with
  | @cons k c u _ h1 j=>
    refine tqa (wpAny_pyHash_tuple ?_ h1 ?_)
    ·show A.units+1<cLine;omega
    ·first
      |exact tqb {done++[k],u,`s,j,by simp[z],by simp[Sy]}
      |exact tqa (tqb (tqb {done++[k],u,`s,j,by simp[z],by simp[Sy]}))
 ·rintro b B ⟨done,left,rfl,hl,z,rfl⟩;cases hl;rw[Q8] at h;show wpAny _ _ (retInt (Builtin.Tuple.tupleHashOf b.toList)) _ _ _;rw[z];refine wpAny_ret_mkInt ?_;generalize I:Builtin.Tuple.tupleHashOf (done.map (tupleKeyHash (intKind prog w)))=v;show wpAny _ _ (if (decide (-(2:Int)^63<=v)&&decide (v<2^63))=true then _ else _) Q E _;unfold uu reduceHash at h;rw[I] at h;by_cases hr:(decide (-(2:Int)^63<=v)&&decide (v<2^63))=true
  ·rw[if_pos hr];rw[if_pos hr] at h;exact tqb (by simpa[nr,Sy] using h)
  ·rw[if_neg hr];rw[if_neg hr] at h;exact tqa (wpAny_rule (tqb (by simpa[nr,Sy] using h)))
def xR (hu:A.units<cLine)(hx:NK prog w s.heap x a)(hy:NK prog w s.heap y b)(h:P (.done (.ret (.bool (decide (x=y))))) s) :
 wpAny (model prog w) A (Builtin.«tuple.__eq__» {[.ref a,.ref b],[]}) P E s:=by
 have Q:=hy.typeIs;obtain⟨oa,xs,na,X,_,R,U⟩:=hx;obtain⟨ob,ys,nb,Y,_,S,W⟩:=hy;show wpAny _ _ (isInstance (.ref b) (.type "tuple") >>= _) _ _ s;refine tqa (wpAny_isInstance Q isSubtype_tuple_tuple ?_);refine tqa (wpAny_tupleItemsOf X R (tqa (wpAny_tupleItemsOf Y S (tqa ?_))));refine wpAny_forIn_list _ (λrest r L=>r.1=none/\L=s/\∃M O z B,rest=List.zip z B/\iF prog w s.heap M z/\iF prog w s.heap O B/\decide (M=O)=decide (x=y)/\(z.length==B.length)=(xs.size==ys.size)) _ ?_ ?_ _ _ {rfl,rfl,x,y,xs.toList,ys.toList,rfl,U,W,rfl,`s}
 ·rintro⟨u,v⟩ rest r L ⟨hr,rfl,M,O,z,B,J,I,H,j,F⟩;cases I with
  |nil=>simp at J
  | @cons k1 u' x2 xs2 h1 hx2=>
    cases H with
    |nil=>simp at J
    | @cons k2 v' y2 ys2 h2 hy2=>
      obtain⟨⟨rfl,rfl⟩,rfl⟩:=J;refine tqa (wpAny_eqBool_tuple hu h1 h2 ?_);by_cases hk:k1=k2
      ·subst hk;rw[decide_eq_true rfl];refine tqb {rfl,rfl,x2,y2,xs2,ys2,rfl,hx2,hy2,?_,by simpa using F}
       rw[<- j];by_cases hxy:x2=y2<;>simp[hxy]
      ·rw[decide_eq_false hk];rw[show decide (x=y)=false by rw[<- j];simp[hk]] at h
       exact tqa (tqb (tqb (tqb h)))
 ·rintro⟨r1,r2⟩ L ⟨hr,rfl,M,O,z,B,J,I,H,j,F⟩;subst hr;refine tqb ?_;show P (.done (.ret (.bool (xs.size==ys.size)))) L;rw[<- F,show(z.length==B.length)=decide (x=y) from ?_]
  ·exact h
  ·rw[<- j];cases I with
   |nil=>cases H<;>simp
   | cons _ _=>cases H with
     |nil=>simp
     |cons _ _=>simp at J
def MV (z:A.units+2<cLine)(u:NK prog w s.heap x a)(v:NK prog w s.heap y b)(h:Q (decide (x=y)) s):wpAny (model prog w) A (eqBool (.ref a) (.ref b)) Q E s:=by
 unfold eqBool;try with_reducible refine tqo ?_
 by_cases j:(Value.ref a==Value.ref b)=true
 ·rw[if_pos j];obtain rfl:a=b:=by have:=eq_of_beq j;injection this
  obtain rfl:=u.inj v;exact tqa (wpAny_rule (tqb (by simpa using h)))
 ·rw[if_neg j];refine tqa (wpAny_richCompare_same_room u.typeIs v.typeIs F.slot_tuple_eq (wpAny_call_entry F.slot_tuple_eq u.typeIs F.entry_tuple_eq (xR ?_ u v {_,rfl,(λe=>nomatch e),tqp h}) (F.args_tuple_eq_2 _ _)) `a)
  show A.units+1<cLine;omega
def BZ (d:Nat)(hk:TK prog w s.heap ks a)(h:Q true s):wpAny (model prog w) A (eqIsQuiet (d+1) (.ref a)) Q E s:=by
 have B:=hk.typeIs;obtain⟨o,items,n,ho,_,hd,H⟩:=hk;unfold eqIsQuiet;refine tqa (wpAny_specialOf B F.slot_tuple_eq.lookup ?_);refine tqa (wpAny_isInstance B isSubtype_tuple_tuple ?_);refine tqa (wpAny_seqItems ho hd (tqa ?_));rw[<- Array.forIn_toList];refine wpAny_forIn_list _ (λrest r z=>r.1=none/\z=s/\∀v∈rest,carriedByValue v=true) _ ?_ ?_ _ _ ⟨rfl,rfl,H.byValue⟩
 ·rintro v rest r z ⟨hr,rfl,j⟩;rw[eqIsQuiet_byValue _ (j v QS)];refine tqa (tqb ?_);exact tqb {rfl,rfl,λu y=>j u (QD _ y)}
 ·rintro⟨r1,r2⟩ z ⟨hr,rfl,_⟩;subst hr;exact tqb h
def CK (hk:NK prog w s.heap kss a)(h:Q true s):wpAny (model prog w) A (eqIsQuiet 8 (.ref a)) Q E s:=by
 have z:=hk.typeIs;obtain⟨o,items,n,ho,_,hd,B⟩:=hk;unfold eqIsQuiet;refine tqa (wpAny_specialOf z F.slot_tuple_eq.lookup ?_);refine tqa (wpAny_isInstance z isSubtype_tuple_tuple ?_);refine tqa (wpAny_seqItems ho hd (tqa ?_));rw[<- Array.forIn_toList];refine wpAny_forIn_list _ (λrest r y=>r.1=none/\y=s/\∃ks,iF prog w s.heap ks rest) _ ?_ ?_ _ _ ⟨rfl,rfl,kss,B⟩
 ·rintro v rest r y ⟨hr,rfl,ks,hl⟩;cases hl with
  | @cons k c u _ h1 j=>
    refine tqa (BZ 6 h1 ?_);exact tqb ⟨rfl,rfl,u,j⟩
 ·rintro⟨r1,r2⟩ y ⟨hr,rfl,_⟩;subst hr;exact tqb h
end
def Ks (prog:Rv)(w:Rf):HeapKind prog w (List (List Int)) where
 is:=NK prog w
 hash:=uu prog w
 draws:=nr
 room:=λA=>A.units+2<cLine
 inj:=λu v=>u.inj v
 keeps:=λx ho hd hs=>x.keeps ho hd hs
 pyHash:=λj hk h=>Hf j hk h
 eqBool:=λj u v h=>MV j u v h
 quiet:=λhk h=>CK hk h
end LD
namespace LD
open PySem PySem.Spec PyProof.Rows
section
variable{prog:Rv}{w:Rf}{K:Type}[DecidableEq K]{knd:HeapKind prog w K}{A:R9}{E:Qt->QC->Prop}{s:QC}
def i0 (knd:HeapKind prog w K)(h:Heap)(d:Addr)(xs:List (K×Addr×Qt)):Prop:=
 ∃o j,h.get? d=some o/\o.ExactDict/\o.data=.dict j xs.length/\j.toList=xs.map (entryOfKey knd)/\(∀x∈xs,knd.is h x.1 x.2.1)/\(xs.map (·.1)).Nodup
def i0.of (x:i0 knd h d xs):h.DictOfH knd d xs:=let⟨o,j,r⟩:=x;{o,j,_,r}
def lH (O:knd.room A)(h:knd.is s.heap k a)(hm:i0 knd s.heap d xs)
 (J:∀I,i0 knd I d (storedH xs k a v)->R5 d s.heap I->Q () {s with heap:=I,toks:=s.toks+knd.draws k})
 (hsz:xs.length<=sizeLine) :
 wpAny (model prog w) A (dictSet d (.ref a) v) Q E s:=by
 obtain⟨o,P,ho,L,hd,he,z,hn⟩:=hm;unfold dictSet;try with_reducible refine tqo ?_
 refine tqa (knd.pyHash O h ?_);unfold dictSetHashed;try with_reducible refine tqo ?_
 refine tqa (wpAny_dictFind_heap O h ho hd he z hn ?_ ?_)
 ·intro B;have F:=not_mem_keys_of_get B;have e:=storedH_new (atKey_none_of_get B);refine tqa (wpAny_rule (wpAny_updateDictKeys (hz:=by have e:=size_of_entries he;omega) ho hd (J _ {_,_,Sb _ ho (Obj.isFreed_of_dict (Obj.data_mapDictKeys hd _)),
   L.mapDictKeys _,(Obj.data_mapDictKeys hd _).trans (by rw[e,Q6];rfl),?_,?_,?_} (R6 ..))))
  ·rw[e];simp[he,entryOfKey]
  ·rw[e];intro x u;rcases QR.mp u with u|u
   ·exact knd.keeps (z x u) ho hd (R6 ..)
   ·simp only[QN] at u;subst u;exact knd.keeps h ho hd (R6 ..)
  ·rw[e];rw[QP,Sg];refine{hn,`s,?_}
   intro x u y H;simp only[Ry,List.map_nil,QN] at H;subst H;exact λe=>F (e ▸ u)
 ·intro j p M;have e:=storedH_old (atKey_of_get hn M);refine tqa (wpAny_rule (tqa (wpAny_updateDict ho hd (wpAny_point (J _ {_,_,Sb _ ho (Obj.isFreed_of_dict (Obj.data_mapDict hd _)),
   L.mapDict _,(Obj.data_mapDict hd _).trans (by rw[e,Qx]),?_,?_,?_} (R6 ..))))))
  ·rw[e];have:=modify_map_putAt (entryOfKey knd) (λe:Sl=>{e with val:=v}) k v (λ_ _=>rfl) hn M
   rw[<- he] at this;obtain⟨l⟩:=P;simpa using this
  ·rw[e];intro x u;obtain⟨y,H,rfl⟩:=QF.mp u;unfold putAt;split<;>exact knd.keeps (z y H) ho hd (R6 ..)
  ·rw[e];rw[keys_map_putAt];exact hn
def xF (F:knd.room A.in1)(j:knd.is s.heap k a)(hm:i0 knd s.heap d xs)
 (B:∀h,i0 knd h d (storedH xs k a v)->R5 d s.heap h->Q () {s with heap:=h,toks:=s.toks+knd.draws k})
 (hsz:xs.length<=sizeLine) :
 wpAny (model prog w) A (setItem (.ref d) (.ref a) v) Q E s:=by
 have u:=hm.of.typeIs;unfold setItem;try with_reducible refine tqo ?_
 refine tqa (wpAny_sequenceKey u `d ?_)
 refine tqa (wpAny_callSpecial?_slot u slot_dict_setitem
  (wpAny_call_entry slot_dict_setitem u entry_dict_setitem ?_ (args_dict_setitem _ _ _)))
 refine tqa (wpAny_notOrdered_dict u ?_);show wpAny _ _ (dictSet d (.ref a) v >>= _) _ _ s;exact tqa (lH (hsz:=hsz) F j hm λh y z=>tqb {.none,rfl,tqb (B h y z)})
end
end LD
namespace LD
open PySem PySem.Spec PyProof.Rows L2
def gY (c f:Nat)(call:Call)(a:GE)(s:GA):GE:=λh M=>match a h M with
 | .ok (.fn o) M=>if ft M o = some c then(match s h M with
   |.ok j M=>call f (.fn o::j) M
   |_=>.bad) else .bad
 |_=>.bad
section
variable{fa:Fa}{X:Cx}{o e:Expr}{es:List Expr}{go:GE}{gs:GA}{pos apos:Pos}{n c f:Nat}{m:Str}{call:Call}
def DY {ad:Addr}(h3:Binds X.K fd ps [])(h4:∀ds M1,ds.length≠ps.length->call f ds M1=.bad)(F:hD X.prog X.w X.K X.mg X.base (iH X.prog X.w) (2*n+4) ad fd ps (tW fa X.K ps.length (call f)))(hr:bP (2*n+4) X.A)(M:X.ex=[])
 (I:Inv X pins σ H1 s1) (r:Vals vs us) (hE:a8 fa X.K μ H σ Z) (x1:Ext μ H μ1 H1) (m1:RelM fa X.K μ1 H1 M1) (r1:aD fa X.K μ1 H1 ds vs) (h:dS (call f ds M1) (aW fa X.K μ H Q) (λx M'=>XW fa X μ H x Z M')):wpAny (model X.prog X.w) X.A (PySem.call (.ref ad) us) (EP X pins σ Q) X.xe s1:=by
 have hl:ds.length=ps.length:=by
  by_cases hl:ds.length=ps.length
  ·exact hl
  ·rw[h4 ds M1 hl] at h;exact h.elim
 have P:tW fa X.K ps.length (call f) vs H1 Q λW J v=>∃y M' j E c p,W=.ref E/\Ext μ1 H1 j v/\RelM fa X.K j v M'/\y=.exc c p/\fa (eY c)=some E/\rn v c J p/\XW fa X μ H y Z M':=by
  refine{by rw[r1.length];exact hl,μ1,M1,ds,m1,r1,?_}
  cases B:call f ds M1 with
  |ok d R=>rw[B] at h;exact aW.ext h x1
  |err y R=>rw[B] at h;exact λC J c p v j y' m ex L hn=>{_,R,j,C,c,p,rfl,y',m,ex,L,hn,h}
  |bad=>rw[B] at h;exact h.elim
 have O:us.length=ps.length:=by rw[<- r.length,r1.length];exact hl
 have S:=h3 s1 us I.kIn (by simpa using O)
 rw[Q8] at S;refine wpAny_call (codeAny_mono (F.run X.A X.stack s1 H1 {us,[]} us vs Q _ hr I.env0 S r P) λr' s' z=>?_);cases r' with
 | error e=>
   unfold CR at z;obtain⟨a',E,J,v,rfl,Y,fl,y,M',j,C2,c,p,B,U,m',ey,L,hn,hw⟩:=mF I M z;cases B;exact hw pins σ v j s' a' E J c p Y (x1.trans U) ((hE.ext x1).ext U) m' ey L hn fl
 | ok fl=>
   cases fl with
   |ret u=>exact I.after z
   |next=>exact False.elim z
   |brk=>exact False.elim z
   |cont=>exact False.elim z
set_option tactic.hygienic true in
def Ao {o:Nat}(hf:∀o,5000<=o->fa o=none)(F:fa (fg c)=some C)(y:m∉bJ c/\bJ c≠[])(I:RelM fa X.K μ1 H1 M1)(r1:Rep fa X.K μ1 H1 (.fn o) v)(h:ft M1 o=some c):∃b z fs,v=.ref b/\H1 b=some (.ins C z fs)/\fs.lookup m=none:=by
 unfold ft at h;split at h
 ·next ho=>
  split at h
  ·next M E B=>
   obtain⟨b,rfl,j⟩:=r1;rcases j with j|⟨_,j⟩
   ·rw[hf o ho] at j;cases j
   obtain⟨J,L,z,fs,rfl,u,H,hn,_⟩:=I.obj ho j B (by rw[Qz h];exact y.2)
   rw[RP] at h;obtain rfl:J=c:=Qz h;rw[F] at u;cases u;exact{b,z,fs,rfl,H,mC hn y.1}
  ·cases h
 ·cases h
set_option tactic.hygienic true in
def r8 (h:dS (gY c f call go gs Z M) k kx):∃o M1 ds j,go Z M=.ok (.fn o) M1/\ft M1 o=some c/\gs Z M1=.ok ds j/\dS (call f (.fn o::ds) j) k kx:=by
 unfold gY at h;cases u:go Z M with
 | ok x M1=>
   rw[u] at h;cases x with
   | fn o=>
     dsimp only at h;split at h
     ·next v=>
      cases es:gs Z M1 with
      |ok ds j=>rw[es] at h;exact⟨o,M1,ds,j,rfl,v,es,h⟩
      |err=>rw[es] at h;exact h.elim
      |bad=>rw[es] at h;exact h.elim
     ·exact h.elim
   |_=>exact h.elim
 |err=>rw[u] at h;exact h.elim
 |bad=>rw[u] at h;exact h.elim
def FN (Y:dZ fa X.prog X.w X.K X.mg X.base n f (call f))(hr:bP (2*n+4) X.A)(P:X.ex=[])(hf:∀o,5000<=o->fa o=none)(hC:fa (fg c)=some C)(cl:iG X.K C)(hm:∀ad,fa f=some ad->Meth X.K C m ad)(R:m∉bJ c/\bJ c≠[])(ho:DE fa X o go)
 (y:attributeBase o m X.env (eval o X.env)=eval o X.env) (z:(apos.endLine==pos.line)=true) :
 DX fa X (.Call (.Attribute o m apos) [] [] pos) (gY c f call go bH):=by
 intro E s σ H Q I ⟨U,Z,M,S,hM,h⟩;obtain⟨o,M1,ds,M2,eg,ec,es,h⟩:=r8 h;cases es;obtain⟨pl,ht⟩:=nu (args:=[]) y rfl z;rcases Y with hb|⟨ad,fd,ps,h1,h2,h3,h4,F,_⟩
 ·rw[hb] at h;exact h.elim
 refine PySem.W.methodCall_KW (aO (ho E s σ H (λv B=>∃b J fs j,v=.ref b/\B b=some (.ins C J fs)/\fs.lookup m=none/\Ext U H j B/\RelM fa X.K j B M1/\Rep fa X.K j B (.fn o) v) I {U,Z,M,S,hM,?_}) λu s1 ⟨x,B,O,rx,b,J,fs,j,ex,ea,l,x1,L,r1⟩=>?_) ht
 ·rw[eg];intro v B j x1 L r1;obtain⟨b,J,fs,e1,e2,e3⟩:=Ao hf hC R L r1 ec;exact⟨b,J,fs,j,e1,e2,e3,x1,L,r1⟩
 subst ex;obtain rfl:u=Value.ref b:=rx;refine iS O ea cl (hm ad h1) l ?_;exact PySem.W.callWith_K0 O.kIn (hm ad h1).kp (DY (vs:=[.ref b]) h3 h4 F hr P O (.cons rfl .nil) S x1 L (.one r1) h)
def IJ (CO:dZ fa X.prog X.w X.K X.mg X.base n f (call f))(hr:bP (2*n+4) X.A)(Y:X.ex=[])(hf:∀o,5000<=o->fa o=none)(hC:fa (fg c)=some C)(cl:iG X.K C)(hm:∀ad,fa f=some ad->Meth X.K C m ad)(hnm:m∉bJ c/\bJ c≠[])(ho:DE fa X o go)(hs:DA fa X (e::es) gs)
 (E:attributeBase o m X.env (eval o X.env)=eval o X.env) (O:methodCallForm (e::es).length (backTo pos (starEach (e::es) X.env)) (backToKw pos (keywordEach [] X.env))=true) (J:(apos.endLine==pos.line)=true)
 (he:starEach (e::es) X.env=(false,eval e X.env)::starEach es X.env) (hpl:(backTo pos (starEach es X.env)).any (·.1)=false) :
 DX fa X (.Call (.Attribute o m apos) (e::es) [] pos) (gY c f call go gs):=by
 intro B s σ H Q I ⟨μ,Z,M,U,hM,h⟩;obtain⟨o,M1,ds,M2,eg,ec,es,h⟩:=r8 h;obtain⟨pl,ht⟩:=nu E O J;rcases CO with hb|⟨ad,fd,ps,h1,h2,h3,h4,F,_⟩
 ·rw[hb] at h;exact h.elim
 refine PySem.W.methodCall_KW (aO (ho B s σ H (λv z=>∃b P fs j,v=.ref b/\z b=some (.ins C P fs)/\fs.lookup m=none/\Ext μ H j z/\RelM fa X.K j z M1/\Rep fa X.K j z (.fn o) v) I {μ,Z,M,U,hM,?_}) λu s1 ⟨x,z,I1,rx,b,P,fs,j,ex,ea,l,x1,R,r1⟩=>?_) ht
 ·rw[eg];intro v z j x1 R r1;obtain⟨b,P,fs,e1,e2,e3⟩:=Ao hf hC hnm R r1 ec;exact⟨b,P,fs,j,e1,e2,e3,x1,R,r1⟩
 subst ex;obtain rfl:u=Value.ref b:=rx;refine iS I1 ea cl (hm ad h1) l ?_;refine Sn I.ok.mod.kin (hm ad h1).kp (aO (hs pos B s1 σ z (λvs L=>∃y,Ext j z y L/\RelM fa X.K y L M2/\aD fa X.K y L ds vs) I1 {j,Z,M1,U.ext x1,R,by rw[es];exact λvs L y S m2 r2=>⟨y,S,m2,r2⟩}) λus s2 ⟨vs,L,I2,r,y,S,m2,r2⟩=>{I2.kIn,?_}) he hpl
 exact DY (vs:=.ref b::vs) h3 h4 F hr Y I2 (.cons rfl r) U (x1.trans S) m2 (show aD fa X.K y L (.fn o::ds) (.ref b::vs) from{_,vs,rfl,Rep.ext S r1,r2}) h
end
def HA {K:Qr}(h:PySem.W.exmAny K c [d,d]=some true):PySem.W.exmOne K c d=some true:=by
 obtain⟨u,d1,e1,e2,v⟩:=PySem.W.exmAny_cons h;obtain⟨B,E,j,y,z⟩:=PySem.W.exmAny_cons e2;rw[e1] at j;cases j;cases y;cases u with
 |true=>exact e1
 |false=>subst z;cases v
section
variable{fa:Fa}{X:Cx}{pos np hp:Pos}{x1:Str}{k1:Nat}{body suite:List Stmt}{b0:Stmt}{gB gH:GS}
set_option tactic.hygienic true in
def Ck (h2:xn fa X.K X.mg x1 x1 k1 k1)(hex:X.ex=[])(L:X.stack=X.env::X.outer)(hfr:X.env.frame=some X.env.locals)
 (hg:Gl X x1) (hdb:(x1==("__debug__":Str))=false) (S:∀pn E,jE fa (pV X pn E) body gB) (hh:∀v E,jE fa (pX X v E) (b0::suite) gH) :
 DS fa X (.Try body [.ExceptHandler (some (.Name x1 np)) none (b0::suite) hp] [] [] pos) (ml gB k1 k1 gH):=by
 intro J s σ H D' I ⟨μ,Z,M,hE,hM,h⟩;obtain⟨D1,D2,m1,m2,hm⟩:=h2;obtain rfl:D1=D2:=by rw[m1] at m2;cases m2;rfl
 obtain⟨fl,M1,e,q⟩:=aC h;refine wpAny_Try_except (wpAny_mono (S (X.pn++J) (λe s₁=>wpAny (model X.prog X.w) X.A (noteFrame e X.env) (λ_ s₂=>wpAny (model X.prog X.w) X.A (setFlight e none) (λ_ s₃=>wpAny (model X.prog X.w) X.A (handleBy e X.env [.ExceptHandler (some (.Name x1 np)) none (b0::suite) hp]) (SP X J D') X.xe s₃) X.xe s₂) X.xe s₁) [] s σ H D' (se I _) {μ,Z,M,hE,hM,?_}) (λf s1 z=>?_) λ_ _ z=>z)
 ·rw[e];cases fl with
  |next ρ'=>exact q
  |ret d=>exact q
  | exc y ρ1=>
    intro pins' σ' H' μ' s' a C dx c p Q ye hE1 hM1 ey hcC hn fl;refine qF (by rw[<- L];exact Q.ok.frames) (by rw[<- L];exact Q.stack) hfr fl (λb z=>(oP Q hex (Heap.get?_none_of_le z)).1) Q.hok (by rw[<- L];exact Q.stkFree) λh' ch P u hok R=>?_
    have O:=uO (dm Q) (λb S=>{(P b S).1.1,(P b S).2.2,(P b S).1.2}) (by rw[L];exact u) hok
    obtain⟨nw,ha,o,vs,h1,h2,h3,h4,tr⟩:=id R;have Y:PySem.W.notCls o=true:=by unfold PySem.W.notCls;rw[h4]
    subst ey;have U:c=k1\/c=k1:=by
     by_cases z:c=k1\/c=k1
     ·exact z
     ·unfold l6 at q;dsimp only at q;rw[if_neg z] at q;exact q.elim
    unfold l6 at q;dsimp only at q;rw[if_pos U] at q;obtain⟨fl3,M2,e3,q3⟩:=aC q;have IA:∃od,PySem.W.InstAt h' a o C od:=by
     cases p with
     | none=>
       exact{none,h1,h2,Y,by rw[h3,hn];trivial}
     | some k=>
       obtain⟨d,rfl,hd⟩:=hn;obtain⟨mA,⟨od,es,ep,ed,_⟩,_⟩:=hok d _ hd;exact{some od,h1,h2,Y,by rw[h3];exact ed}
    obtain⟨od,IA⟩:=IA;refine wpAny_handleBy_cons (codeAny_handlers_test (gy (jQ O (.ref a) X.xe) hg m1 ?_ hdb)) (by intro z;cases z)
    refine(PySem.W.exm_one O.kIn IA.type (HA (hm c C U hcC))).at ?_;refine codeAny_handlers_suite (pY R ?_);refine wpAny_mono (hh (.ref a) _ J _ σ' H' D' (jQ O (.ref a) _) {μ',_,M1,hE1,hM1,?_}) (λf s5 z=>?_) λ_ _ z=>z
    ·rw[e3];cases fl3 with
     |next ρ2=>exact λσ2 H2 μ2 x2 hE2 hM2=>q3 σ2 H2 μ2 (ye.trans x2) hE2 hM2
     |ret d=>exact aW.ext q3 ye
     |exc=>exact q3.elim
    ·dsimp only;cases f with
     | next=>
       obtain⟨j,B,F,z⟩:=z;exact{_,B,gA O.ok.hd F,z}
     | ret u=>
       obtain⟨v,j,B,F,r5,z⟩:=z;exact{v,_,B,gA O.ok.hd F,r5,z}
     |brk=>obtain⟨_,B,F,z⟩:=z;exact{_,B,gA O.ok.hd F,z}
     |cont=>obtain⟨_,B,F,z⟩:=z;exact{_,B,gA O.ok.hd F,z}
 ·cases f with
  |next=>obtain⟨j,B,F,z⟩:=z;exact wpAny_execs_nil {j,B,dm F,z}
  |ret u=>obtain⟨v,j,B,F,r5,z⟩:=z;exact{v,j,B,dm F,r5,z}
  |brk=>obtain⟨j,B,F,z⟩:=z;exact{j,B,dm F,z}
  |cont=>obtain⟨j,B,F,z⟩:=z;exact{j,B,dm F,z}
end
def kc (c:GT)(b:GS):Nat->Env->Mem->Res Fl
 |0,_,_=>.bad
 | n+1,h,M=>(c h M).bind λk M=>if k then(b h M).bind λfl M=>(match fl with
   |.next h=>kc c b n h M
   |fl=>.ok fl M) else .ok (.next h) M
def iz (c:GT)(b:GS):GS:=λh M=>kc c b 100000 h M
section
variable{fa:Fa}{X:Cx}{c:Expr}{body:List Stmt}{gc:GT}{gb:GS}{pos:Pos}
set_option tactic.hygienic true in
def GF (hp:PassesOwn (model X.prog X.w) X.A X.env X.xe)(hc:DT fa X c gc)(hb:jE fa X body gb):DS fa X (.While c body [] pos) (iz gc gb):=
 dh (Cz hp hc hb) λD' σ H ⟨L,Z,M,hE,hM,h⟩=>by
  refine{λm v y=>∃j u B,Ext L H j y/\a8 fa X.K j y v u/\RelM fa X.K j y B/\ae (kc gc gb m u B) (mZ fa X L H D'),{100000,L,Z,M,.refl,hE,hM,h},?_};rintro m σ2 H2 ⟨μ2,P,M2,R,E,U,q2⟩;cases m with
  |zero=>exact q2.elim
  | succ m=>
    obtain⟨k,M3,e3,q3⟩:=aC q2;refine{μ2,P,M2,E,U,?_};rw[e3];intro H3 O J I;have F:=E.ext J;cases k with
    |false=>exact q3 σ2 H3 O (R.trans J) F I
    | true=>
      obtain⟨fl,M4,e4,Y⟩:=aC q3;refine{λv y=>∃j u B,Ext L H j y/\a8 fa X.K j y v u/\RelM fa X.K j y B/\ae (kc gc gb m u B) (mZ fa X L H D'),λv y z=>{m,Nat.lt_succ_self m,z},O,P,M3,F,I,?_};rw[e4];cases fl with
      |next Q=>exact λσ6 H6 μ6 x6 S W=>{μ6,Q,M4,(R.trans J).trans x6,S,W,Y}
      |ret d6=>exact aW.ext Y (R.trans J)
      |exc x6 Q=>exact XW.ext Y (R.trans J)
end
theorem wM {K:Qr}:∀{ds:List D}{vs:List V}{us:List Qt}{ks:List Int},aD fa K μ H ds vs->Vals vs us->intsOf ds=some ks->ItemsAre (intKind prog w) ks us
 | [],vs,us,ks,h,r,e=>by
   obtain rfl:vs=[]:=h;cases r;cases e;exact .nil
 | .int i::ds,vs,us,ks,h,r,e=>by
   obtain⟨v,vr,rfl,p,q⟩:=h;cases r with
   | cons r1 r2=>
     obtain⟨k,j,e⟩:=QG.mp e;subst e;obtain rfl:v=.int i:=p;obtain⟨t,rfl⟩:=r1;exact .cons (by simp[intKind,Value.isInt]) (wM q r2 j)
 |.non::_,_,_,_,_,_,e=>by cases e
 |.bl _::_,_,_,_,_,_,e=>by cases e
 |.str _::_,_,_,_,_,_,e=>by cases e
 |.tup _::_,_,_,_,_,_,e=>by cases e
 |.lst _::_,_,_,_,_,_,e=>by cases e
 |.frz _::_,_,_,_,_,_,e=>by cases e
 |.cell _::_,_,_,_,_,_,e=>by cases e
 |.fn _::_,_,_,_,_,_,e=>by cases e
 |.exc _ _::_,_,_,_,_,_,e=>by cases e
section
variable{fa:Fa}{X:Cx}{pins:List (Addr×Obj)}{σ:L2.St}{H:Hp}{s:QC}{μ:Mu}
def zo (I:Inv X pins σ H s)(r:Rep fa X.K μ H (.tup ds) (.ref b)):∃vs h o n,aD fa X.K μ H ds vs/\Vals vs h/\s.heap.get? b=some o/\o.cls=.type "tuple"/\o.data=.seq h.toArray n:=by
 obtain⟨a,vs,e,j,u⟩:=r;cases e;obtain⟨h,v,p,_⟩:=I.tuple j;obtain⟨o,h1,h2,n,h3⟩:=p;exact⟨vs,h,o,n,u,v,h1,h2,h3⟩
def wK (I:Inv X pins σ H s)(r:Rep fa X.K μ H d (.ref b))(e:mE d=some ks):TK X.prog X.w s.heap ks b:=by
 cases d with
 | tup v=>
   obtain⟨y,h,o,n,j,u,h1,h2,h3⟩:=zo I r;exact{o,h.toArray,n,h1,h2,h3,by simpa using wM j u e}
 |_=>cases e
theorem uI (I:Inv X pins σ H s):∀{ds:List D}{vs:List V}{us:List Qt}{j:List (List Int)},aD fa X.K μ H ds vs->Vals vs us->jN ds=some j->iF X.prog X.w s.heap j us
 | [],vs,us,j,h,r,e=>by
   obtain rfl:vs=[]:=h;cases r;cases e;exact .nil
 | d::ds,vs,us,j,h,r,e=>by
   obtain⟨v,vr,rfl,p,q⟩:=h;cases r with
   | cons r1 r2=>
     obtain⟨k,y,e⟩:=QT.mp e;obtain⟨E,u,e⟩:=QG.mp e;subst e;cases d with
     | tup z=>
       obtain⟨a,J,rfl,B,F⟩:=id p;obtain rfl:=(r1);exact .cons (wK I p y) (uI I q r2 u)
     |_=>cases y
def Hq (I:Inv X pins σ H s)(r:Rep fa X.K μ H d (.ref b))(e:qN d=some kss):NK X.prog X.w s.heap kss b:=by
 cases d with
 | tup v=>
   obtain⟨y,h,o,n,j,u,h1,h2,h3⟩:=zo I r;exact{o,h.toArray,n,h1,h2,h3,by simpa using uI I j u e}
 |_=>cases e
end
theorem uQ:∀{a b:List D}{x y:List Int},intsOf a=some x->intsOf b=some y->dJ a b=decide (x=y)/\(x=y->a=b)
 |[],[],_,_,e,f=>by cases e;cases f;exact{rfl,λ_=>rfl}
 | [],.int j::b,_,_,e,f=>by
   obtain⟨_,_,rfl⟩:=QG.mp f;cases e;exact{by simp[dJ],λz=>by cases z}
 | .int i::a,[],_,_,e,f=>by
   obtain⟨_,_,rfl⟩:=QG.mp e;cases f;exact{by simp[dJ],λz=>by cases z}
 | .int i::a,.int j::b,_,_,e,f=>by
   obtain⟨x,e1,rfl⟩:=QG.mp e;obtain⟨y,f1,rfl⟩:=QG.mp f;obtain⟨h1,h2⟩:=uQ e1 f1;refine{?_,λz=>?_}
   ·show(i==j&&dJ a b)=_;rw[h1];by_cases z:i=j<;>simp[z]
   ·cases z;rw[h2 rfl]
 |.non::_,_,_,_,e,_=>by cases e
 |.bl _::_,_,_,_,e,_=>by cases e
 |.str _::_,_,_,_,e,_=>by cases e
 |.tup _::_,_,_,_,e,_=>by cases e
 |.lst _::_,_,_,_,e,_=>by cases e
 |.frz _::_,_,_,_,e,_=>by cases e
 |.cell _::_,_,_,_,e,_=>by cases e
 |.fn _::_,_,_,_,e,_=>by cases e
 |.exc _ _::_,_,_,_,e,_=>by cases e
 |_,.non::_,_,_,_,e=>by cases e
 |_,.bl _::_,_,_,_,e=>by cases e
 |_,.str _::_,_,_,_,e=>by cases e
 |_,.tup _::_,_,_,_,e=>by cases e
 |_,.lst _::_,_,_,_,e=>by cases e
 |_,.frz _::_,_,_,_,e=>by cases e
 |_,.cell _::_,_,_,_,e=>by cases e
 |_,.fn _::_,_,_,_,e=>by cases e
 |_,.exc _ _::_,_,_,_,e=>by cases e
def oN (e:mE d=some x):∃ds,d=.tup ds/\intsOf ds=some x:=by
 cases d with
 |tup ds=>exact⟨ds,rfl,e⟩
 |_=>cases e
def uJ (e:mE a=some x)(f:mE b=some y):bZ a b=decide (x=y)/\(x=y->a=b):=by
 obtain⟨h,rfl,e⟩:=oN e;obtain⟨bs,rfl,f⟩:=oN f;obtain⟨h1,h2⟩:=uQ e f;exact{h1,λz=>by rw[h2 z]}
theorem r9:∀{a b:List D}{x y:List (List Int)},jN a=some x->jN b=some y->dJ a b=decide (x=y)/\(x=y->a=b)
 |[],[],_,_,e,f=>by cases e;cases f;exact{rfl,λ_=>rfl}
 | [],d::b,_,_,e,f=>by
   obtain⟨_,_,f⟩:=QT.mp f;obtain⟨_,_,rfl⟩:=QG.mp f;cases e;exact{by simp[dJ],λz=>by cases z}
 | d::a,[],_,_,e,f=>by
   obtain⟨_,_,e⟩:=QT.mp e;obtain⟨_,_,rfl⟩:=QG.mp e;cases f;exact{by simp[dJ],λz=>by cases z}
 | d::a,j::b,_,_,e,f=>by
   obtain⟨k,u,e⟩:=QT.mp e;obtain⟨x,e1,rfl⟩:=QG.mp e;obtain⟨E,h,f⟩:=QT.mp f;obtain⟨y,f1,rfl⟩:=QG.mp f;obtain⟨v,B⟩:=uJ u h;obtain⟨h1,h2⟩:=r9 e1 f1;refine{?_,λz=>?_}
   ·show(bZ d j&&dJ a b)=_;rw[h1,v];by_cases z:k=E<;>simp[z]
   ·cases z;rw[h2 rfl,B rfl]
def C3 (e:qN a=some x)(f:qN b=some y):bZ a b=decide (x=y)/\(x=y->a=b):=by
 cases a with
 | tup h=>
   cases b with
   | tup bs=>
     obtain⟨h1,h2⟩:=r9 e f;exact{h1,λz=>by rw[h2 z]}
   |_=>cases f
 |_=>cases e
structure KD (X:Cx) (c:Int) where
 K:Type
 dq:DecidableEq K
 knd:HeapKind X.prog X.w K
 dec:D->Option K
 hash:∀d,nz c d=(dec d).map knd.hash
 is:∀{fa:Fa}{μ:Mu}{H:Hp}{pins:List (Addr×Obj)}{σ:L2.St}{s:QC}{d:D}{b:Addr}{k:K},Inv X pins σ H s->Rep fa X.K μ H d (.ref b)->dec d=some k->knd.is s.heap k b
 beq:∀{a b:D}{x y:K},dec a=some x->dec b=some y->bZ a b=decide (x=y)/\(x=y->a=b)
 ref:∀{fa:Fa}{μ:Mu}{H:Hp}{d:D}{v:V}{k:K},Rep fa X.K μ H d v->dec d=some k->∃b,v=.ref b
 room:Rm X->knd.room X.A.in1
 room0:Rm X->knd.room X.A
def KD.f (X:Cx):KD X 77 where
 K:=List Int
 dq:=inferInstance
 knd:=tupleKind (intKind X.prog X.w)
 dec:=mE
 hash:=λd=>by unfold nz;rw[if_pos rfl];rfl
 is:=λI r e=>wK I r e
 beq:=λe f=>uJ e f
 ref:=λr e=>by
  obtain⟨j,rfl,_⟩:=oN e;obtain⟨a,_,rfl,_⟩:=r;exact⟨a,rfl⟩
 room:=λh=>by show X.A.units+1<cLine;unfold Rm at h;omega
 room0:=λh=>by show X.A.units<cLine;unfold Rm at h;omega
def KD.n (X:Cx):KD X 78 where
 K:=List (List Int)
 dq:=inferInstance
 knd:=Ks X.prog X.w
 dec:=qN
 hash:=λd=>by unfold nz;rw[if_neg `d,if_pos rfl];rfl
 is:=λI r e=>Hq I r e
 beq:=λe f=>C3 e f
 ref:=λ{fa μ H d v k} r e=>by
  cases d with
  | tup j=>
    obtain⟨a,_,rfl,_⟩:=r;exact⟨a,rfl⟩
  |_=>cases e
 room:=λh=>by show X.A.units+1+2<cLine;unfold Rm at h;omega
 room0:=λh=>by show X.A.units+2<cLine;unfold Rm at h;omega
noncomputable instance kdq {X:Cx}{c:Int} (kd:KD X c):DecidableEq kd.K:=kd.dq
noncomputable def lW (p:D×D):D:=.tup [p.1,p.2]
section
variable{fa:Fa}{X:Cx}{pins:List (Addr×Obj)}{σ:L2.St}{H:Hp}{s:QC}{μ:Mu}{c:Int}{kd:KD X c}{kvs:List (D×D)}
abbrev DP (fa:Fa)(X:Cx)(μ:Mu)(H:Hp){c:Int}(kd:KD X c):List (D×D)->List (kd.K×Addr×Qt)->Prop:=Su λp x=>kd.dec p.1=some x.1/\Rep fa X.K μ H p.1 (.ref x.2.1)/\∃v,RelV v x.2.2/\Rep fa X.K μ H p.2 v
theorem KD.xs (kd:KD X c):∀{kvs:List (D×D)}{es:List Sl},Su (DJ fa X.K μ H c) kvs es->∃xs,es=xs.map (entryOfKey kd.knd)/\DP fa X μ H kd kvs xs
 |_,_,.nil=>{[],rfl,.nil}
 | _,_,.cons ⟨b,v,e1,e2,h,j,u⟩ r=>by
   obtain⟨xs,rfl,q⟩:=KD.xs kd r;rw[kd.hash] at e2;obtain⟨k,z,y⟩:=QG.mp e2;refine{(k,b,_)::xs,?_,.cons ⟨z,h,v,j,u⟩ q};rw[Ry]
   congr 1
   unfold entryOfKey;rw[y,<- e1]
def KD.back {xs:List (kd.K×Addr×Qt)}:∀{kvs:List (D×D)},DP fa X μ H kd kvs xs->Su (DJ fa X.K μ H c) kvs (xs.map (entryOfKey kd.knd)):=by
 intro kvs h;induction h with
 |nil=>exact .nil
 |cons r _ j=>exact .cons (let⟨h1,h2,v,h3,h4⟩:=r;{_,v,rfl,by rw[kd.hash,h1];rfl,h2,h3,h4}) j
def DP.mem (h:DP fa X μ H kd kvs xs)(m:x∈xs):∃p∈kvs,kd.dec p.1=some x.1/\Rep fa X.K μ H p.1 (.ref x.2.1):=by
 induction h with
 |nil=>cases m
 | cons r _ u=>
   rcases Rg.mp m with rfl|m
   ·exact{_,QS,r.1,r.2.1}
   ·obtain⟨p,j,q⟩:=u m;exact{p,QD _ j,q}
def DP.nodup (h:DP fa X μ H kd kvs xs)(n:(kvs.map (·.1)).Nodup):(xs.map (·.1)).Nodup:=by
 induction h with
 |nil=>exact List.nodup_nil
 | @cons p x ps B r t u=>
   rw[Ry,RE] at n ⊢;refine{λm=>n.1 ?_,u n.2};obtain⟨y,z,j⟩:=QF.mp m;obtain⟨q,v,e1,_⟩:=DP.mem t z;have:=(kd.beq r.1 e1).2 j.symm;rw[this];exact QF.mpr ⟨q,v,rfl⟩
def KD.dict {xs:List (kd.K×Addr×Qt)}(I:Inv X pins σ H s)(e:H a=some (.dn (xs.map (entryOfKey kd.knd))))(h:DP fa X μ H kd kvs xs)(n:(kvs.map (·.1)).Nodup):(a==sysModules)=false/\xs.length<=sizeLine/\i0 kd.knd s.heap a xs:=by
 obtain⟨z,y,o,h1,h2,h3⟩:=(I.hok a _ e);refine{y,by simpa using z,o,_,h1,h2,by rw[h3,Qx],`s,λx j=>?_,h.nodup n}
 obtain⟨p,_,e1,e2⟩:=h.mem j;exact kd.is I e2 e1
def DP.look (h:DP fa X μ H kd kvs xs)(hk:kd.dec k=some kk):(cV (kvs.map lW) k=none/\atKey xs kk=none)\/∃d b v u,cV (kvs.map lW) k=some d/\atKey xs kk=some (b,u)/\RelV v u/\Rep fa X.K μ H d v:=by
 induction h with
 |nil=>exact .inl ⟨rfl,rfl⟩
 | @cons p x ps y r t j=>
   obtain⟨h1,h2,v,h3,h4⟩:=r;have b:=(kd.beq h1 hk).1;unfold cV atKey at j ⊢;rw[Ry,List.find?_cons,List.find?_cons];rw[show bZ (yt (lW p)) k=decide (x.1=kk) from b];by_cases z:x.1=kk
   ·rw[decide_eq_true z];exact .inr ⟨p.2,x.2.1,v,x.2.2,rfl,rfl,h3,h4⟩
   ·rw[decide_eq_false z];exact j
def j4 (kvs:List (D×D))(k d:D):List (D×D):=if (cV (kvs.map lW) k).isSome then kvs.map (λp=>if bZ p.1 k then(p.1,d) else p) else kvs++[(k,d)]
def JX (kvs:List (D×D))(k d:D):(j4 kvs k d).map lW=putD (kvs.map lW) k d:=by
 unfold j4 putD;split
 ·rw[RO,RO];refine SR λp _=>?_;show lW (if bZ p.1 k then(p.1,d) else p)=if bZ p.1 k then _ else _;split<;>rfl
 ·rw[QP];rfl
def zZ (kvs:List (D×D))(k d:D):(j4 kvs k d).map (·.1)=if (cV (kvs.map lW) k).isSome then kvs.map (·.1) else kvs.map (·.1)++[k]:=by
 unfold j4;split
 ·rw[RO];refine SR λp _=>?_;show(if bZ p.1 k then(p.1,d) else p).1=p.1;split<;>rfl
 ·rw[QP];rfl
set_option tactic.hygienic true in
def DP.put (h:DP fa X μ H kd kvs xs)(hk:kd.dec k=some kk)(E:Rep fa X.K μ H k (.ref b))(j:RelV v u)(rd:Rep fa X.K μ H d v):DP fa X μ H kd (j4 kvs k d) (storedH xs kk b u):=by
 have e:(cV (kvs.map lW) k).isSome=(atKey xs kk).isSome:=by
  rcases h.look hk with⟨h1,h2⟩|⟨_,_,_,_,h1,h2,_⟩<;>rw[h1,h2]<;>rfl
 unfold j4 storedH;rw[e];split
 ·next hs=>
  clear e hs;induction h with
  |nil=>exact .nil
  | @cons p x ps F r t B=>
    refine .cons ?_ B;have y:=(kd.beq r.1 hk).1;unfold putAt;dsimp only;rw[y];by_cases z:x.1=kk
    ·rw[decide_eq_true z,if_pos z,if_pos rfl];exact⟨r.1,r.2.1,v,j,rd⟩
    ·rw[decide_eq_false z,if_neg z,if_neg QZ];exact r
 ·exact Paired.snoc h ⟨hk,E,v,j,rd⟩
set_option tactic.hygienic true in
def DP.keys (h:DP fa X μ H kd kvs xs)(n:(kvs.map (·.1)).Nodup)(hk:kd.dec k=some kk):((j4 kvs k d).map (·.1)).Nodup:=by
 rw[zZ];split
 ·exact n
 ·next z=>
  refine List.nodup_append.mpr {n,`s,λa u b v q=>z ?_}
  obtain rfl:=QN.mp v;subst q;obtain⟨p,y,j⟩:=QF.mp u;rw[cV,Sw,List.find?_isSome];refine{lW p,QF.mpr ⟨p,y,rfl⟩,?_};show bZ p.1 a=true;rw[j,(kd.beq hk hk).1];exact decide_eq_true rfl
end
def iu (a b:GE):GE:=λh M=>(a h M).bind λx M=>(b h M).bind λk M=>match x with
 |.fn o=>bS M (getD M o k)
 |_=>.bad
def lC (n:Bool)(a b:GE):GE:=λh M=>(a h M).bind λk M=>(b h M).bind λx M=>match x with
 | .fn o=>(match inD M o k with
   |some r=>.ok (.bl (n != r)) M
   |none=>.bad)
 |_=>.bad
def ip (a b d:GE):GS:=λh M=>(d h M).bind λz M=>(a h M).bind λx M=>(b h M).bind λk M=>match x with
 | .fn o=>(match cJ M o with
   |some q=>if isKey q.1 k=true/\q.2.length<1000000 then .ok (.next h) (M.set (o-5000) (.int q.1::putD q.2 k z)) else .bad
   |none=>.bad)
 |_=>.bad
noncomputable def yo (c:Int):GE:=λ_ M=>.ok (.fn (aj M.length)) (M++[[.int c]])
structure hJ (fa:Fa):Prop where
 of:∀o,5000<=o->fa o=none
 n77:fa (fg 77)=none
 n78:fa (fg 78)=none
section
variable{fa:Fa}{K:Qr}{μ:Mu}{H:Hp}{M:Mem}
def Ext.dic (h:RelM fa K μ H M)(v:H a=some (.dn es)):Ext μ H μ (upd H a (.dn es')):=by
 have ne:∀{b o},H b=some o->(∀es,o≠.dn es)->b≠a:=λg n z=>by rw[z,v] at g;cases g;exact n _ rfl
 refine{{λ_ _ q=>q,λb j g=>?_,λb j g n=>{by rw[av (ne g (λ_ z=>by cases z))];exact g,n},λb ob u g=>by rw[av (ne g (λ_ z=>by cases z))];exact g,λb o i g=>?_,λ_ _ q=>q},rfl,λb y=>?_}
 ·rcases g with g|⟨ob,g⟩
  ·exact .inl (by rw[av (ne g (λ_ z=>by cases z))];exact g)
  ·exact .inr {ob,by rw[av (ne g (λ_ z=>by cases z))];exact g}
 ·rw[av (ne g (λ_ z=>by rcases i with⟨_,i⟩|⟨_,i⟩<;>(rw[i] at z;cases z)))];exact g
 ·obtain⟨⟨j,g⟩,_⟩:=h.pv b y;rw[av (ne g (λ_ z=>by cases z))]
def RelM.dicW (h:RelM fa K μ H M)(e:M[k]?=some ds)(v:μ.ob (aj k)=some a)(I:H a=some (.dn es))(new:jB fa K μ (upd H a (.dn es')) a y):RelM fa K μ (upd H a (.dn es')) (M.set k y):=by
 have x:Ext μ H μ (upd H a (.dn es')):=Ext.dic h I;refine{λj B q=>?_,λj u=>h.out j (by simpa using u),λj u=>h.oout j (by simpa using u),h.inj,h.oinj,h.sep,λb E=>{let{⟨F,g⟩,_}:=h.pv b E;{F,by rw[x.pk b E];exact g},(h.pv b E).2}}
 by_cases u:j=k
 ·subst u;rw[QI (Qs.mp e).1] at q;cases q;refine .inr {a,v,?_,new};cases z:μ.pub j with
  |none=>rfl
  |some b=>rw[h.sep j b z] at v;cases v
 ·rw[Qv (RF u)] at q;rcases h.at' j B q with⟨b,F,h1,h2,h3⟩|⟨b,h1,h2,h3⟩
  ·exact .inl {b,F,h1,by rw[av (λz=>by rw[z,I] at h2;cases h2)];exact h2,h3.ext x}
  ·exact .inr {b,h1,h2,h3.extW x.toExtW (av λz=>u (h.oinj _ _ a (z ▸ h1) v))}
set_option tactic.hygienic true in
def Ext.dicNew (h:RelM fa K μ H M)(u:H x=none):Ext μ H (fi μ M.length x) (upd H x (.dn [])):=by
 have e:Ext μ H μ (upd H x (.dn [])):=Ext.alloc h u;refine{{e.mu,e.tups,λb v g n=>{(e.lsts b v g n).1,n},e.frzs,e.exts,λj b z=>?_},rfl,e.pk};show(if j=aj M.length then some x else μ.ob j)=some b;split
 ·next q=>rw[q,h.oout _ (QA _)] at z;cases z
 ·exact z
set_option tactic.hygienic true in
def RelM.dicNew {c:Int}(h:RelM fa K μ H M)(u:H x=none)(J:c=77\/c=78):RelM fa K (fi μ M.length x) (upd H x (.dn [])) (M++[[.int c]]):=by
 have X:=Ext.dicNew h u;have old:∀{b o},H b=some o->(upd H x (.dn [])) b=some o:=λg=>by rw[av (aP g u)];exact g
 have pc:∀{k b},(fi μ M.length x).ob (aj k)=some b->(k=M.length/\b=x)\/μ.ob (aj k)=some b:=λ{k b} z=>by
  have z:(if aj k=aj M.length then some x else μ.ob (aj k))=some b:=z;split at z
  ·next q=>cases z;exact .inl {Sz q,rfl}
  ·exact .inr z
 refine{λk I q=>?_,λk hk=>h.out k (by simp at hk;omega),λk hk=>?_,h.inj,λj k b e1 e2=>?_,λk b z=>?_,λb E=>{?_,(h.pv b E).2}}
 ·by_cases hk:k<M.length
  ·rw[QB hk] at q;rcases h.at' k I q with⟨b,B,h1,h2,h3⟩|⟨b,h1,h2,h3⟩
   ·exact .inl {b,B,h1,old h2,h3.ext X}
   ·exact .inr {b,X.obs _ _ h1,h2,h3.extW X.toExtW (by obtain⟨o,e,_⟩:=h3.hold;rw[old e,e])}
  ·have y:k=M.length:=by
    have:=(Qs.mp q).1;simp at this;omega
   subst y;rw[QV (QA _)] at q;simp at q;subst q;exact .inr {x,by show(if aj M.length=aj M.length then some x else _)=some x;rw[if_pos rfl],h.out _ (QA _),.inr {c,[],[],bG,J,rfl,.nil,List.nodup_nil}}
 ·show(if aj k=aj M.length then some x else μ.ob (aj k))=none;simp at hk;rw[if_neg (λz=>by have:=Sz z;omega)]
  exact h.oout k `a
 ·rcases pc e1 with⟨a1,a2⟩|a1<;>rcases pc e2 with⟨v,F⟩|v
  ·omega
  ·subst a2;obtain⟨_,z⟩:=h.ob_ins v;rw[u] at z;cases z
  ·subst F;obtain⟨_,z⟩:=h.ob_ins a1;rw[u] at z;cases z
  ·exact h.oinj j k b a1 v
 ·show(if aj k=aj M.length then some x else μ.ob (aj k))=none;have z:μ.pub k=some b:=z;rw[if_neg (λq=>by rw[Sz q,h.out _ (QA _)] at z;cases z)]
  exact h.sep k b z
 ·obtain⟨⟨B,g⟩,_⟩:=h.pv b E;exact{B,old g}
end
section
variable{fa:Fa}{X:Cx}{pins:List (Addr×Obj)}{σ:L2.St}{H:Hp}{s:QC}{μ:Mu}{M:Mem}
set_option tactic.hygienic true in
def oO {c:Int}(h:isKey c d=true)(kd:KD X c):∃kk,kd.dec d=some kk:=by
 have e:(nz c d).isSome=true:=by
  unfold isKey at h;unfold nz;split at h
  ·next z=>rw[if_pos z,Sw];exact h
  ·next z=>
   rw[if_neg z];split at h
   ·next y=>rw[if_pos y,Sw];exact h
   ·cases h
 rw[kd.hash,Sw] at e;exact Option.isSome_iff_exists.mp e
def M8 {c:Int}(X:Cx)(h:c=77\/c=78):Nonempty (KD X c):=by
 rcases h with rfl|rfl
 ·exact{KD.f X}
 ·exact{KD.n X}
set_option tactic.hygienic true in
def p8 (hd:hJ fa)(I:Inv X pins σ H s)(L:RelM fa X.K μ H M)(r:Rep fa X.K μ H (.fn o) v)(e:cJ M o=some q) :
 ∃(a:Addr) (kd:KD X q.1) (h:List (D×D)) (xs:List (kd.K×Addr×Qt)),v=.ref a/\5000<=o/\μ.ob o=some a/\M[o-5000]?=some (.int q.1::q.2)/\H a=some (.dn (xs.map (entryOfKey kd.knd)))/\(q.1=77\/q.1=78)/\q.2=h.map lW/\DP fa X μ H kd h xs/\(h.map (·.1)).Nodup:=by
 unfold cJ at e;split at e
 ·next ho=>
  split at e
  ·next c Q B=>
   split at e
   ·next z=>
    cases e;obtain⟨a,rfl,j⟩:=r;rcases j with j|⟨_,j⟩
    ·rw[hd.of o ho] at j;cases j
    have E:aj (o-5000)=o:=Nat.add_sub_cancel' ho;rcases L.at' _ _ B with⟨b,R,h1,_⟩|⟨b,h1,h2,⟨n,C,P,fs,y,h3,h4,F,u,J⟩|⟨O,y,h,h3,h4,F,u,J⟩⟩
    ·have:=L.sep _ _ h1;rw[E,j] at this;cases this
    ·have u:=(List.cons.inj u).1;have u:=D.int.inj u;rcases z with rfl|rfl
     ·have:n=77:=`a
      rw[this,hd.n77] at h3;cases h3
     ·have:n=78:=`a
      rw[this,hd.n78] at h3;cases h3
    ·rw[E,j] at h1;cases h1;obtain⟨e1,e2⟩:=List.cons.inj F;cases D.int.inj e1;obtain⟨kd⟩:=M8 X z;obtain⟨xs,rfl,dp⟩:=kd.xs u;exact⟨a,kd,h,xs,rfl,ho,j,B,h3,z,e2,dp,J⟩
   ·cases e
  ·cases e
 ·cases e
def rDG (fa:Fa)(K:Qr):R2:=λx y H Q=>∃μ M o h d,RelM fa K μ H M/\Rep fa K μ H (.fn o) x/\Rep fa K μ H h y/\getD M o h=some d/\aW fa K μ H Q d M
set_option tactic.hygienic true in
def E7 (Y:Rm X)(hd:hJ fa):jY X (rDG fa X.K):=by
 intro E B pins s σ H x y v u Q I rx ry h hs;obtain⟨μ,M,o,dy,d,P,r1,r2,e,q⟩:=h;obtain⟨qq,e1,e2⟩:=QT.mp e;split at e2
 ·next hk=>
  obtain⟨a,J,kvs,xs,rfl,ho,ha,em,W,hc,U,dp,nd⟩:=p8 hd I P r1 e1;obtain⟨kk,L⟩:=oO hk J;obtain⟨b,rfl⟩:=J.ref r2 L;obtain⟨ys,hz,O⟩:=KD.dict I W dp nd;obtain rfl:v=Value.ref a:=rx;obtain rfl:u=Value.ref b:=ry;rw[U] at e2;rcases dp.look L with⟨z,_⟩|⟨d',b',v',u',z,g,ru,rd⟩
  ·rw[z] at e2;cases e2
  ·rw[z] at e2;cases e2;have R:=O.of.typeIs;have h2:wpAny (model X.prog X.w) X.A (getItem (.ref a) (.ref b)) (EP X pins σ Q) X.xe s:=wpAny_getItem_heap (J.room Y) (J.is I r2 L) O.of g {v',H,I.tok _,ru,aQ P q rd};refine tqa ?_;rw[getitemInPython_of_ne R.not_modules];refine tqa (wpAny_specialOf R PySem.F.slot_dict_getitem.lookup ?_);have j:wpAny (model X.prog X.w) X.A (subscripted B false (.ref a) (.ref b)) (λr S=>wpAny (model X.prog X.w) X.A (letTemporaryGo E (.ref a) r >>= λ_=>pure r) (EP X pins σ Q) X.xe S) X.xe s:=by
    rw[hs];exact wpAny_operating (wpAny_mono h2 (λr S h3=>tqa (wpAny_letTemporaryGo (tqb h3))) λ_ _ x=>x)
   first
    |exact tqb (tqa j)
    |exact tqa (tqb (tqa j))
    |exact tqa j
 ·cases e2
def rDI (fa:Fa)(K:Qr)(n:Bool):R2:=λx y H Q=>∃μ M o h b,RelM fa K μ H M/\Rep fa K μ H h x/\Rep fa K μ H (.fn o) y/\inD M o h=some b/\Q (.bl (n != b)) H
set_option tactic.hygienic true in
def Fh (F:Rm X)(hd:hJ fa)(n:Bool):bF X (compareOp (if n then .NotIn else .In)) (rDI fa X.K n):=by
 intro pins s σ H x y v u Q I S U h;obtain⟨μ,M,o,L,b,R,r1,r2,e,q⟩:=h;obtain⟨qq,e1,e2⟩:=QT.mp e;split at e2
 ·next hk=>
  obtain⟨a,j,B,xs,rfl,ho,Y,W,P,hc,O,dp,nd⟩:=p8 hd I R r2 e1;obtain⟨kk,z⟩:=oO hk j;obtain⟨c,rfl⟩:=j.ref r1 z;obtain⟨J,hz,E⟩:=KD.dict I P dp nd;obtain rfl:v=Value.ref c:=S;obtain rfl:u=Value.ref a:=U;rw[O] at e2;cases e2;have eq:(cV (B.map lW) L).isSome=(atKey xs kk).isSome:=by
   rcases dp.look z with⟨h1,h2⟩|⟨_,_,_,_,h1,h2,_⟩<;>rw[h1,h2]<;>rfl
  rw[eq] at q;cases n with
  |false=>exact wpAny_in_heap (j.room F) (j.is I r1 z) J E.of {.bl _,H,I.tok _,rfl,by simpa using q}
  |true=>exact wpAny_notIn_heap (j.room F) (j.is I r1 z) J E.of {.bl _,H,I.tok _,rfl,by simpa using q}
 ·cases e2
def rDS (fa:Fa)(K:Qr):DD:=λx y v H Q=>∃μ M o j d q,RelM fa K μ H M/\Rep fa K μ H (.fn o) x/\Rep fa K μ H j y/\Rep fa K μ H d v/\cJ M o=some q/\isKey q.1 j=true/\q.2.length<1000000/\∀h,Ext μ H μ h->RelM fa K μ h (M.set (o-5000) (.int q.1::putD q.2 j d))->Q h
def q8 (hd:hJ fa)(I:Inv X pins σ H s)(Q:RelM fa X.K μ H M)(r1:Rep fa X.K μ H (.fn o) x)(r2:Rep fa X.K μ H dy y)(ry:RelV y iv)(rv:RelV v u)(r3:Rep fa X.K μ H d v)(e1:cJ M o=some q)(hk:isKey q.1 dy=true)(hl:q.2.length<1000000) :
 ∃(a b:Addr) (kd:KD X q.1) (kk:kd.K) (xs:List (kd.K×Addr×Qt)),x=.ref a/\iv=.ref b/\kd.knd.is s.heap kk b/\xs.length<=sizeLine/\i0 kd.knd s.heap a xs/\∀J t,i0 kd.knd J a (storedH xs kk b u)->R5 a s.heap J->∃O,Inv X pins σ O {s with heap:=J,toks:=t}/\Ext μ H μ O/\RelM fa X.K μ O (M.set (o-5000) (.int q.1::putD q.2 dy d)):=by
 obtain⟨a,kd,h,xs,rfl,ho,ha,Y,L,hc,E,dp,nd⟩:=p8 hd I Q r1 e1;obtain⟨kk,F⟩:=oO hk kd;obtain⟨b,rfl⟩:=kd.ref r2 F;obtain⟨ys,hz,S⟩:=KD.dict I L dp nd;obtain rfl:iv=Value.ref b:=ry;have j:=dp.put F r2 rv r3;refine{a,b,kd,kk,xs,rfl,rfl,kd.is I r2 F,hz,S,λJ t P hs=>?_};obtain⟨R,es',h1,h2,h3,h4,_,_⟩:=P;have lx:(storedH xs kk b u).length<=sizeLine:=by
  have l1:=Paired.length j;have l2:(j4 h dy d).length<=h.length+1:=by
   unfold j4;split<;>simp
  have l3:h.length<1000000:=by rw[E,Qx] at hl;exact hl
  rw[<- l1,sizeLine_eq];omega
 have eo:aj (o-5000)=o:=Nat.add_sub_cancel' ho;have x:=Ext.dic (es':=(storedH xs kk b u).map (entryOfKey kd.knd)) Q L;refine{upd H a (.dn ((storedH xs kk b u).map (entryOfKey kd.knd))),I.write (by rw[L];exact True.intro) (.inl rfl) (λb q hb z=>(hs.2 b hb).trans z) ⟨R,h1⟩ {by simpa using lx,ys,R,h1,h2,?_},x,?_}
 ·have B:=congrArg List.length h4;rw[Qx] at B;rw[h3,<- h4,B]
 ·refine Q.dicW Y (by rw[eo];exact ha) L (.inr {q.1,_,j4 h dy d,bG,hc,?_,Su.mapP (KD.back j) λp e ⟨b,v,e1,e2,E,U,W⟩=>{b,v,e1,e2,E.ext x,U,W.ext x},dp.keys nd F})
  rw[E,<- JX];rfl
def GD (P:Rm X)(hd:hJ fa):DH X (rDS fa X.K):=by
 intro pins s σ H x y v W iv u Q I rx ry rv h;obtain⟨μ,M,o,dy,d,q,L,r1,r2,Y,e1,hk,hl,k⟩:=h;obtain⟨a,b,S,kk,xs,rfl,rfl,O,R,F,z⟩:=q8 hd I L r1 r2 ry rv Y e1 hk hl;obtain rfl:W=Value.ref a:=rx;refine xF (hsz:=R) (S.room P) O F λJ j hs=>?_;obtain⟨B,E,x',U⟩:=z J _ j hs;exact{B,E,k B x' U}
end
section
variable{fa:Fa}{X:Cx}{a b d:Expr}{ga gb gd:GE}{pos:Pos}
def LV (O:Rm X)(hd:hJ fa)(J:DE fa X a ga)(L:DE fa X b gb)(hs:gG b):DE fa X (.Subscript a b pos) (iu ga gb):=
 a9 (pH (E7 O hd) J L hs) λW H Q ⟨S,U,M,E,I,h⟩=>t2 E I h λx y B v u R z P F j r1 r2 h2=>by
  cases x with
  | fn o=>
    obtain⟨d,e,q⟩:=i4 h2;exact{z,B,o,y,d,j,r1,r2,e,aW.ext q P}
  |_=>exact h2.elim
def w6 {x y:D}(h:ae (match y with|.fn o=>(match inD M o x with|some r=>Res.ok (D.bl (n != r)) M|none=>.bad)|_=>.bad) k):∃o r,y=.fn o/\inD M o x=some r/\k (.bl (n != r)) M:=by
 cases y with
 | fn o=>
   dsimp only at h;cases e:inD M o x with
   |none=>rw[e] at h;exact h.elim
   |some r=>rw[e] at h;exact⟨o,r,rfl,e,h⟩
 |_=>exact h.elim
def NH (n:Bool)(O:Rm X)(hd:hJ fa)(J:DE fa X a ga)(L:DE fa X b gb)(hm:behindInMarks (if n then .NotIn else .In) b=false):DE fa X (.Compare a [if n then .NotIn else .In] [b] pos) (lC n ga gb):=
 a9 (qE (Fh O hd n) J L hm) λW H Q ⟨S,U,M,E,I,h⟩=>t2 E I h λx y B v u R z P F j r1 r2 h2=>by
  obtain⟨o,r,rfl,e,q⟩:=w6 h2;exact{z,B,o,x,r,j,r1,r2,e,aQ j (q.ext P) rfl}
def Lr (n:Bool)(W:Rm X)(hd:hJ fa)(S:DE fa X a ga)(U:DE fa X b gb)(hm:behindInMarks (if n then .NotIn else .In) b=false):DT fa X (.Compare a [if n then .NotIn else .In] [b] pos) (ao (lC n ga gb)):=
 kg (qB (Fh W hd n) S U hm) λσ H Q ⟨μ,Z,M,O,R,h⟩=>by
  obtain⟨z,I,e,q⟩:=aC h;have L:ae (lC n ga gb Z M) (λd M=>d=z/\M=I):=by rw[e];exact⟨rfl,rfl⟩
  refine t2 O R L λx y F v u E B Y P j r1 r2 h2=>?_;obtain⟨o,r,rfl,e1,e2,J⟩:=w6 h2;subst e2 J;exact{B,F,o,x,r,j,r1,r2,e1,n != r,rfl,q E B Y j}
set_option tactic.hygienic true in
def JA (hu:Rm X)(hk:hJ fa)(W:DE fa X a ga)(Y:DE fa X b gb)(hd:DE fa X d gd)
 (R:∀v,assign (.Subscript a b p2) X.env v=(do
  let u <- holding [v] (eval a X.env)
  let J <- holding [v,u] (eval b X.env)
  standAt p2
  holding [v,u,J] (setItem u J v)
  release [v,u,J] [])) (hs:swapsWithSole [.Subscript a b p2] d pos.line X.env=pure false) (hw:swappedStores [.Subscript a b p2] d X.env=pure none) :
 DS fa X (.Assign [.Subscript a b p2] d pos) (ip ga gb gd):=
 dh (pF hd (Af W Y (GD hu hk) R) hs hw) λD' σ H ⟨μ,Z,M,S,U,h⟩=>t1 S U h λz M1 v H1 μ1 x1 B F r1 h1=>t2 B F h1 λx y L vx vy H2 j P E I rx ry h2=>by
  cases x with
  | fn o=>
    dsimp only at h2;cases e:cJ L o with
    |none=>rw[e] at h2;exact h2.elim
    | some q=>
      rw[e] at h2;dsimp only at h2;split at h2
      ·next c=>
       have w:=h2;exact{j,L,o,y,z,q,I,rx,ry,r1.ext P,e,c.1,c.2,λQ O m'=>w σ Q j ((x1.trans P).trans O) (E.ext O) m'}
      ·exact h2.elim
  |_=>exact h2.elim
def LS (c:Int)(z:c=77\/c=78)(hd:hJ fa):DE fa X (.Dict [] [] pos) (yo c):=by
 intro v s J H Q I ⟨B,F,M,E,j,h⟩;have y:sysModules<s.heap.objs.size:=Nat.lt_trans `d (I.mod.glob.keeps I.bk).lt
 have u:=I.hok.fresh (QA _);refine wpAny_Dict_empty {.ref s.heap.objs.size,_,I.laid (o:=.dn []) (λ_ _ q=>Qu _ q) (QA _) {RU _,RC.mpr (RF (Q1 y)),_,QU _ rfl,⟨rfl,rfl,rfl⟩,rfl},rfl,?_};refine h _ _ (fi B M.length s.heap.objs.size) (Ext.dicNew j u) (j.dicNew u z) {_,rfl,.inr {hd.of _ (RJ _ _),?_}};show(if aj M.length=aj M.length then some s.heap.objs.size else _)=_;rw[if_pos rfl]
end
def uB (hd:(d==sysModules)=false) :
 MeetsIn prog w (Builtin.«dict.__len__» {[.ref d],[]}) (λ_ R s=>∃o es u,s.heap.get? d=some o/\o.data=.dict es u/\R (.ok (.ret (.int es.size s.toks))) {s with toks:=s.toks+1}):=
 .of_wp λA R s ⟨o,es,u,ho,j,h⟩=>by
  show wpAny _ _ (dictSize d >>= _) _ _ s;refine tqa (tqa (wpAny_dictEntries ho j (tqb ?_)));refine tqa (wpAny_pendingCount_other hd (wpAny_ret_mkInt ?_));rw[Nat.add_zero];exact h
def KO (hd:(d==sysModules)=false)(ho:s.heap.get? d=some o)(y:o.cls=.type "dict")(j:o.data=.dict es ep)(v:es.size<2^62)
 (h:∀t t',Q (.int es.size t) {s with toks:=t'}):wpAny (model prog w) A (call (.builtin "len") [.ref d]) Q E s:=by
 have u:s.TypeIs (.ref d) "dict":=⟨o,ho,y⟩;refine Calls.call_function_entry kind_len plain_len entry_len (args_len1 _) ?_;refine tqa (tqb ?_);refine tqa (wpAny_callSpecial?_slot u F.slot_dict_len (call_meetsIn F.slot_dict_len u F.entry_dict_len (F.args_dict_len_1 _) (uB hd) {o,es,ep,ho,j,?_}));refine tqa (tqo (tqb (tqa (wpAny_letGo ?_))));rw[if_neg `a]
 rw[if_neg `a]
 exact tqa (wpAny_mkInt (tqb {_,rfl,h _ _}))
def lB (a:GE):GE:=λh M=>(a h M).bind λx M=>match x with
 | .fn o=>(match cJ M o with
   |some q=>.ok (.int q.2.length) M
   |none=>.bad)
 |_=>.bad
section
variable{fa:Fa}{X:Cx}{a:Expr}{ga:GE}{p pos:Pos}
def Lh (hd:hJ fa):b4 X (.builtin "len") (λxs H Q=>∃μ M o q v,xs=[v]/\RelM fa X.K μ H M/\Rep fa X.K μ H (.fn o) v/\cJ M o=some q/\Q (.int q.2.length) H):=by
 intro j s σ H xs us Q I r h;obtain⟨μ,M,o,q,v,rfl,F,P,e,k⟩:=h;obtain⟨b,J,L,R,rfl,ho,U,S,E,W,u,dp,nd⟩:=p8 hd I F P e;cases r with
 | cons r O=>
   cases O;obtain rfl:=(r);obtain⟨z,y,ob,h1,h2,h3⟩:=(I.hok b _ E);have B:(R.map (entryOfKey J.knd)).toArray.size=q.2.length:=by
    rw[u,QE,Qx,Qx];exact(Paired.length dp).symm
   refine KO y h1 h2.1 h3 ?_ λt Y=>{.int q.2.length,H,I.tok _,{t,by rw[B]},k}
   rw[QE];rw[sizeLine_eq] at z;omega
def LU (hd:hJ fa)(I:Gl X "len")(hm:X.mg "len"=none)(F:DE fa X a ga)(he:notStar a=true):DE fa X (.Call (.Name "len" p) [a] [] pos) (lB ga):=
 a9 (gm (Lh hd) I hm PySem.boot_len (bC F cY (by rw[bf he])) `d `d (by rw[bf he]) `r) λR H Q ⟨O,P,M,z,E,h⟩=>t1 z E h λx y v L u J B j r1 h1=>by
  cases x with
  | fn o=>
    dsimp only at h1;cases e:cJ y o with
    |none=>rw[e] at h1;exact h1.elim
    |some q=>rw[e] at h1;exact{u,y,o,q,v,rfl,j,r1,e,aQ j (aW.ext h1 J) rfl}
  |_=>exact h1.elim
end
def jS (u y:GE):Env->List D->Mem->Res (List D):=λj h M=>(u j M).bind λk M=>(y j M).bind λv M=>match h with
 | [.fn o]=>(match cJ M o with
   |some q=>if isKey q.1 k=true/\q.2.length<1000000 then .ok h (M.set (o-5000) (.int q.1::putD q.2 k v)) else .bad
   |none=>.bad)
 |_=>.bad
def kC (c:Int)(n:Nat)(t:fK)(u:GW)(g:GB):GE:=λj M=>(u j M).bind λw M=>(cU (c5 t g (List.replicate n none++j)) w [.fn (aj M.length)] (M++[[.int c]])).bind λh M=>match h with
 |[d]=>.ok d M
 |_=>.bad
def xq (a:Addr):PA:=λj _ h=>∃o,h=[.fn o]/\5000<=o/\j.ob o=some a
def xq.stab:yI (xq a):=λ_ _ _ _ _ x ⟨o,h1,h2,h3⟩=>{o,h1,h2,x.obs _ _ h3}
def BX (B y h j:Expr)(u:Scope)(pos:Pos)(z:Qt)(d:Addr)(env:R1) :
 compTurn (.DictComp B y [{h,j,[],0}] u pos) 0 z (.ref d) env=(standAt j.pos >>= λ_=>pyNext z >>= λr=>match r with
  |none=>pure (.done .next)
  |some v=>letOwnedTupleGo h z v >>= λ_=>assign h env v >>= λ_=>(eval B env >>= λE=>holding [E] (eval y env) >>= λF=>standAt {B.pos with endLine:=y.pos.endLine,endCol:=y.pos.endCol} >>= λ_=>holding [E,F] (dictSet d E F)) >>= λ_=>again (.compLoop (.DictComp B y [{h,j,[],0}] u pos) 0 z (.ref d) env)):=`r
section
variable{fa:Fa}{X:Cx}{a:Addr}
set_option tactic.hygienic true in
def HZ (hu:Rm X)(hd:hJ fa)(hk:DE fa X kx gk)(hv:DE fa X vx gv):DB fa X (xq a) a [] (eval kx X.env >>= λY=>holding [Y] (eval vx X.env) >>= λvv=>standAt {kx.pos with endLine:=vx.pos.endLine,endCol:=vx.pos.endCol} >>= λ_=>holding [Y,vv] (dictSet a Y vv)) (jS gk gv):=by
 rintro z s O H Q μ Z M _ I U hM hc ⟨o,rfl,ho,W⟩ h;obtain⟨k,M1,e,h⟩:=aC h;obtain⟨v,M2,e2,h⟩:=aC h;dsimp only at h;cases R:cJ M2 o with
 |none=>rw[R] at h;exact h.elim
 | some q=>
   rw[R] at h;dsimp only at h;split at h
   ·next c=>
    refine tqa (aO (hk z s O H (λv y=>∃j,Ext μ H j y/\RelM fa X.K j y M1/\Rep fa X.K j y k v) I {μ,Z,M,U,hM,?_}) λuk s1 ⟨wk,y,I1,rk,j,B,E,r1⟩=>?_)
    ·rw[e];exact λv y j B E r1=>⟨j,B,E,r1⟩
    refine tqa (tqo (aO (hv z s1 O y (λw J=>∃u,Ext j y u J/\RelM fa X.K u J M2/\Rep fa X.K u J v w) I1 {j,Z,M1,U.ext B,E,?_}) λuv s2 ⟨wv,J,I2,rv,u,L,m2,r2⟩=>?_))
    ·rw[e2];exact λv y j B E r1=>⟨j,B,E,r1⟩
    have F:=L.obs _ _ (B.obs _ _ W);obtain⟨a',b,kd,kk,xs,ea,rfl,hi,hz,dd,S⟩:=q8 hd I2 m2 {a,rfl,.inr {hd.of _ ho,F}} (r1.ext L) rk rv r2 R c.1 c.2;cases ea;refine tqa (wpAny_standAt (tqo (lH (hsz:=hz) (kd.room0 hu) hi dd λh' P hs=>?_)));obtain⟨H',I',x',m'⟩:=S h' _ P hs;exact{O,H',I',h O H' u ((B.trans L).trans x').toD (((U.ext B).ext L).ext x') m' {o,rfl,ho,x'.obs _ _ F}}
   ·exact h.elim
def vN {c:Int}{rest:List SH}(hc:c=77\/c=78)(hd:hJ fa)
 (S:fB X own bn scope) (Y:X.calm=true) (hi:DI fa X tg iter gw) (B:Block fa X xq own bn scope tg t W body g) (hT:∀(it a:Addr) (env:R1),compTurn (.DictComp kx vx ({tg,iter,ifs,0}::rest) scope pos) 0 (.ref it) (.ref a) env=(standAt iter.pos >>= λ_=>pyNext (.ref it) >>= λr=>match r with
  |none=>pure (.done .next)
  |some v=>letOwnedTupleGo tg (.ref it) v >>= λ_=>assign tg env v >>= λ_=>body a env >>= λ_=>again (.compLoop (.DictComp kx vx ({tg,iter,ifs,0}::rest) scope pos) 0 (.ref it) (.ref a) env))) (hW:∀i∈W,i∉slots t) (hn:∀i∈slots t++W,i<own.length)
 (hs:∀x,foldedSetIterable iter X.env x=pure x)
 (I:Inv X pins σ H s) (hE:a8 fa X.K μ H σ Z) (hM:RelM fa X.K μ H M) (h:ae (kC c own.length t gw g Z M) (aW fa X.K μ H Q))
 (post:∀(a C:Addr) (s':QC) (E:Hp),Inv X pins σ E s'->Q (.ref a) E->(∃m,s'.heap.Ns C m)->(∀σ2 F s2,Inv X pins σ2 F s2->(E C=none->F C=none)->F C=none/\∀U,R5 C s2.heap U->Inv X pins σ2 F {s2 with heap:=U})->E C=none->(C≠X.env.locals/\∀x c,X.env.cells.lookup x=some c->c≠C)->compPost (model X.prog X.w) X.A X.xe use QQ (.ref a) C (.ok .next) s') :
 wpAny (model X.prog X.w) X.A (comprehension (.DictComp kx vx ({tg,iter,ifs,0}::rest) scope pos) scope X.env p0 newDict false (eval iter X.env) use) QQ X.xe s:=by
 obtain⟨w,M1,ew,q⟩:=aC h;obtain⟨acc,M2,ea,q2⟩:=aC q;obtain⟨cl,hcl,R,P⟩:=qb λy hy hf=>I.ok.has y.1 (S.free y hy hf);refine wpAny_comprehension_free rfl hs hcl S.kind S.loc ?_;refine aO (hi pins s σ H (λJ H1=>∃L,Ext μ H L H1/\RelM fa X.K L H1 M1/\dC fa X.K L H1 w J) I {μ,Z,M,hE,hM,?_}) λv s1 h1=>aO h1 λitv s2 h2=>?_
 ·rw[ew];exact λJ H1 L x1 m1 wk=>⟨L,x1,m1,wk⟩
 obtain⟨it,fp,tn,J,F,ei,I2,T,st2,f2,μ2,x2,m2,wk⟩:=h2;subst ei;refine tqa (wpAny_alloc (tqb ?_));have j:sysModules<s2.heap.objs.size:=Nat.lt_trans `d (I2.mod.glob.keeps I2.bk).lt
 have ha:=I2.hok.fresh (QA _);have I3:Inv X pins σ (upd F s2.heap.objs.size (.dn [])) {s2 with heap:=s2.heap.push {cls:=.type "dict",data:=.dict #[]}}:=
  I2.laid (λb o e=>Qu _ e) (QA _) {RU _,RC.mpr (RF (Q1 j)),_,QU _ rfl,⟨rfl,rfl,rfl⟩,rfl}
 generalize hs3:({s2 with heap:=s2.heap.push {cls:=.type "dict",data:=.dict #[]}}:QC)=s3 at I3 ⊢
 have k3:∀b o,s2.heap.get? b=some o->s3.heap.get? b=some o:=λb o e=>by rw[<- hs3];exact Qu _ e
 have fo2:=T.obj _ _ st2;have f3:∀b∈fp,fz X pins (upd F s2.heap.objs.size (.dn [])) b:=λb j=>by
  obtain⟨o,e,_⟩:=fo2 b j;exact{by rw[av (Q1 (QO e))];exact(f2 b j).1,(f2 b j).2}
 have fo3:∀b∈fp,∃o,s3.heap.get? b=some o:=λb j=>let{o,e,_}:=fo2 b j;{o,k3 b o e}
 obtain⟨CL,hce⟩:=Fg S R P (s3.heap.push {cls:=.type "dict",data:=.dict #[]}) (R3 ..);generalize O:cellsFrom (s3.heap.objs.size+1) scope.names cl=cl' at CL hce;refine si ?_;rw[O];have u:(pushCells (s3.heap.push {cls:=.type "dict",data:=.dict #[]}) scope.names).Ns s3.heap.objs.size (λ_=>none):=(Heap.Ns.new s3.heap (.type "dict")).keeps (pushCells_keeps _ _);have k4:∀b o,s3.heap.get? b=some o->(pushCells (s3.heap.push {cls:=.type "dict",data:=.dict #[]}) scope.names).get? b=some o:=λb o e=>pushCells_keeps _ _ b o (Qu _ e);generalize pushCells (s3.heap.push {cls:=.type "dict",data:=.dict #[]}) scope.names=h₁ at u k4 hce ⊢;clear hcl O R P cl
 rename List (Str×Addr)=>cl
 have I4:=vb (t':=s3.toks) I3 S CL f3 fo3 u k4 hce;have ok4:=I4.ok;have f4:∀b∈fp,fz (fU X own bn scope cl s3.heap.objs.size fp s3 (upd F s2.heap.objs.size (.dn []))) [] (upd F s2.heap.objs.size (.dn [])) b:=λb j=>
  {(f3 b j).1,(ok4.exf b j).1,ok4.exfs b j,.inl j,(ok4.exf b j).2,λp hp=>nomatch hp}
 have st4:=T.keep _ _ _ st2 λb j o e=>k4 b o (k3 b o e);have x3:=Ext.dicNew m2 ha;have m3:=m2.dicNew ha hc;have go:=rf xq.stab (X:=fU X own bn scope cl s3.heap.objs.size fp s3 (upd F s2.heap.objs.size (.dn []))) (acc:=[.fn (aj M1.length)]) (Q:=λ_ E=>Q (.ref s2.heap.objs.size) E) (hT it s2.heap.objs.size _) ⟨rfl,rfl⟩ rfl Y T (B.pg _ _ _ _ _) (B.db _ _ _ _ _ _) hW I4 st4 f4
  (ua own.length ((hE.ext x2).ext x3)) m3 (so hn) {_,rfl,RJ _ _,if_pos rfl} (rE wk x3.toExtW) (by
   rw[ea];rintro σ' E μ' z1 z2 z3 ⟨o,rfl,ho,hob⟩;have z:Ext _ _ μ' E:={z1.toExtW,z1.pr,λb j=>z1.pk b j λe=>by
    obtain⟨⟨vs,q⟩,_⟩:=m2.pv b j;rw[e,ha] at q;cases q}
   exact q2 (.ref s2.heap.objs.size) E μ' ((x2.trans x3).trans z) z3 {_,rfl,.inr {hd.of _ ho,hob}})
 have go':codeAny (model X.prog X.w) X.A (.compLoop (.DictComp kx vx ({tg,iter,ifs,0}::rest) scope pos) 0 (.ref it) (.ref s2.heap.objs.size) (compEnvC scope cl s3.heap.objs.size X.env)) (compPost (model X.prog X.w) X.A X.xe use QQ (.ref s2.heap.objs.size) s3.heap.objs.size) {s3 with heap:=h₁}:=
  codeAny_mono go λr s' ⟨er,σ',E,I',z⟩=>by
   subst er;refine post _ _ s' E (comp_back I3 f3 I') z (let{m,hn,_}:=I'.loc;⟨m,hn⟩) (λσ2 F s2' I2' hf=>{hf I'.free,λU hs''=>sm I3 (hf I'.free) I2' hs''}) I'.free {Rn I3.lt,λx c e z=>by
    obtain⟨v,q⟩:=I3.cell x c e;exact absurd q.lt (by rw[z];exact RM _)}
 exact codeAny_compStart_dict go' (T.self _ 0 _ _ _ st4 go')
def Ib {c:Int}{z y E j:Expr}{pos:Pos}(hc:c=77\/c=78)(hd:hJ fa)
 (S:fB X own bn scope) (u:X.calm=true) (hi:DI fa X E j gw) (B:Block fa X xq own bn scope E t [] (λa env=>eval z env >>= λJ=>holding [J] (eval y env) >>= λP=>standAt {z.pos with endLine:=y.pos.endLine,endCol:=y.pos.endCol} >>= λ_=>holding [J,P] (dictSet a J P)) (jS gk gv)) (hn:∀i∈slots t++[],i<own.length)
 (hs:∀x,foldedSetIterable j X.env x=pure x):DE fa X (.DictComp z y [{E,j,[],0}] scope pos) (kC c own.length t gw (jS gk gv)):=by
 intro O s σ H Q I ⟨μ,Z,M,W,Y,h⟩;refine vN hc hd S u hi B (λit a env=>BX z y E j scope pos (.ref it) a env) (λ_ h=>nomatch h) hn hs I W Y h ?_;intro a C s' L R q ⟨m,hn⟩ v hf _;exact{m,hn,λU F=>{.ref a,L,(v σ L s' R id).2 U F,rfl,q}}
end
def Dy (hh:A.in1.handled=none)(S:p≠I)(Y:Nat->Bool)(G:Heap->Prop)(J:∀h u,G h->(∀b o,b∉[I]->h.get? b=some o->u.get? b=some o)->G u)
 (U:∀i v (s:QC) (Q:Bool->QC->Prop) (E:Qt->QC->Prop),items[i]?=some v->G s.heap->(∀t,Q (Y i) {s with toks:=t})->wpAny (model prog w) A.in1 (truthy v) Q E s):∀(k i:Nat) (s:QC),items.size-i=k->i<=items.size->(s.heap.IsListIter I p i/\s.heap.IsList p items)->G s.heap->
 (∀u tk,G u->R (.ok (.ret (.bool (((List.range items.size).drop i).any Y)))) {s with heap:=u,toks:=tk})->codeAny (model prog w) A (.builtin "any.loop" {[.ref I],[]}) R s:=by
 have W:=Walks.list (prog:=prog) (w:=w) hh I p S items;intro k;induction k with
 | zero=>
   intro i s hk hi z g L;have P:i=items.size:=`a
   subst P;refine codeAny_builtin F.entry_any_loop ?_;rw[Around.under_plainId F.plain_any_loop _];refine tqa (W.done s _ _ z λu tk j=>?_);refine tqa (wpAny_rule (tqb ?_));have:=L u tk (J _ _ g j);rw[List.drop_of_length_le `s] at this
   exact this
 | succ k ih=>
   intro i s hk hi z g L;have y:i<items.size:=`a
   have hd:(List.range items.size).drop i=i::(List.range items.size).drop (i+1):=by
    rw[List.drop_eq_getElem_cons (by simpa using y)];simp
   refine codeAny_builtin F.entry_any_loop ?_;rw[Around.under_plainId F.plain_any_loop _];refine tqa (W.item i s _ _ y z λv u tk hP B j=>?_);refine tqa (tqo (U i v _ _ _ hP (J _ _ g j) λt=>?_));refine tqa (wpAny_letGo ?_);cases hb:Y i with
   | false=>
     refine tqb {plainId_quiet F.plain_any_loop _,ih (i+1) _ `a y B (J _ _ g j) λO H M=>?_}
     have:=L O H M;rw[hd,List.any_cons,hb,Bool.false_or] at this;exact this
   | true=>
     refine tqa (wpAny_rule (tqb ?_));have:=L u t (J _ _ g j);rw[hd,List.any_cons,hb,Bool.true_or] at this;exact this
def range_any (bs:List Bool):((List.range bs.length).any λi=>(bs[i]?).getD false)=bs.any id:=by
 rw[RT,R8,R8];constructor
 ·rintro⟨i,_,e⟩;cases z:bs[i]? with
  |none=>rw[z] at e;cases e
  |some b=>rw[z] at e;exact{b,Q0 z,e}
 ·rintro⟨b,j,e⟩;obtain⟨i,h⟩:=List.getElem?_of_mem j;exact{i,So.mpr (Qs.mp h).1,by rw[h];exact e}
def oq (M:Mem):D->Option Bool
 |.bl b=>some b
 |d=>(ff M d).map λxs=>!xs.isEmpty
def BY (h:oq M d=some b):d=.bl b\/∃xs,ff M d=some xs/\b=!xs.isEmpty:=by
 cases d with
 |bl c=>cases h;exact .inl rfl
 | _=>
   simp only[oq] at h;obtain⟨xs,e1,e2⟩:=QG.mp h;exact .inr ⟨xs,e1,e2.symm⟩
def jG (M:Mem):List D->Option (List Bool)
 |[]=>some []
 |d::r=>(oq M d).bind λb=>(jG M r).map (b::·)
theorem tD:∀{ds:List D}{bs:List Bool},jG M ds=some bs->bs.length=ds.length/\∀(i:Nat) d,ds[i]?=some d->∃b,bs[i]?=some b/\oq M d=some b
 |[],_,h=>by cases h;exact{rfl,λ_ _ e=>by simp at e}
 | d::ds,_,h=>by
   obtain⟨b,e,h⟩:=QT.mp h;obtain⟨bs,e2,rfl⟩:=QG.mp h;obtain⟨h1,h2⟩:=tD e2;refine{by simp[h1],λi j z=>?_}
   cases i with
   |zero=>cases z;exact⟨b,rfl,e⟩
   |succ i=>exact h2 i j z
def qU (a:GE):GE:=λj M=>(a j M).bind λx M=>match ff M x with
 | some h=>(match jG M h with
   |some bs=>.ok (.bl (bs.any id)) M
   |none=>.bad)
 |none=>.bad
section
variable{fa:Fa}{X:Cx}{a:Expr}{ga:GE}{p pos:Pos}
def Ni:b4 X (.builtin "any") (λxs H Q=>∃μ M ds bs p vs,xs=[.ref p]/\X.calm=true/\RelM fa X.K μ H M/\cF X.K H p vs/\aD fa X.K μ H ds vs/\jG M ds=some bs/\Q (.bl (bs.any id)) H):=by
 intro y s σ H xs us Q I r h;obtain⟨μ,M,ds,bs,p,vs,rfl,hc,hM,hq,rl,eb,q⟩:=h;obtain⟨u,rfl,rx⟩:=vals1 r;cases rx;obtain⟨j,S,pl,hz⟩:=I.list hq;obtain⟨hl,hb⟩:=tD eb;have P:=pl.lt;refine call_function_tree F.kind_any F.plain_any F.entry_any (F.args_any1 _) ?_;refine tqa (tqb ?_);refine tqa (wpAny_pyIter_list pl.isList ?_);refine tqb {plainId_quiet F.plain_any_loop _,Dy (I.ok.hd hc) (Q1 P) (λi=>(bs[i]?).getD false) (λh=>∀b o,s.heap.get? b=some o->h.get? b=some o) (λh h' g k b o e=>k b o (λz=>by rw[QN.mp z] at e;exact absurd (QO e) (RM _)) (g b o e)) ?_ j.toArray.size 0 _ rfl (RU _) {{_,QU _ rfl,rfl,rfl},pl.isList.push _} (λb o e=>Qu _ e) λh' tk g=>?_}
 ·intro i v s' Q' E' e g O;have e:j[i]?=some v:=by simpa using e
  have Y:i<vs.length:=by rw[S.length];exact(Qs.mp e).1
  obtain⟨d,ed,rd⟩:=rl.getV (QM Y);obtain⟨u,W,E⟩:=S.get (QM Y);rw[e] at W;cases W;obtain⟨b,e1,e2⟩:=hb i d ed;rw[e1] at O;have list:∀xs,ff M d=some xs->b=!xs.isEmpty->wpAny (model X.prog X.w) X.A.in1 (truthy v) Q' E' s':=λxs J L=>by
   obtain⟨a,ws,ev,hw,U⟩:=bw hM rd J;rw[ev] at E;obtain rfl:=(E);have I':Inv X y σ H {s with heap:=s'.heap,toks:=s.toks}:=I.kept g
   obtain⟨its',B,R,hz'⟩:=I'.list hw;have hlen:=B.length;have hs:=sizeLine_eq;refine wpAny_truthy_list R.isList (by simp only[QE];omega) ?_
   rw[lq B,show ws.isEmpty=xs.isEmpty by rw[RT,List.isEmpty_iff_length_eq_zero,List.isEmpty_iff_length_eq_zero,U.length],<- L]
   exact O _
  rcases BY e2 with rfl|⟨xs,J,L⟩
  ·rw[show vs[i]=V.bl b from rd] at E;obtain rfl:=(E);exact tqp (O _)
  ·exact list xs J L
 ·rw[List.drop_zero,QE,<- S.length,rl.length,<- hl,range_any];exact{.bl _,H,I.kept g,rfl,q}
def NM (J:X.calm=true)(L:Gl X "any")(hm:X.mg "any"=none)(I:DE fa X a ga)(he:notStar a=true):DE fa X (.Call (.Name "any" p) [a] [] pos) (qU ga):=
 a9 (gm (Ni) L hm `k (bC I cY (by rw[bf he])) `d `d (by rw[bf he]) `r) λY H Q ⟨U,W,M,B,F,h⟩=>t1 B F h λx u v S y R E j r1 h1=>by
  cases e:ff u x with
  |none=>rw[e] at h1;exact h1.elim
  | some z=>
    rw[e] at h1;dsimp only at h1;cases e2:jG u z with
    |none=>rw[e2] at h1;exact h1.elim
    | some bs=>
      rw[e2] at h1;obtain⟨a,P,rfl,O,r⟩:=bw j r1 e;exact{y,u,z,bs,a,P,rfl,J,j,O,r,e2,aQ j (aW.ext h1 R) rfl}
end
def wR (c:Int)(gk gv:GE):GE:=λj M=>(gk j (M++[[.int c]])).bind λk u=>(gv j u).bind λv h=>match cJ h (aj M.length) with
 |some q=>if isKey q.1 k=true/\q.2.length<1000000 then .ok (.fn (aj M.length)) (h.set (aj M.length-5000) (.int q.1::putD q.2 k v)) else .bad
 |none=>.bad
section
variable{fa:Fa}{X:Cx}{kx vx:Expr}{gk gv:GE}{pos:Pos}
set_option tactic.hygienic true in
def Ia (c:Int)(hc:c=77\/c=78)(hu:Rm X)(hd:hJ fa)(hk:DE fa X kx gk)(hv:DE fa X vx gv):DE fa X (.Dict [some kx] [vx] pos) (wR c gk gv):=by
 intro u s W H Q I ⟨μ,Z,M,hE,hM,h⟩;obtain⟨k,M1,e1,h⟩:=aC h;obtain⟨v,M2,e2,h⟩:=aC h;cases L:cJ M2 (aj M.length) with
 |none=>rw[L] at h;exact h.elim
 | some q=>
   rw[L] at h;dsimp only at h;split at h
   ·next cc=>
    have hb:sysModules<s.heap.objs.size:=Nat.lt_trans `d (I.mod.glob.keeps I.bk).lt
    have ha:=I.hok.fresh (QA _);have I0:Inv X u W (upd H s.heap.objs.size (.dn [])) {s with heap:=s.heap.push {cls:=.type "dict",data:=.dict #[]}}:=
     I.laid (λb o e=>Qu _ e) (QA _) {RU _,RC.mpr (RF (Q1 hb)),_,QU _ rfl,⟨rfl,rfl,rfl⟩,rfl}
    have S:=Ext.dicNew hM ha;have m0:=hM.dicNew ha hc;have P:(fi μ M.length s.heap.objs.size).ob (aj M.length)=some s.heap.objs.size:=if_pos rfl;refine wpAny_Dict_any rfl rfl `s (Q9 rfl) ?_
    refine tqa (aO (hk u _ W _ (λv z=>∃j,Ext (fi μ M.length s.heap.objs.size) (upd H s.heap.objs.size (.dn [])) j z/\RelM fa X.K j z M1/\Rep fa X.K j z k v) I0 {_,Z,_,hE.ext S,m0,?_}) λuk s1 ⟨wk,z,I1,rk,j,B,n1,r1⟩=>?_)
    ·rw[e1];exact λv z j B R r1=>⟨j,B,R,r1⟩
    refine tqa (tqo (tqa (aO (hv u s1 W z (λw F=>∃y,Ext j z y F/\RelM fa X.K y F M2/\Rep fa X.K y F v w) I1 {j,Z,M1,(hE.ext S).ext B,n1,?_}) λuv s2 ⟨wv,F,I2,rv,y,U,m2,r2⟩=>?_)))
    ·rw[e2];exact λv z j B R r1=>⟨j,B,R,r1⟩
    refine tqa (wpAny_standAt (tqb ?_));refine tqa (tqo (tqb (tqb ?_)));have E:=U.obs _ _ (B.obs _ _ P);obtain⟨a',b,kd,kk,xs,ea,rfl,hi,hz,dd,O⟩:=q8 hd I2 m2 {_,rfl,.inr {hd.of _ (RJ _ _),E}} (r1.ext U) rk rv r2 L cc.1 cc.2;cases ea;unfold storeAll;rw[List.forIn_cons];refine tqa (tqa (lH (hsz:=hz) (kd.room0 hu) hi dd λh' J hs=>tqb ?_));obtain⟨Y,I',x',m'⟩:=O h' _ J hs;refine tqb {.ref s.heap.objs.size,Y,I',rfl,h _ Y y (((S.trans B).trans U).trans x') m' {_,rfl,.inr {hd.of _ (RJ _ _),x'.obs _ _ E}}}
   ·exact h.elim
end
section
variable{fa:Fa}{X:Cx}{a tg iter:Expr}{ga:GE}{gw:GW}{apos cpos:Pos}
def ni (a d:GE):GS:=λh M=>(a h M).bind λx M=>match x with
 | .cell k=>qp (λz M=>match M[k]? with
   |some j=>if j.length<sz then .ok (.next h) (M.set k (j++[z])) else .bad
   |none=>.bad) h (d h M)
 |_=>.bad
set_option tactic.hygienic true in
def HN (ha:DE fa X a ga)(hd:DX fa X d gd)(j:attributeBase a "append" X.env (eval a X.env)=eval a X.env)(u:(apos.endLine==cpos.line)=true)(hs:starEach [d] X.env=[(false,eval d X.env)])
 (R:swapsWith (.Call (.Attribute a "append" apos) [d] [] cpos) none pos.line X.env=pure false) :
 DS fa X (.Expr (.Call (.Attribute a "append" apos) [d] [] cpos) pos) (ni ga gd):=
 dh (nj (sU Se PySem.F.slot_list_append PySem.F.type_list_append my ha (bC hd cY hs) j (by rw[hs];rfl) u hs `r) R) λD' σ H ⟨μ,L,M,P,hM,h⟩=>by
  obtain⟨x,M1,e1,h1⟩:=aC h;cases x with
  | cell k=>
    refine{μ,L,M,P,hM,?_};rw[e1];intro vx H1 W I v rx;obtain⟨ad,rfl,hk⟩:=rx;obtain⟨ds1,S,_,Q,_⟩:=v.mu_lt hk;refine{.inl {rfl,S,cF.of Q},W,L,M1,P.ext I,v,?_};cases e2:gd L M1 with
    |bad=>rw[e2] at h1;exact h1.elim
    | err y E=>
      rw[e2] at h1;exact XW.ext h1 I
    | ok z E=>
      rw[e2] at h1;have h2:ae (match E[k]? with|some O=>if O.length<sz then Res.ok (Fl.next L) (E.set k (O++[z])) else .bad|none=>.bad) (mZ fa X μ H D'):=h1
      cases e:E[k]? with
      |none=>rw[e] at h2;exact h2.elim
      | some O=>
        rw[e] at h2;dsimp only at h2;split at h2
        ·next hz=>
         have q:=h2;intro vz H2 μ2 J B rz;obtain⟨ws,h4,h5⟩:=B.at_ e (J.mu k ad hk);refine{ad,ws,vz,rfl,rfl,h4,by rw[h5.length,<- dE];exact hz,?_}
         exact l7 ((P.ext I).ext J) B (J.mu k ad hk) (h5.append (.one rz)) λY H' U x' e' m'=>q Y H' U ((I.trans J).trans x') e' m'
        ·exact h2.elim
  |_=>exact h1.elim
end
end LD
namespace LD
open PySem
def ob {α β:Type}{a:Option α}{f:α->Option β}{r:β}(h:a.bind f=some r):∃x,a=some x/\f x=some r:=QT.mp h
def oi {α:Type}{c:Prop}[Decidable c]{a:Option α}{r:α}(h:(if c then a else none)=some r):c/\a=some r:=by
 split at h
 ·exact{by assumption,h}
 ·cases h
section
variable{β:Type}{r:β}{e:Expr}{st:Stmt}
def od {c:Prop}[Decidable c]{f:c->Option β}(h:(if x:c then f x else none)=some r):∃x,f x=some r:=by
 by_cases z:c
 ·rw[dif_pos z] at h;exact⟨z,h⟩
 ·rw[dif_neg z] at h;cases h
local macro_rules|`(command|#check $n:ident $a*)=>do
 let m:=a[0]!.raw;let c:Lean.TSyntax `ident:=⟨a[1]!.raw⟩;let v:Array (Lean.TSyntax `ident):=(a.extract 3 a.size).map λx=>⟨x.raw⟩;let f:=Lean.mkIdentFrom c (c.getId++`elim)
 `(noncomputable def $n {β:Type} e:=λg=>if h:e.ctorIdx=$(⟨a[2]!.raw⟩) then @$f (λ_=>Option β) e h g else none
 theorem $(⟨m⟩) {β:Type}{e}{g}{y:β}(h:$n e g=some y):∃$[$v:ident]*,e=$c $v*∧g $v*=some y:=(od h).elim λz h=>@$f (λe=>∀z,@$f (λ_=>Option β) e z g=some y→∃$[$v:ident]*,e=$c $v*∧g $v*=some y) e z (λ$v* _ h=>by exact⟨$v,*,rfl,h⟩) z h)
#check Oa Ar Expr.UnaryOp 3 a b c
#check EC uy Expr.BoolOp 0 a b c
#check Ob As Expr.ListComp 8 a b c d
#check Kt wy Expr.IfExp 5 a b c d
#check Kw qJ Expr.Compare 15 a b c d
#check pN ji Expr.Call 16 a b c d
#check O1 Hj Expr.FormattedValue 17 a b c d
#check O0 Hi Expr.JoinedStr 18 a b
#check CQ qI Expr.Constant 19 a b c
#check nt h9 Expr.Attribute 20 a b c
#check qH i5 Expr.Subscript 21 a b c
#check nName cu Expr.Name 23 a b
#check qG gx Expr.Tuple 25 a b c
#check OY Hg Expr.Slice 26 a b c d
#check t8 ke Stmt.Assign 5 a b c
#check OO GJ Stmt.Raise 16 a b c
#check N6 zV Stmt.Try 17 a b c d f
#check Cm qw Stmt.Expr 24 a b
#check O2 Hk Expr.BinOp 2 a b c d
#check OZ Hh Expr.List 24 a b
#check sRt JE Stmt.Return 3 a b
#check sFr JH Stmt.For 9 a b c d f
#check sIf JG Stmt.If 12 a b c d
#check sPs JF Stmt.Pass 25 a
variable{α:Type}{l:List α}
noncomputable def n0 (l:List α)(v:Option β):Option β:=if l.isEmpty=true then v else none
def di {v:Option β}(h:n0 l v=some r):l=[]/\v=some r:=(oi h).elim λc h=>{List.isEmpty_iff.mp c,h}
noncomputable def nC (l:List α)(k:α->List α->Option β):Option β:=match l with
 |[]=>none
 |a::s=>k a s
def gQ {k:α->List α->Option β}(h:nC l k=some r):∃a s,l=a::s/\k a s=some r:=by
 cases l with
 |nil=>cases h
 |cons a s=>exact⟨a,s,rfl,h⟩
def n1 (l:List α)(k:α->Option β):Option β:=nC l λa s=>n0 s (k a)
def cv {k:α->Option β}(h:n1 l k=some r):∃a,l=[a]/\k a=some r:=by
 obtain⟨a,s,rfl,h⟩:=gQ h;obtain⟨rfl,h⟩:=di h;exact⟨a,rfl,h⟩
def n2 (l:List α)(k:α->α->Option β):Option β:=nC l λa s=>n1 s (k a)
def ir {k:α->α->Option β}(h:n2 l k=some r):∃a b,l=[a,b]/\k a b=some r:=by
 obtain⟨a,s,rfl,h⟩:=gQ h;obtain⟨b,rfl,h⟩:=cv h;exact⟨a,b,rfl,h⟩
def CN (e:Expr)(k:Str->Option β):Option β:=CQ e λc _ _=>match c with
 |.str z=>k z
 |_=>none
def wx {k:Str->Option β}(h:CN e k=some r):∃z i p,e=.Constant (.str z) i p/\k z=some r:=by
 obtain⟨c,i,p,rfl,h⟩:=qI h;cases c with
 |str z=>exact⟨z,i,p,rfl,h⟩
 |_=>cases h
def EA (e:Expr)(v:Option β):Option β:=CQ e λc _ _=>match c with
 |.bool b=>if b=true then v else none
 |_=>none
def CM {v:Option β}(h:EA e v=some r):∃i p,e=.Constant (.bool true) i p/\v=some r:=by
 obtain⟨c,i,p,rfl,h⟩:=qI h;cases c with
 |bool b=>obtain⟨rfl,k⟩:=oi h;exact⟨i,p,rfl,k⟩
 |_=>cases h
def Oc (e:Expr)(k:Expr->Option β):Option β:=O1 e λa i s _=>if i=-1/\s.isNone=true then k a else none
def Ku {k:Expr->Option β}(h:Oc e k=some r):∃a p,e=.FormattedValue a (-1) none p/\k a=some r:=by
 obtain⟨a,i,s,p,rfl,h⟩:=Hj h;obtain⟨⟨rfl,c⟩,k⟩:=oi h;rw[SO.mp c];exact⟨a,p,rfl,k⟩
noncomputable def nG (c:SH)(k:Expr->Expr->List Expr->Option β):Option β:=if c.is_async=0 then k c.target c.iter c.ifs else none
def sV {c:SH}{k:Expr->Expr->List Expr->Option β}(h:nG c k=some r):∃t i f,c={t,i,f,0}/\k t i f=some r:=by
 obtain⟨z,h⟩:=oi h;cases c;cases z;exact{_,_,_,rfl,h}
def mx (e:Expr)(k:Str->List Expr->Pos->Option β):Option β:=pN e λf es ks p=>nName f λx _=>n0 ks (k x es p)
def fR {k:Str->List Expr->Pos->Option β}(h:mx e k=some r):∃x q es p,e=.Call (.Name x q) es [] p/\k x es p=some r:=by
 obtain⟨f,es,ks,p,rfl,h⟩:=ji h;obtain⟨x,q,rfl,h⟩:=cu h;obtain⟨rfl,h⟩:=di h;exact⟨x,q,es,p,rfl,h⟩
def EB (e:Expr)(k:Expr->Str->Expr->Bool->Option β):Option β:=pN e λf es ks p=>nt f λa m q=>n0 ks (n1 es λd=>k a m d (q.endLine==p.line))
def ux {k:Expr->Str->Expr->Bool->Option β}(h:EB e k=some r):∃a m q d p,e=.Call (.Attribute a m q) [d] [] p/\k a m d (q.endLine==p.line)=some r:=by
 obtain⟨f,es,ks,p,rfl,h⟩:=ji h;obtain⟨a,m,q,rfl,h⟩:=h9 h;obtain⟨rfl,h⟩:=di h;obtain⟨d,rfl,h⟩:=cv h;exact⟨a,m,q,d,p,rfl,h⟩
def bX {a b:Option β}(h:a.or b=some r):a=some r\/b=some r:=by
 cases a with
 |none=>exact .inr h
 |some x=>exact .inl h
end
end LD
namespace LD
open PySem PySem.Spec PyProof.Rows L2
inductive En where
 |fn (i:Nat) (r:Bool)|fnD (i:Nat)|int (i:Int)|str (z:Str)|dct (fs:List (Str×Nat))|xc (k:Nat)|xi (k:Nat)|xk (k:Nat)|de|bl|cls (c f:Nat)
structure Fv (fa:Fa) (P:Rv) (w:Rf) (K:Qr) (mg:Str->Option Qt) (base:Heap) (T:List (Str×En)):Prop where
 fn:∀{x:Str}{i:Nat}{r:Bool},T.lookup x=some (.fn i r)->∀ad,fa i=some ad->mg x=some (.ref ad)
 fnD:∀{x:Str}{i:Nat},T.lookup x=some (.fnD i)->(∀ad,fa i=some ad->mg x=some (.ref ad))/\(fa (500+i)).isSome=true
 int:∀{x:Str}{i:Int},T.lookup x=some (.int i)->∃t,mg x=some (.int i t)
 str:∀{x:Str}{z:Str},T.lookup x=some (.str z)->∃t,mg x=some (.str z t)
 dct:∀{x:Str}{fs:List (Str×Nat)},T.lookup x=some (.dct fs)->∃ad kvs,mg x=some (.ref ad)/\fH K w.params ad kvs/\eB fa kvs fs
 xc:∀{x:Str}{k:Nat},T.lookup x=some (.xc k)->∃C,mg x=some (.ref C)/\fa (eY k)=some C/\PySem.W.excIn K C Bg "ValueError.__new__"=true/\PySem.W.keepIn K (.ref C)=true
 xi:∀{x:Str}{k:Nat},T.lookup x=some (.xi k)->Bs fa P w K mg base k x/\∃D,mg x=some (.ref D)/\fa (eY k)=some D
 xk:∀{x:Str}{k:Nat},T.lookup x=some (.xk k)->∃D,mg x=some (.ref D)/\fa (eY k)=some D
 de:∀{x:Str},T.lookup x=some .de->∃D,mg x=some (.ref D)/\fa 999=some D
 bl:∀{x:Str},T.lookup x=some .bl->mg x=none
 xcs:om fa K
 ob:Br fa K
 of:∀o,5000<=o->fa o=none
 od:fa (fg 77)=none/\fa (fg 78)=none
 cls:∀{x:Str}{c f:Nat},T.lookup x=some (.cls c f)->∃C,mg x=some (.ref C)/\fa (fg c)=some C/\∀ad,fa f=some ad->Mk K C ad
structure G where
 T:List (Str×En)
 tw:List (Str×Str×Nat×Nat)
 xf:List Str
 cel:List (Nat×Nat×Nat)
 txt:List (Nat×Nat×Nat)
 ms:List (Str×Nat×Nat)
 c:Call
 N:List Str
 sc:Scope
 lv:Nat
 oc:List Str:=[]
structure dH (fa:Fa) (n:Nat) (g:G) (X:Cx):Prop where
 N:X.N=g.N
 nd:g.N.Nodup
 sc:X.env.scope=g.sc
 T:Fv fa X.prog X.w X.K X.mg X.base g.T
 tw:∀q∈g.tw,xn fa X.K X.mg q.1 q.2.1 q.2.2.1 q.2.2.2
 xf:∀f∈g.xf,Ft fa X.K f
 ms:∀q∈g.ms,qo fa X.K q.1 q.2.1 q.2.2
 fn:g.lv≠1->∀x,X.fn x=true
 oc:∀x∈g.oc,X.fn x=true
 calm:0<g.lv->X.calm=true
 C:0<g.lv->∀f,dZ fa X.prog X.w X.K X.mg X.base n f (g.c f)
 hr:0<g.lv->bP (2*n+4+1) X.A
 top:2<=g.lv->X.ex=[]/\X.stack=X.env::X.outer/\X.env.frame=some X.env.locals/\X.env.scope.kind=.function
 po:g.lv=2->PassesOwn (model X.prog X.w) X.A X.env X.xe
structure Rc where
 e:G->Expr->Option GE
 t:G->Expr->Option GT
 x:G->Expr->Option GE
 w:G->Expr->Expr->Option GW
 s:G->Stmt->Option GS
abbrev cT:=Rc->G->Expr->Option GE
abbrev Fw:=Rc->G->Expr->Option GT
abbrev vB:=Rc->G->Expr->Expr->Option GW
abbrev jz:=Rc->G->Stmt->Option GS
structure iO (fa:Fa) (n:Nat) (R:Rc):Prop where
 e:∀{g:G}{X:Cx}{a:Expr}{ga:GE},dH fa n g X->R.e g a=some ga->DE fa X a ga
 t:∀{g:G}{X:Cx}{a:Expr}{ga:GT},dH fa n g X->R.t g a=some ga->DT fa X a ga
 x:∀{g:G}{X:Cx}{a:Expr}{ga:GE},dH fa n g X->R.x g a=some ga->DX fa X a ga
 w:∀{g:G}{X:Cx}{t a:Expr}{ga:GW},dH fa n g X->R.w g t a=some ga->DI fa X t a ga
 s:∀{g:G}{X:Cx}{a:Stmt}{ga:GS},dH fa n g X->R.s g a=some ga->DS fa X a ga
def SE (r:cT):Prop:=∀{fa:Fa}{n:Nat}{R:Rc},iO fa n R->∀{g:G}{X:Cx},dH fa n g X->∀{a:Expr}{h:GE},r R g a=some h->DE fa X a h
def ST (r:Fw):Prop:=∀{fa:Fa}{n:Nat}{R:Rc},iO fa n R->∀{g:G}{X:Cx},dH fa n g X->∀{a:Expr}{h:GT},r R g a=some h->DT fa X a h
def SX (r:cT):Prop:=∀{fa:Fa}{n:Nat}{R:Rc},iO fa n R->∀{g:G}{X:Cx},dH fa n g X->∀{a:Expr}{h:GE},r R g a=some h->DX fa X a h
def SW (r:vB):Prop:=∀{fa:Fa}{n:Nat}{R:Rc},iO fa n R->∀{g:G}{X:Cx},dH fa n g X->∀{t a:Expr}{h:GW},r R g t a=some h->DI fa X t a h
def SS (r:jz):Prop:=∀{fa:Fa}{n:Nat}{R:Rc},iO fa n R->∀{g:G}{X:Cx},dH fa n g X->∀{a:Stmt}{h:GS},r R g a=some h->DS fa X a h
structure Rs where
 e:List cT
 t:List Fw
 x:List cT
 w:List vB
 s:List jz
noncomputable def It (rs:Rs):Nat->Rc
 |0=>{λ_ _=>none,λ_ _=>none,λ_ _=>none,λ_ _ _=>none,λ_ _=>none}
 |n+1=>{λg a=>rs.e.findSome? λr=>r (It rs n) g a,λg a=>rs.t.findSome? λr=>r (It rs n) g a,λg a=>rs.x.findSome? λr=>r (It rs n) g a,λg t a=>rs.w.findSome? λr=>r (It rs n) g t a,λg a=>rs.s.findSome? λr=>r (It rs n) g a}
def AllP {h:Type}(p:h->Prop):List h->Prop
 |[]=>True
 |a::l=>p a/\AllP p l
def AllP.mem {j:Type}{p:j->Prop}:∀{l:List j},AllP p l->∀a∈l,p a
 |_::_,h,a,m=>(Rg.mp m).elim (λe=>e ▸ h.1) (AllP.mem h.2 a)
structure DG (rs:Rs):Prop where
 e:AllP SE rs.e
 t:AllP ST rs.t
 x:AllP SX rs.x
 w:AllP SW rs.w
 s:AllP SS rs.s
theorem FC (h:DG rs):∀k,iO fa n (It rs k)
 |0=>{(λ_ z=>nomatch z),(λ_ z=>nomatch z),(λ_ z=>nomatch z),(λ_ z=>nomatch z),(λ_ z=>nomatch z)}
 | k+1=>by
   have j:=FC (n:=n) (fa:=fa) h k;refine{λo z=>?_,λo z=>?_,λo z=>?_,λo z=>?_,λo z=>?_}
   ·obtain⟨r,m,e⟩:=RZ z;exact h.e.mem r m j o e
   ·obtain⟨r,m,e⟩:=RZ z;exact h.t.mem r m j o e
   ·obtain⟨r,m,e⟩:=RZ z;exact h.x.mem r m j o e
   ·obtain⟨r,m,e⟩:=RZ z;exact h.w.mem r m j o e
   ·obtain⟨r,m,e⟩:=RZ z;exact h.s.mem r m j o e
noncomputable def Ot:Str:="__debug__"
def iB (g:G)(x:Str):Bool:=g.sc.names.lookup x==some .globalImplicit&&!(x==Ot)
def vr (g:G)(x:Str):Option Nat:=if (g.sc.names.lookup x==some .local||g.sc.names.lookup x==some .cell||g.sc.names.lookup x==some .free)&&!(x==Ot)&&!(x==("__classdict__":Str)) then g.N.findIdx? (·==x) else none
section
variable{fa:Fa}{n:Nat}{g:G}{X:Cx}{R:Rc}(o:dH fa n g X)
include o
theorem cw (h:iB g x=true):Gl X x/\(x==("__debug__":Str))=false:=by
 unfold iB at h;rw[Qw,Bool.not_eq_true'] at h;exact{by show X.env.scope.names.lookup x=_;rw[o.sc];exact eq_of_beq h.1,h.2}
theorem sX (h:g.N.findIdx? (·==x)=some i):X.N[i]?=some x:=by
 obtain⟨j,h1,_⟩:=S1.mp h;rw[o.N,QM j,eq_of_beq h1]
theorem D6 (h:vr g x=some i):X.N[i]?=some x/\Bp X.env.scope x/\(x==("__debug__":Str))=false/\(x==("__classdict__":Str))=false:=by
 obtain⟨c,h⟩:=oi h;simp only[Qw,Si,Bool.not_eq_true'] at c;refine{sX o h,?_,c.1.2,c.2};rw[o.sc];rcases c.1.1 with(z|z)|z
 ·exact .inl (eq_of_beq z)
 ·exact .inr (.inl (eq_of_beq z))
 ·exact .inr (.inr (eq_of_beq z))
omit o
theorem dH.rm (o:dH fa n g X)(h:0<g.lv):Rm X:=GK (o.hr h)
end
def cA (f:Expr->Option GE):List Expr->Option GA
 |[]=>some bH
 |a::r=>if notStar a=true then(f a).bind λx=>(cA f r).bind λy=>some (c6 x y) else none
theorem g7 (hf:∀{a:Expr}{j:GE},f a=some j->DE fa X a j):∀{es:List Expr}{u:GA},cA f es=some u->DA fa X es u/\es.all notStar=true
 |[],_,h=>by cases h;exact⟨LN,rfl⟩
 | a::r,_,h=>by
   obtain⟨c,h⟩:=oi h;obtain⟨x,v,h⟩:=ob h;obtain⟨y,z,h⟩:=ob h;cases h;obtain⟨h1,h2⟩:=g7 hf z;exact{H8 (hf v) h1 (bf c),by rw[RB,c,h2];rfl}
noncomputable def vp (f:Expr->Option GE)(k:GE->GE->GE):List Expr->Option GE
 |[]=>none
 |[a]=>f a
 |a::b::r=>(f a).bind λx=>(vp f k (b::r)).bind λy=>some (k x y)
theorem xl (hf:∀{a:Expr}{j:GE},f a=some j->DE fa X a j):∀{es:List Expr}{ge:GE},vp f fb es=some ge->DE fa X (.BoolOp .And es pos) ge
 |[a],_,h=>Ff (hf h)
 | a::b::r,_,h=>by
   obtain⟨x,u,h⟩:=ob h;obtain⟨y,v,h⟩:=ob h;cases h;exact NN (hf u) (xl hf v)
theorem Bl (hf:∀{a:Expr}{j:GE},f a=some j->DE fa X a j):∀{es:List Expr}{ge:GE},vp f Oo es=some ge->DE fa X (.BoolOp .Or es pos) ge
 |[a],_,h=>Ff (hf h)
 | a::b::r,_,h=>by
   obtain⟨x,u,h⟩:=ob h;obtain⟨y,v,h⟩:=ob h;cases h;exact PF (hf u) (Bl hf v)
noncomputable def tK (f:Expr->Option GT)(k:GT->GT->GT):List Expr->Option GT
 |[]=>none
 |[a]=>f a
 |a::b::r=>(f a).bind λx=>(tK f k (b::r)).bind λy=>some (k x y)
theorem vX (hf:∀{a:Expr}{j:GT},f a=some j->DT fa X a j):∀{es:List Expr}{ge:GT},tK f dI es=some ge->DW fa X (.BoolOp .And es pos) ge
 |[a],_,h=>HI (hf h)
 | a::b::r,_,h=>by
   obtain⟨x,u,h⟩:=ob h;obtain⟨y,v,h⟩:=ob h;cases h;exact Lp (hf u) (vX hf v)
theorem zu (hf:∀{a:Expr}{j:GT},f a=some j->DT fa X a j):∀{es:List Expr}{ge:GT},tK f fJ es=some ge->DW fa X (.BoolOp .Or es pos) ge
 |[a],_,h=>Lo (hf h)
 | a::b::r,_,h=>by
   obtain⟨x,u,h⟩:=ob h;obtain⟨y,v,h⟩:=ob h;cases h;exact Nl (hf u) (zu hf v)
def D8:cT:=λ_ g e=>nName e λx _=>((vr g x).bind λi=>some (aa i)).or (if iB g x=true then(g.T.lookup x).bind fun
 |.int i=>some (gC (.int i))
 |.str i=>some (gC (.str i))
 |_=>none else none)
def BH:SE D8:=by
 intro fa n R y g X o a u h;replace h:=cu h;obtain⟨x,p,rfl,h⟩:=h;rcases bX h with h|h
 ·obtain⟨i,e,h⟩:=ob h;cases h;obtain⟨a,b,c,d⟩:=D6 o e;exact Nt a b c d
 ·obtain⟨c,h⟩:=oi h;obtain⟨j,hd⟩:=cw o c;obtain⟨t,e,h⟩:=ob h;cases t with
  |int i=>cases h;exact GP j (o.T.int e) hd
  |str i=>cases h;obtain⟨t,e⟩:=o.T.str e;exact i6 (v:=.str _) (hZ j e ⟨t,rfl⟩ hd) λ_ _=>rfl
  |_=>cases h
def zh:cT:=λ_ _ e=>CQ e fun
 |.int i,_,_=>some (gC (.int i))
 |.bool i,_,_=>some (gC (.bl i))
 |.str i,_,_=>some (gC (.str i))
 |.none,_,_=>some (gC .non)
 |_,_,_=>none
def zg:SE zh:=by
 intro fa n R u g X o a j h;replace h:=qI h;obtain⟨c,i,p,rfl,h⟩:=h;cases c with
 |int i=>cases h;exact ND
 |bool i=>cases h;exact PH
 |str i=>cases h;exact Nv
 |none=>cases h;exact Nz
 |_=>cases h
noncomputable def G.cl (g:G)(p:Pos):Bool:=g.cel.contains (p.line,p.col,p.endCol)
def G.tx (g:G)(p:Pos):Bool:=g.txt.contains (p.line,p.col,p.endCol)
noncomputable def Fo:Operator->Option oo
 |.Add=>some .add|.Sub=>some .sub|.Mult=>some .mul|.FloorDiv=>some .fdiv|.Mod=>some .mod|.Pow=>some .pow|_=>none
def Dv (h:Fo q=some b):q=binOp b:=by cases q<;>cases h<;>rfl
noncomputable def f7:CmpOp->jZ
 |.Eq=>.eq|.NotEq=>.ne|.Lt=>.lt|.LtE=>.le|.Gt=>.gt|.GtE=>.ge|.Is=>.isN|.IsNot=>.notN|.In=>.isin|.NotIn=>.notin
def cS (q:CmpOp):eQ (f7 q)=q:=by cases q<;>rfl
def IX:cT:=λR g e=>(O2 e λa q b p=>(Fo q).bind λq=>(R.e g a).bind λx=>(R.e g b).bind λy=>some (au (g.cl p) q x y)).or
 ((Oa e λq a _=>match q with
   |.USub=>(R.e g a).bind λx=>some (cH x)
   |.Not=>(R.e g a).bind λx=>some (Px x)
   |_=>none).or
 ((EC e λq h _=>match q with
   |.And=>vp (R.e g) fb h
   |.Or=>vp (R.e g) Oo h).or
 ((Kt e λc a b _=>(R.t g c).bind λt=>(R.e g a).bind λx=>(R.e g b).bind λy=>some (eP t x y)).or
 ((qG e λh _ _=>(cA (R.e g) h).bind λs=>some (bW s)).or (OZ e λh p=>(cA (R.e g) h).bind λs=>some (aT (g.cl p) s))))))
def FZ:SE IX:=by
 intro fa n R j g X o a F h;replace h:=bX h;rcases h with h|h
 ·obtain⟨a,q,b,p,rfl,h⟩:=Hk h;obtain⟨q,B,h⟩:=ob h;obtain⟨x,u,h⟩:=ob h;obtain⟨y,v,h⟩:=ob h;cases h;rw[Dv B];exact NL _ _ (j.e o u) (j.e o v)
 replace h:=bX h;rcases h with h|h
 ·obtain⟨q,a,p,rfl,h⟩:=Ar h;cases q with
  |USub=>obtain⟨x,u,h⟩:=ob h;cases h;exact NA (j.e o u)
  |Not=>obtain⟨x,u,h⟩:=ob h;cases h;exact Ny (j.e o u)
  |_=>cases h
 replace h:=bX h;rcases h with h|h
 ·obtain⟨q,z,p,rfl,h⟩:=uy h;cases q with
  |And=>exact xl (j.e o) h
  |Or=>exact Bl (j.e o) h
 replace h:=bX h;rcases h with h|h
 ·obtain⟨c,a,b,p,rfl,h⟩:=wy h;obtain⟨t,E,h⟩:=ob h;obtain⟨x,u,h⟩:=ob h;obtain⟨y,v,h⟩:=ob h;cases h;exact NC (j.t o E) (j.e o u) (j.e o v)
 replace h:=bX h;rcases h with h|h
 ·obtain⟨z,k,p,rfl,h⟩:=gx h;obtain⟨s,hs,h⟩:=ob h;cases h;exact Nu (g7 (j.e o) hs).1
 ·obtain⟨z,p,rfl,h⟩:=Hh h;obtain⟨s,hs,h⟩:=ob h;cases h;exact NB _ (g7 (j.e o) hs).1
def Dq (g:G)(x:Str):Option (List (Str×Nat)):=if iB g x=true then(match g.T.lookup x with|some (.dct fs)=>some fs|_=>none) else none
set_option tactic.hygienic true in
def u5 (o:dH fa n g X)(h:Dq g x=some fs):(∃ad j,X.mg x=some (.ref ad)/\fH X.K X.w.params ad j/\eB fa j fs)/\Gl X x/\(x==("__debug__":Str))=false:=by
 obtain⟨c,h⟩:=oi h;split at h
 ·next e=>cases h;exact{o.T.dct e,cw o c}
 ·cases h
def Dt (R:Rc)(g:G)(e:Expr):Option GE:=Kw e λa h bs _=>
 (n2 h λq r=>n2 bs λb c=>if 0<g.lv/\behindInMarks r c=false then(R.e g a).bind λy=>(R.e g b).bind λz=>(R.e g c).bind λu=>some (uV (f7 q) (f7 r) y z u) else none).or
 (n1 h λq=>n1 bs λb=>(if f7 q=.notin then nName b λx _=>(Dq g x).bind λfs=>(R.e g a).bind λy=>some (iT fs y) else none).or
  (if 0<g.lv/\behindInMarks q b=false then(R.e g a).bind λy=>(R.e g b).bind λz=>some (aG (f7 q) y z) else none))
def Jc:cT:=Dt
def ur (h:f7 q=.notin):q=.NotIn:=(cS q).symm.trans (congrArg eQ h)
def F5:SE Jc:=by
 intro fa n R j g X o a F h;replace h:=qJ h;obtain⟨a,H,bs,p,rfl,h⟩:=h;replace h:=bX h;rcases h with h|h
 ·replace h:=ir h;obtain⟨q,r,rfl,h⟩:=h;obtain⟨b,d,rfl,h⟩:=ir h;obtain⟨c,h⟩:=oi h;replace h:=ob h;obtain⟨y,v,h⟩:=h;replace h:=ob h;obtain⟨z,B,h⟩:=h;replace h:=ob h;obtain⟨u,E,h⟩:=h;cases h;have:=NJ (o.rm c.1) (f7 q) (f7 r) (j.e o v) (j.e o B) (j.e o E) (by rw[cS,cS];exact c.2) (pos:=p)
  rw[cS,cS] at this;exact this
 replace h:=cv h;obtain⟨q,rfl,h⟩:=h;replace h:=cv h;obtain⟨b,rfl,h⟩:=h;replace h:=bX h;rcases h with h|h
 ·replace h:=oi h;obtain⟨c,h⟩:=h;obtain⟨x,_,rfl,h⟩:=cu h;obtain⟨fs,e,h⟩:=ob h;obtain⟨y,v,h⟩:=ob h;cases h;obtain⟨d,e1,e2⟩:=u5 o e;rw[ur c];exact GQ d e1 e2 (j.e o v) rfl
 ·obtain⟨c,h⟩:=oi h;obtain⟨y,v,h⟩:=ob h;obtain⟨z,B,h⟩:=ob h;cases h;have:=NI (o.rm c.1) (f7 q) (j.e o v) (j.e o B) (by rw[cS];exact c.2) (pos:=p)
  rw[cS] at this;exact this
noncomputable def OA:Expr->Bool
 |.Compare ..=>false
 |.BoolOp ..=>false
 |.UnaryOp ..=>false
 |.IfExp ..=>false
 |_=>true
def vT:Fw:=λR g e=>((Dt R g e).bind λx=>some (ao x)).or
 ((EC e λq h _=>match q with
   |.And=>tK (R.t g) dI h
   |.Or=>tK (R.t g) fJ h).or
 ((Oa e λq a _=>match q with
   |.Not=>(R.t g a).bind λx=>some (bM x)
   |_=>none).or (if OA e=true then(R.e g e).bind λx=>some (ao x) else none)))
def FV (j:iO fa n R)(o:dH fa n g X)(h:Dt R g a=some ga):DT fa X a (ao ga):=by
 replace h:=qJ h;obtain⟨a,F,bs,p,rfl,h⟩:=h;replace h:=bX h;rcases h with h|h
 ·replace h:=ir h;obtain⟨q,r,rfl,h⟩:=h;obtain⟨b,d,rfl,h⟩:=ir h;obtain⟨c,h⟩:=oi h;replace h:=ob h;obtain⟨y,v,h⟩:=h;replace h:=ob h;obtain⟨z,B,h⟩:=h;replace h:=ob h;obtain⟨u,E,h⟩:=h;cases h;have:=Lv (o.rm c.1) (f7 q) (f7 r) (j.e o v) (j.e o B) (j.e o E) (by rw[cS,cS];exact c.2) (pos:=p)
  rw[cS,cS] at this;exact this
 replace h:=cv h;obtain⟨q,rfl,h⟩:=h;replace h:=cv h;obtain⟨b,rfl,h⟩:=h;replace h:=bX h;rcases h with h|h
 ·replace h:=oi h;obtain⟨c,h⟩:=h;obtain⟨x,_,rfl,h⟩:=cu h;obtain⟨fs,e,h⟩:=ob h;obtain⟨y,v,h⟩:=ob h;cases h;obtain⟨d,e1,e2⟩:=u5 o e;rw[ur c];exact GV d e1 e2 (j.e o v) rfl
 ·obtain⟨c,h⟩:=oi h;obtain⟨y,v,h⟩:=ob h;obtain⟨z,B,h⟩:=ob h;cases h;have:=Lu (o.rm c.1) (f7 q) (j.e o v) (j.e o B) (by rw[cS];exact c.2) (pos:=p)
  rw[cS] at this;exact this
def Mp:ST vT:=by
 intro fa n R u g X o a y h;replace h:=bX h;rcases h with h|h
 ·obtain⟨x,j,h⟩:=ob h;cases h;exact FV u o j
 replace h:=bX h;rcases h with h|h
 ·obtain⟨q,v,p,rfl,h⟩:=uy h;cases q with
  |And=>exact PW.pt (vX (u.t o) h)
  |Or=>exact PW.pt (zu (u.t o) h)
 replace h:=bX h;rcases h with h|h
 ·obtain⟨q,a,p,rfl,h⟩:=Ar h;cases q with
  |Not=>obtain⟨x,j,h⟩:=ob h;cases h;exact Lq (u.t o j)
  |_=>cases h
 ·obtain⟨c,h⟩:=oi h;obtain⟨x,j,h⟩:=ob h;cases h;exact Dk (u.e o j) λ_=>by cases a<;>first|rfl|cases c
noncomputable def Bv:jz:=λ_ _ st=>match st with
 |.Raise ..=>some xG
 |_=>none
def FI:SS Bv:=λ{fa n R} _ {g X} _ {a j} h=>by
 unfold Bv at h;split at h
 ·cases h;exact LB
 ·cases h
noncomputable def jh:Expr->Bool
 |.Slice ..=>false
 |_=>true
def jg (h:jh b=true):gG b:=by
 intro x i;cases b<;>first|rfl|cases h
noncomputable def cO (f:Expr->Option GE):Option Expr->Option GE
 |none=>some (gC .non)
 |some a=>f a
def Fi (hf:∀{a:Expr}{j:GE},f a=some j->DE fa X a j)(h:cO f q=some ge):DO fa X q q.isSome ge:=by
 cases q with
 |none=>cases h;exact HS
 |some a=>exact HR (hf h)
def IV:cT:=λR g e=>qH e λa b _=>nName a λx _=>(Dq g x).bind λfs=>if jh b=true then(R.e g b).bind λy=>some (lA fs y) else none
def FX:SE IV:=by
 intro fa n R u g X o a v h;replace h:=i5 h;obtain⟨a,b,p,rfl,h⟩:=h;replace h:=cu h;obtain⟨x,q,rfl,h⟩:=h;obtain⟨fs,e,h⟩:=ob h;obtain⟨c,h⟩:=oi h;obtain⟨y,j,h⟩:=ob h;cases h;obtain⟨d,e1,e2⟩:=u5 o e;exact GR d e1 e2 (u.e o j) (jg c)
def IZ:cT:=λR g e=>qH e λa b p=>(OY b λlo h st _=>if st.isNone=true/\g.tx p=false then(R.e g a).bind λx=>(cO (R.e g) lo).bind λy=>(cO (R.e g) h).bind λz=>some (cx (g.cl p) lo.isSome h.isSome x y z) else none).or
 (if jh b=true then(R.e g a).bind λx=>(R.e g b).bind λy=>some (aw x y) else none)
def F1:SE IZ:=by
 intro fa n R j g X o a E h;replace h:=i5 h;obtain⟨a,b,p,rfl,h⟩:=h;replace h:=bX h;rcases h with h|h
 ·obtain⟨lo,F,st,p2,rfl,h⟩:=Hg h;obtain⟨⟨c,_⟩,h⟩:=oi h;replace h:=ob h;obtain⟨x,u,h⟩:=h;replace h:=ob h;obtain⟨y,v,h⟩:=h;replace h:=ob h;obtain⟨z,B,h⟩:=h;cases h;rw[SO.mp c];exact Nw _ _ _ (j.e o u) (Fi (j.e o) v) (Fi (j.e o) B)
 ·obtain⟨c,h⟩:=oi h;obtain⟨x,u,h⟩:=ob h;obtain⟨y,v,h⟩:=ob h;cases h;exact NF (j.e o u) (j.e o v) (jg c)
noncomputable def lx (g:G)(x:Str):Option Nat:=if (g.sc.names.lookup x==some .local||(g.sc.names.lookup x==some .cell&&(g.lv != 1||g.oc.contains x)))=true then g.N.findIdx? (·==x) else none
def ED (g:G):List Expr->Option (List Nat)
 |[]=>some []
 |e::r=>nName e λx _=>(lx g x).bind λi=>(ED g r).bind λl=>some (i::l)
def cG (g:G)(e:Expr):Option fK:=(nName e λx _=>(lx g x).bind λi=>some (.one i)).or (qG e λh _ _=>if 0<g.lv then((ED g h).bind λl=>some (.tup l)).or (n2 h λa b=>nName a λx _=>qG b λbs _ _=>(lx g x).bind λi=>(ED g bs).bind λl=>some (.two i l)) else none)
section
variable{fa:Fa}{n:Nat}{g:G}{X:Cx}{R:Rc}(o:dH fa n g X)
include o
theorem ya (h:lx g x=some i):X.N[i]?=some x/\L2.Loc X.env.scope x/\(X.fn x=true\/X.env.scope.names.lookup x=some .local):=by
 obtain⟨c,h⟩:=oi h;rw[Si,Qw] at c;refine{sX o h,?_,?_}
 ·unfold L2.Loc;rw[o.sc];rcases c with z|z
  ·exact .inl (eq_of_beq z)
  ·exact .inr (eq_of_beq z.1)
 ·rcases c with z|z
  ·right;rw[o.sc];exact eq_of_beq z
  ·rcases Bool.or_eq_true_iff.mp z.2 with q|q
   ·exact .inl (o.fn (by simpa using q) x)
   ·exact .inl (o.oc x (List.contains_iff_mem.mp q))
theorem uC:∀{es:List Expr}{l:List Nat},ED g es=some l->iZ X l es
 |[],_,h=>by cases h;exact .nil
 | e::r,_,h=>by
   replace h:=cu h;obtain⟨x,p,rfl,h⟩:=h;obtain⟨i,j,h⟩:=ob h;obtain⟨l,hl,h⟩:=ob h;cases h;obtain⟨a,b,c⟩:=ya o j;exact .cons a b c (uC hl)
theorem jV (h:cG g t=some tt):PG X t (gT fa X.K tt):=by
 replace h:=bX h;rcases h with h|h
 ·obtain⟨x,p,rfl,h⟩:=cu h;replace h:=ob h;obtain⟨i,j,h⟩:=h;cases h;obtain⟨a,b,c⟩:=ya o j;exact HY (o.N ▸ o.nd) a b c
 ·replace h:=gx h;obtain⟨v,k,p,rfl,h⟩:=h;replace h:=oi h;obtain⟨c,h⟩:=h;replace h:=bX h;rcases h with h|h
  ·obtain⟨l,hl,h⟩:=ob h;cases h;exact LL (o.calm c) (o.N ▸ o.nd) (uC o hl)
  ·obtain⟨a,b,rfl,h⟩:=ir h;replace h:=cu h;obtain⟨x,y,rfl,h⟩:=h;replace h:=gx h;obtain⟨bs,k2,p2,rfl,h⟩:=h;obtain⟨i,j,h⟩:=ob h;obtain⟨l,hl,h⟩:=ob h;cases h;obtain⟨e1,e2,u⟩:=ya o j;exact LK (o.calm c) (o.N ▸ o.nd) e1 e2 u (uC o hl)
end
def cB (nm:Str)(R:Rc)(g:G)(e:Expr):Option (List Expr×GA):=mx e λx h _=>nC h λa h=>if x=nm/\iB g x=true/\(match g.T.lookup x with|some .bl=>true|_=>false)=true/\0<g.lv then(cA (R.e g) (a::h)).bind λj=>some (a::h,j) else none
def nR {g:G}(h:(match g.T.lookup x with|some .bl=>true|_=>false)=true):g.T.lookup x=some .bl:=by
 split at h
 ·assumption
 ·cases h
def qg (B:iO fa n R)(o:dH fa n g X)(h:cB nm R g e=some (as,u)):∃p pos a es,as=a::es/\e=.Call (.Name nm p) (a::es) [] pos/\Gl X nm/\X.mg nm=none/\0<g.lv/\DA fa X (a::es) u/\notStar a=true/\es.all notStar=true:=by
 replace h:=fR h;obtain⟨x,q,es,p,rfl,h⟩:=h;replace h:=gQ h;obtain⟨a,es,rfl,h⟩:=h;replace h:=oi h;obtain⟨⟨rfl,v,y,z⟩,h⟩:=h;obtain⟨u,j,h⟩:=ob h;cases h;obtain⟨d,ns⟩:=g7 (B.e o) j;rw[RB,Qw] at ns;exact{_,_,_,_,rfl,rfl,(cw o v).1,o.T.bl (nR y),z,d,ns.1,ns.2}
def IY:cT:=λR g e=>(cB "len" R g e).bind λq=>some (aL .len q.2)
def F0:SE IY:=λ{fa n R} v {g X} o {a z} h=>by
 obtain⟨⟨y,B⟩,u,h⟩:=ob h;cases h;obtain⟨_,_,_,_,_,rfl,j,hm,_,d,n1,n2⟩:=qg v o u;exact yy .len Nh j hm PySem.boot_len d `d `d (bf n1) (cq n2)
def Je:cT:=λR g e=>(cB "all" R g e).bind λq=>some (aL .all q.2)
def F7:SE Je:=λ{fa n R} v {g X} o {a z} h=>by
 obtain⟨⟨y,B⟩,u,h⟩:=ob h;cases h;obtain⟨_,_,_,_,_,rfl,j,hm,lv,d,n1,n2⟩:=qg v o u;exact yy .all (Nj (o.calm lv)) j hm `k d `d `d (bf n1) (cq n2)
def IU:cT:=λR g e=>(cB "sum" R g e).bind λq=>some (aL .sum q.2)
def FW:SE IU:=λ{fa n R} v {g X} o {a z} h=>by
 obtain⟨⟨y,B⟩,u,h⟩:=ob h;cases h;obtain⟨_,_,_,_,_,rfl,j,hm,lv,d,n1,n2⟩:=qg v o u;exact yy .sum (Ng (o.calm lv)) j hm `k d `d `d (bf n1) (cq n2)
def y8:cT:=λR g e=>(cB "tuple" R g e).bind λq=>some (aL .tuple q.2)
def y4:SE y8:=λ{fa n R} v {g X} o {a z} h=>by
 obtain⟨⟨y,B⟩,u,h⟩:=ob h;cases h;obtain⟨_,_,_,_,_,rfl,j,hm,_,d,n1,n2⟩:=qg v o u;exact A6 .tuple Hw j hm `k d `d `d (bf n1) (cq n2)
def Eb:cT:=λR g e=>(cB "list" R g e).bind λq=>some (aL (.list (g.cl e.pos)) q.2)
def BK:SE Eb:=λ{fa n R} v {g X} o {a z} h=>by
 obtain⟨⟨y,B⟩,u,h⟩:=ob h;cases h;obtain⟨_,_,_,_,_,rfl,j,hm,_,d,n1,n2⟩:=qg v o u;exact A6 (.list _) (Lf _) j hm `k d `d `d (bf n1) (cq n2)
def cR (R:Rc)(g:G)(nm:Str)(e:Expr):Option (Expr×GE):=mx e λx h _=>n1 h λa=>if x=nm/\iB g x=true/\(match g.T.lookup x with|some .bl=>true|_=>false)=true/\0<g.lv/\notStar a=true then(R.e g a).bind λy=>some (a,y) else none
def qf (E:iO fa n R)(o:dH fa n g X)(h:cR R g nm e=some (a,ga)):∃p pos,e=.Call (.Name nm p) [a] [] pos/\Gl X nm/\X.mg nm=none/\0<g.lv/\DE fa X a ga/\starEach [a] X.env=[(false,eval a X.env)]:=by
 replace h:=fR h;obtain⟨x,q,F,p,rfl,h⟩:=h;replace h:=cv h;obtain⟨a,rfl,h⟩:=h;replace h:=oi h;obtain⟨⟨rfl,j,u,v,z⟩,h⟩:=h;obtain⟨y,B,h⟩:=ob h;cases h;exact{_,_,rfl,(cw o j).1,o.T.bl (nR u),v,E.e o B,bf z}
def zb:cT:=λR g e=>mx e λx h p=>n1 h λb=>if x="list"/\iB g x=true/\(match g.T.lookup x with|some .bl=>true|_=>false)=true then(cR R g "range" b).bind λq=>some (mH (g.cl p) q.2) else none
def y9:SE zb:=λ{fa n R} B {g X} o {a F} h=>by
 replace h:=fR h;obtain⟨x,q,E,p,rfl,h⟩:=h;replace h:=cv h;obtain⟨b,rfl,h⟩:=h;replace h:=oi h;obtain⟨⟨rfl,j,u⟩,h⟩:=h;obtain⟨⟨b,y⟩,z,h⟩:=ob h;cases h;obtain⟨_,_,rfl,v,hm,lv,d,hs⟩:=qf B o z;exact GL _ (o.calm lv) d (cw o j).1 (o.T.bl (nR u)) v hm hs rfl
def BS (x:Str):Option Ty:=if x="int" then some .int else if x="bool" then some .bool else if x="str" then some .str else if x="tuple" then some .tuple else if x="list" then some .list else none
def F8 (h:BS x=some t):bootBuiltins x=some (.type (tyName t))/\(∀c,t≠.own c)/\x≠"__name__"/\(x==("__debug__":Str))=false:=by
 unfold BS at h;split at h
 ·subst x;cases h;exact{`k,(λ_ z=>nomatch z),`d,`d}
 split at h
 ·subst x;cases h;exact{`k,(λ_ z=>nomatch z),`d,`d}
 split at h
 ·subst x;cases h;exact{`k,(λ_ z=>nomatch z),`d,`d}
 split at h
 ·subst x;cases h;exact{`k,(λ_ z=>nomatch z),`d,`d}
 split at h
 ·subst x;cases h;exact{`k,(λ_ z=>nomatch z),`d,`d}
 ·cases h
def cI (R:Rc)(g:G)(e:Expr):Option (Str×GE):=mx e λy h _=>n2 h λa b=>nName b λx _=>if y="isinstance"/\iB g y=true/\(match g.T.lookup y with|some .bl=>true|_=>false)=true/\iB g x=true/\notStar a=true then(R.e g a).bind λz=>some (x,z) else none
def Fm (F:iO fa n R)(o:dH fa n g X)(h:cI R g e=some (x,ga)):∃p q a pos,e=.Call (.Name "isinstance" p) [a,.Name x q] [] pos/\Gl X "isinstance"/\X.mg "isinstance"=none/\Gl X x/\(x==("__debug__":Str))=false/\DE fa X a ga/\starEach [a,.Name x q] X.env=(false,eval a X.env)::starEach [.Name x q] X.env:=by
 replace h:=fR h;obtain⟨y,q,H,p,rfl,h⟩:=h;replace h:=ir h;obtain⟨a,b,rfl,h⟩:=h;replace h:=cu h;obtain⟨x,I,rfl,h⟩:=h;replace h:=oi h;obtain⟨⟨rfl,u,v,j,B⟩,h⟩:=h;obtain⟨z,E,h⟩:=ob h;cases h;exact{_,_,_,_,rfl,(cw o u).1,o.T.bl (nR v),(cw o j).1,(cw o j).2,F.e o E,bf B}
def Ec:cT:=λR g e=>(cI R g e).bind λq=>if (match g.T.lookup q.1 with|some .bl=>true|_=>false)=true then(BS q.1).bind λt=>some (cK t q.2) else none
def BL:SE Ec:=λ{fa n R} I {g X} o {a J} h=>by
 obtain⟨⟨x,z⟩,E,h⟩:=ob h;obtain⟨c,h⟩:=oi h;obtain⟨t,F,h⟩:=ob h;cases h;obtain⟨_,_,_,_,rfl,B,hm,H,hd,d,hs⟩:=Fm I o E;obtain⟨j,u,v,y⟩:=F8 F;exact LR t u d B hm `k H (o.T.bl (nR c)) j v y hs
def zd:cT:=λR g e=>(cI R g e).bind λq=>match g.T.lookup q.1 with
 |some (.xc k)=>some (bQ (some k) q.2)
 |some (.xi k)=>some (bQ (some k) q.2)
 |some (.xk k)=>some (bQ (some k) q.2)
 |some .de=>some (bQ none q.2)
 |some .bl=>if q.1="ValueError" then some (bQ none q.2) else none
 |_=>none
set_option tactic.hygienic true in
def zc:SE zd:=λ{fa n R} y {g X} o {a B} h=>by
 obtain⟨⟨x,z⟩,v,k⟩:=ob h;clear h;obtain⟨_,_,_,_,rfl,j,hm,u,hd,d,hs⟩:=Fm y o v;split at k
 ·next e=>cases k;obtain⟨C,h1,h2,_⟩:=o.T.xc e;exact qz _ o.T.xcs ⟨C,h1,h2⟩ d j hm u hd hs
 ·next e=>cases k;exact qz _ o.T.xcs (o.T.xi e).2 d j hm u hd hs
 ·next e=>cases k;exact qz _ o.T.xcs (o.T.xk e) d j hm u hd hs
 ·next e=>cases k;exact GO o.T.xcs (o.T.de e) d j hm u hd hs
 ·next e=>
  obtain⟨c,h⟩:=oi k;cases h;subst c;exact GN o.T.xcs d j hm u (o.T.bl e) hs
 ·cases k
def Eh:cT:=λR g e=>mx e λx h _=>nC h λa h=>if 0<g.lv then(match vr g x with
 |some i=>(cA (R.e g) (a::h)).bind λj=>some (mI i g.c j)
 | none=>if iB g x = true then(match g.T.lookup x with
   |some (.fn i _)=>(cA (R.e g) (a::h)).bind λj=>some (ai i g.c j)
   |_=>none) else none) else none
set_option tactic.hygienic true in
def BQ:SE Eh:=λ{fa n R} u {g X} o {a E} h=>by
 replace h:=fR h;obtain⟨x,q,z,p,rfl,h⟩:=h;replace h:=gQ h;obtain⟨a,z,rfl,h⟩:=h
 ·obtain⟨lv,h⟩:=oi h;split at h
  ·next e=>
   obtain⟨B,j,h⟩:=ob h;cases h;obtain⟨d,ns⟩:=g7 (u.e o) j;rw[RB,Qw] at ns;obtain⟨a,b,v,y⟩:=D6 o e;exact Ic (o.C lv) ((o.hr lv).mono (S0 _)) a b d v y (bf ns.1) (cq ns.2)
  ·obtain⟨c,h⟩:=oi h;split at h
   ·next e=>
    obtain⟨B,j,h⟩:=ob h;cases h;obtain⟨d,ns⟩:=g7 (u.e o) j;rw[RB,Qw] at ns;exact LX (o.C lv _) ((o.hr lv).mono (S0 _)) (cw o c).1 (o.T.fn e) d (cw o c).2 (bf ns.1) (cq ns.2)
   ·cases h
def DV:cT:=λR g e=>(mx e λx h _=>nC h λa h=>if 2<=g.lv/\iB g x=true then(match g.T.lookup x with
 |some (.fn i true)=>(cA (R.e g) (a::h)).bind λj=>some (bI i g.c j)
 |_=>none) else none).or (Kt e λc a b _=>(R.x g a).bind λx=>(R.x g b).bind λy=>(R.t g c).bind λt=>some (ym t x y))
set_option tactic.hygienic true in
def By:SX DV:=λ{fa n R} j {g X} o {a F} h=>by
 replace h:=bX h;rcases h with h|h
 ·obtain⟨x,q,v,p,rfl,h⟩:=fR h;obtain⟨a,v,rfl,h⟩:=gQ h;replace h:=oi h;obtain⟨⟨lv,c⟩,h⟩:=h;split at h
  ·next e=>
   replace h:=ob h;obtain⟨H,u,h⟩:=h;cases h;obtain⟨d,ns⟩:=g7 (j.e o) u;rw[RB,Qw] at ns;exact x_call _ (o.C `a) ((o.hr `a).mono (S0 _)) (o.top lv).1 (cw o c).1 (o.T.fn e) d (cw o c).2 ns.1 ns.2
  ·cases h
 ·obtain⟨c,a,b,p,rfl,h⟩:=wy h;obtain⟨x,B,h⟩:=ob h;obtain⟨y,E,h⟩:=ob h;obtain⟨t,z,h⟩:=ob h;cases h;exact Mn (j.t o z) (j.x o B) (j.x o E)
def yT:cT:=λR g e=>mx e λx h _=>n1 h λa=>if 2<=g.lv/\iB g x=true/\notStar a=true then(match g.T.lookup x with
 |some (.fnD i)=>(R.e g a).bind λy=>some (bI i g.c (c6 y (c6 (gC .non) bH)))
 |_=>none) else none
set_option tactic.hygienic true in
def yS:SX yT:=λ{fa n R} u {g X} o {a z} h=>by
 replace h:=fR h;obtain⟨x,q,v,p,rfl,h⟩:=h;replace h:=cv h;obtain⟨a,rfl,h⟩:=h;replace h:=oi h;obtain⟨⟨lv,c,st⟩,h⟩:=h;split at h
 ·next e=>
  replace h:=ob h;obtain⟨y,j,h⟩:=h;cases h;exact FO _ (o.C `a) ((o.hr `a).mono (S0 _)) (o.top lv).1 (cw o c).1 (o.T.fnD e).1 (o.T.fnD e).2 (u.e o j) (cw o c).2 st
 ·cases h
noncomputable def gu:Expr->Bool
 |.Call _ [] _ _=>false
 |_=>true
def c8 (h:gu a=true):attributeBase a m env w=w:=by
 cases a with
 | Call f j ks p=>
   cases j with
   |nil=>cases h
   |cons _ _=>cases f<;>rfl
 |_=>rfl
def Jb:cT:=λR g e=>EB e λa m d q=>EA d (if gu a=true/\q=true then(if m="count" then(R.e g a).bind λx=>some (yp x) else if m="index" then(R.e g a).bind λx=>some (yn x) else none) else none)
set_option tactic.hygienic true in
def F4:SE Jb:=λ{fa n R} y {g X} o {a B} h=>by
 replace h:=ux h;obtain⟨a,m,q,d,p,rfl,h⟩:=h;replace h:=CM h;obtain⟨_,_,rfl,h⟩:=h;replace h:=oi h;obtain⟨⟨u,v⟩,h⟩:=h;split at h
 ·next z=>subst z;obtain⟨x,j,h⟩:=ob h;cases h;exact JN (y.e o j) (c8 u) v
 ·obtain⟨rfl,k⟩:=oi h;obtain⟨x,j,k⟩:=ob k;cases k;exact JJ (y.e o j) (c8 u) v
def NZ:cT:=λR g e=>O0 e λl _=>nC l λa l=>n2 l λb c=>CN a λz=>Oc b λb=>CN c λy=>(R.e g b).bind λx=>some (sf z y x)
def I9:SE NZ:=λ{fa n R} u {g X} o {a v} h=>by
 replace h:=Hi h;obtain⟨l,p,rfl,h⟩:=h;replace h:=gQ h;obtain⟨a,l,rfl,h⟩:=h;replace h:=ir h;obtain⟨b,c,rfl,h⟩:=h;replace h:=wx h;obtain⟨z,_,_,rfl,h⟩:=h;replace h:=Ku h;obtain⟨b,_,rfl,h⟩:=h;replace h:=wx h;obtain⟨y,_,_,rfl,h⟩:=h;obtain⟨x,j,h⟩:=ob h;cases h;exact OQ (u.e o j)
def D4:vB:=λR g _ e=>(cR R g "range" e).bind λq=>some (dX q.2)
def BF:SW D4:=λ{z n R} v {g X} o {t a B} h=>by
 obtain⟨⟨b,y⟩,u,h⟩:=ob h;cases h;obtain⟨_,_,rfl,j,hm,_,d,hs⟩:=qf v o u;exact HW d j hm hs
def D5:vB:=λR g t e=>qG t λ_ _ _=>(cR R g "enumerate" e).bind λq=>some (gZ q.2)
def BG:SW D5:=λ{z n R} v {g X} o {t a B} h=>by
 replace h:=gx h;obtain⟨_,_,_,rfl,h⟩:=h;obtain⟨⟨b,y⟩,u,h⟩:=ob h;cases h;obtain⟨_,_,rfl,j,hm,_,d,hs⟩:=qf v o u;exact HX d j hm hs
def cN (R:Rc)(g:G)(nm:Str)(e:Expr):Option (List Expr):=mx e λx h _=>if x=nm/\iB g x=true/\(match g.T.lookup x with|some .bl=>true|_=>false)=true/\0<g.lv/\h.all notStar=true then some h else none
def Fj (o:dH fa n g X)(h:cN R g nm e=some es):∃p pos,e=.Call (.Name nm p) es [] pos/\Gl X nm/\X.mg nm=none/\es.all notStar=true:=by
 replace h:=fR h;obtain⟨x,q,es,p,rfl,h⟩:=h;replace h:=oi h;obtain⟨⟨rfl,j,u,y,v⟩,h⟩:=h;cases h;exact{_,_,rfl,(cw o j).1,o.T.bl (nR u),v}
def kM:∀{es:List Expr},es.all notStar=true->starEach es env=es.map λa=>(false,eval a env)
 |[],_=>rfl
 | a::es,h=>by
   rw[RB,Qw] at h;rw[bf h.1,kM h.2];rfl
def D3:vB:=λR g t e=>qG t λ_ _ _=>(cN R g "zip" e).bind λh=>n2 h λa b=>(R.e g a).bind λx=>(R.e g b).bind λy=>some (nH x y)
def BE:SW D3:=λ{F n R} j {g X} o {t a H} h=>by
 replace h:=gx h;obtain⟨_,_,_,rfl,h⟩:=h;obtain⟨E,v,k⟩:=ob h;clear h;obtain⟨_,_,rfl,u,hm,ns⟩:=Fj o v;replace k:=ir k;obtain⟨a,b,rfl,k⟩:=k;obtain⟨x,z,k⟩:=ob k;obtain⟨y,B,k⟩:=ob k;cases k;exact HV (j.e o z) (j.e o B) u hm (kM ns) (kM (RS.mp (RB ▸ ns)).2)
def DZ:vB:=λR g t e=>qG t λ_ _ _=>(cN R g "zip" e).bind λh=>nC h λa h=>n2 h λb c=>(R.e g a).bind λx=>(R.e g b).bind λy=>(R.e g c).bind λz=>some (nF x y z)
def BD:SW DZ:=λ{J n R} j {g X} o {t a L} h=>by
 replace h:=gx h;obtain⟨_,_,_,rfl,h⟩:=h;obtain⟨u,B,k⟩:=ob h;clear h;obtain⟨_,_,rfl,v,hm,ns⟩:=Fj o B;replace k:=gQ k;obtain⟨a,u,rfl,k⟩:=k;replace k:=ir k;obtain⟨b,c,rfl,k⟩:=k;obtain⟨x,E,k⟩:=ob k;obtain⟨y,F,k⟩:=ob k;obtain⟨z,H,k⟩:=ob k;cases k;have n2:=(RS.mp (RB ▸ ns)).2;have I:=(RS.mp (RB ▸ n2)).2;exact HU (j.e o E) (j.e o F) (j.e o H) v hm (kM ns) (kM n2) (kM I)
def IM:vB:=λR g _ e=>if g.tx e.pos=false then(R.e g e).bind λx=>some (cZ x) else none
def FR:SW IM:=λ{v n R} u {g X} o {t a y} h=>by
 obtain⟨_,h⟩:=oi h;obtain⟨x,j,h⟩:=ob h;cases h;exact LJ (u.e o j)
noncomputable def kv:Expr->Bool
 |.Set ..=>false
 |_=>true
def wV (h:kv a=true)(x:Qt):foldedSetIterable a env x=pure x:=by
 cases a<;>first|rfl|cases h
noncomputable def xM:Expr->List Str
 |.Name x _=>[x]
 |.Tuple h _ _=>(h.map fun|.Name x _=>[x]|.Tuple bs _ _=>bs.filterMap (fun|.Name x _=>some x|_=>none)|_=>[]).flatten
 |_=>[]
noncomputable def vj (g:G)(own:List Str):List Str:=g.N.map λx=>if own.contains x then x++("%":Str) else x
noncomputable def Cq (h sc:Scope):Scope:={h with names:=h.names.map λ(n,k)=>if (k==.free&&sc.kind==.function&&sc.names.lookup n==some .cell) then(n,.cell) else(n,k)}
def G.inC (g:G)(own:List Str)(h:Scope):G:={g with N:=own++vj g own,sc:=Cq h g.sc,lv:=1,oc:=(h.names.filter λy=>h.names.lookup y.1==some .cell).map (·.1)}
def wo (g:G)(own:List Str)(h:Scope):Prop:=0<g.lv/\h.kind=.function/\rg (vj g own) g.N g.sc h=true/\(own++vj g own).Nodup
instance (g:G) (own:List Str) (scope:Scope):Decidable (wo g own scope):=by unfold wo;infer_instance
def yz (o:dH fa n g X)(c:wo g own scope):fB X own (vj g own) scope/\∀cl C j s H,dH fa n (g.inC own scope) (fU X own (vj g own) scope cl C j s H):=by
 obtain⟨h,u,v,B⟩:=c;refine{Ba u o.sc o.N v,λcl C j s H=>{rfl,B,?_,o.T,o.tw,o.xf,o.ms,(λz=>absurd rfl z),(λx E=>by obtain⟨y,F,e⟩:=QF.mp E;subst e;exact(SI.mp F).2),λ_=>o.calm h,λ_=>o.C h,λ_=>o.hr h,(λz=>absurd (show 2<=1 from z) `d),(λz=>nomatch z)}}
 show relabel scope X.env=Cq scope g.sc;unfold relabel Cq Env.kindOf;rw[o.sc]
structure Mi (fa:Fa) (X:Cx) (e:Expr) (k:Nat) (t:fK) (gw:GW) (gb:GB):Prop where
 ex:∃elt tg iter ifs rest scope pos own bn W body,e=.ListComp elt ({tg,iter,ifs,0}::rest) scope pos/\k=own.length/\fB X own bn scope/\DI fa X tg iter gw/\Block fa X (LA fa X.K) own bn scope tg t W body gb/\qm X elt tg iter ifs rest scope pos body/\(∀i∈W,i∉slots t)/\(∀i∈slots t++W,i<own.length)/\∀x,foldedSetIterable iter X.env x=pure x
def cC (R:Rc)(g:G)(e:Expr):Option (Nat×fK×GW×GB):=Ob e λB y h _=>(n1 y λc=>nG c λz j v=>let own:=xM z
 if wo g own h/\kv j=true then(R.w g z j).bind λw=>(cG (g.inC own h) z).bind λt=>(R.e (g.inC own h) B).bind λx=>if (slots t).all (· < own.length)=true then(n0 v (some (own.length,t,w,b6 x))).or (n1 v λc=>(R.t (g.inC own h) c).bind λq=>some (own.length,t,w,Oq q (b6 x))) else none else none).or
 (n2 y λc d=>nG c λz j v=>nG d λt2 F E=>let own:=xM z++xM t2
  n0 v (n0 E (if wo g own h/\kv j=true/\kv F=true then(R.w g z j).bind λw=>(cG (g.inC own h) z).bind λt=>(R.w (g.inC own h) t2 F).bind λw2=>(cG (g.inC own h) t2).bind λu=>(R.e (g.inC own h) B).bind λx=>if (slots t++slots u).all (· < own.length)=true/\(slots u).all (λi=>!(slots t).contains i)=true then some (own.length,t,w,uU u w2 (b6 x)) else none else none)))
def Fn (z:iO fa n R)(o:dH fa n g X)(h:cC R g e=some (k,t,gw,gb)):Mi fa X e k t gw gb:=by
 replace h:=As h;obtain⟨B,gens,E,p,rfl,h⟩:=h;replace h:=bX h;rcases h with h|h
 ·replace h:=cv h;obtain⟨c,rfl,h⟩:=h;replace h:=sV h;obtain⟨tg,y,Y,rfl,h⟩:=h;replace h:=oi h;obtain⟨⟨c,J⟩,h⟩:=h;replace h:=ob h;obtain⟨w,M,h⟩:=h;replace h:=ob h;obtain⟨t,L,h⟩:=h;replace h:=ob h;obtain⟨x,P,h⟩:=h;replace h:=oi h;obtain⟨I,h⟩:=h;obtain⟨S,O⟩:=yz o c;replace h:=bX h;rcases h with h|h
  ·obtain⟨rfl,h⟩:=di h;cases h;exact{_,_,_,_,_,_,_,_,_,[],(λa env=>eval B env >>= λx=>call (.builtin "list.append") [.ref a,x] >>= λ_=>pure ()),rfl,rfl,S,z.w o M,{λcl C v s H=>jV (O cl C v s H) L,λcl C v s H a=>u6 (z.e (O cl C v s H) P)},(λF a env=>BW _ _ _ [] _ _ (.ref F) (.ref a) env),(λi h=>nomatch h),(by simpa using kS I),wV J}
  ·obtain⟨d,rfl,h⟩:=cv h;obtain⟨q,hq,h⟩:=ob h;cases h;exact{_,_,_,_,_,_,_,_,_,[],(λa env=>PySem.isTrue d env (eval d env) >>= λok=>if ok=true then(eval B env >>= λx=>call (.builtin "list.append") [.ref a,x] >>= λ_=>pure ()) else pure ()),rfl,rfl,S,z.w o M,{λcl C v s H=>jV (O cl C v s H) L,λcl C v s H a=>Nr LA.stab (z.t (O cl C v s H) hq) (u6 (z.e (O cl C v s H) P))},(λF a env=>turn_if _ _ _ _ _ _ (.ref F) (.ref a) env),(λi h=>nomatch h),(by simpa using kS I),wV J}
 ·replace h:=ir h;obtain⟨c,d,rfl,h⟩:=h;replace h:=sV h;obtain⟨tg,y,Y,rfl,h⟩:=h;replace h:=sV h;obtain⟨t2,Q,ifs2,rfl,h⟩:=h;replace h:=di h;obtain⟨rfl,h⟩:=h;replace h:=di h;obtain⟨rfl,h⟩:=h;obtain⟨⟨c,J,U⟩,h⟩:=oi h;obtain⟨w,M,h⟩:=ob h;obtain⟨t,L,h⟩:=ob h;obtain⟨w2,W,h⟩:=ob h;obtain⟨u,hu,h⟩:=ob h;obtain⟨x,P,h⟩:=ob h;obtain⟨⟨I,c3⟩,h⟩:=oi h;cases h;obtain⟨S,O⟩:=yz o c;exact{_,_,_,_,_,_,_,_,_,slots u,(λa env=>eval Q env >>= λx=>standAt Q.pos >>= λ_=>foldedSetIterable Q env x >>= λx=>holding [x] (pyIter x) >>= λj=>runOwn (.compStart (.ListComp B [{tg,y,[],0},{t2,Q,[],0}] E p) 1 j (.ref a) env) env >>= λ_=>pure ()),rfl,rfl,S,z.w o M,{λcl C v s H=>jV (O cl C v s H) L,λcl C v s H a=>LM rfl (o.calm c.1) (z.w (O cl C v s H) W) (jV (O cl C v s H) hu) (z.e (O cl C v s H) P) (wV U)},(λF a env=>BU _ _ _ _ _ _ _ (.ref F) (.ref a) env),zP c3,kS I,wV J}
def Eg:cT:=λR g e=>if 0<g.lv then(cC R g e).bind λq=>some (b8 (g.cl e.pos) q.1 q.2.1 q.2.2.1 q.2.2.2) else none
def BP:SE Eg:=λ{J n R} H {g X} o {a L} h=>by
 obtain⟨lv,h⟩:=oi h;obtain⟨⟨k,t,w,b⟩,z,h⟩:=ob h;cases h;obtain⟨v,M,u,E,rest,j,F,own,I,W,body,rfl,rfl,S,y,B,T,h1,h2,h3⟩:=(Fn H o z).ex;exact LW _ S (o.calm lv) y B T h1 h2 h3
def mM (f:Stmt->Option GS):List Stmt->Option GS
 |[]=>some aE
 |a::r=>(f a).bind λx=>(mM f r).bind λy=>some (aS x y)
theorem fV (hf:∀{a:Stmt}{j:GS},f a=some j->DS fa X a j):∀{ss:List Stmt}{u:GS},mM f ss=some u->jE fa X ss u
 |[],_,h=>by cases h;exact HK
 | a::r,_,h=>by
   obtain⟨x,v,h⟩:=ob h;obtain⟨y,z,h⟩:=ob h;cases h;exact Dl (hf v) (fV hf z)
noncomputable def nq:Expr->Bool
 |.ListComp ..=>false
 |.SetComp ..=>false
 |.DictComp ..=>false
 |_=>true
def wq (h:nq a=true):swapsWith a t l env=pure false:=by
 cases a<;>first|rfl|cases h
def L7 (g:G)(h a:Expr):Bool:=match a with
 |.ListComp ..=>(match h with|.Name y _=>g.sc.names.lookup y==some .cell|_=>false)
 |.Tuple ..=>(match h with|.Name ..=>true|_=>false)
 |.SetComp ..=>false
 |.DictComp ..=>(match h with|.Name y _=>g.sc.names.lookup y==some .cell|_=>false)
 |_=>true
set_option tactic.hygienic true in
def L6 (o:dH fa n g X)(c:L7 g tg a=true)(j:cG g tg=some t):swapsWithSole [tg] a l X.env=pure false/\swappedStores [tg] a X.env=pure none/\(assignEach [tg] X.env).map (·.2)=[assign tg X.env]:=by
 refine{?_,?_,?_}
 ·cases a<;>first|rfl|cases c|skip
  all_goals cases tg<;>first|cases c|skip
  all_goals
  next y p=>
  have e:=eq_of_beq c;have hk:(X.env.kindOf y==some .local)=false:=by unfold Env.kindOf;rw[o.sc,e];rfl
  show(pure (X.env.blockKind==.function&&X.env.kindOf y==some .local&&_&&_):Sem Bool)=pure false;rw[hk,Bool.and_false,Bool.false_and,Bool.false_and]
 ·replace j:=bX j;rcases j with h|h
  ·obtain⟨_,_,rfl,_⟩:=cu h;cases a<;>first|rfl|cases c
  ·obtain⟨_,_,_,rfl,_⟩:=gx h;cases a<;>first|rfl|cases c
 ·replace j:=bX j;rcases j with h|h
  ·obtain⟨_,_,rfl,_⟩:=cu h;rfl
  ·obtain⟨_,_,_,rfl,_⟩:=gx h;rfl
def IE:jz:=λR g st=>t8 st λts a _=>n1 ts λh=>if L7 g h a=true then(cG g h).bind λt=>((R.x g a).bind λx=>some (dF t x)).or ((R.e g a).bind λx=>some (az t x)) else none
def FJ:SS IE:=λ{y n R} u {g X} o {a z} h=>by
 replace h:=ke h;obtain⟨ts,a,p,rfl,h⟩:=h;replace h:=cv h;obtain⟨B,rfl,h⟩:=h;obtain⟨c,h⟩:=oi h;obtain⟨t,j,h⟩:=ob h;obtain⟨a1,a2,a3⟩:=L6 o c j;replace h:=bX h;rcases h with h|h
 ·obtain⟨x,e,h⟩:=ob h;cases h;exact JB (u.x o e) (jV o j) a1 a2 a3
 ·obtain⟨x,v,h⟩:=ob h;cases h;exact LC (u.e o v) (jV o j) a1 a2 a3
def DQ:jz:=λR g st=>t8 st λts d _=>n1 ts λt=>nName t λy v=>Ob d λu j h p=>if 2<=g.lv/\g.sc.names.lookup y=some .local/\(v.line==p.line)=true/\(h.names.any λ(n,k)=>n==y&&(k==.local||k==.cell))=false then(cC R g (.ListComp u j h p)).bind λq=>(g.N.findIdx? (·==y)).bind λi=>some (az (.one i) (b8 (g.cl p) q.1 q.2.1 q.2.2.1 q.2.2.2)) else none
def Bu:SS DQ:=λ{fa n R} rc {g X} o {a ga} h=>by
 replace h:=ke h;obtain⟨ts,d,_,rfl,h⟩:=h;replace h:=cv h;obtain⟨t,rfl,h⟩:=h;replace h:=cu h;obtain⟨y,Y,rfl,h⟩:=h;replace h:=As h;obtain⟨_,_,v,p,rfl,h⟩:=h
 ·next=>
  obtain⟨⟨lv,F,H,I⟩,h⟩:=oi h;obtain⟨⟨k,t,w,b⟩,P,h⟩:=ob h;obtain⟨i,O,h⟩:=ob h;cases h;obtain⟨L,tg,E,Q,rest,z,U,own,bn,W,body,J,rfl,S,j,B,T,h1,h2,h3⟩:=(Fn rc o P).ex;cases J;have hl:X.env.scope.names.lookup y=some .local:=by rw[o.sc];exact F
  refine yw _ S (o.calm `a) j B T h1 h2 h3 (o.N ▸ o.nd) (sX o O) hl ?_
  have hk:=(o.top lv).2.2.2;have M:(X.env.blockKind==.function)=true:=by unfold Env.blockKind;rw[hk];rfl
  have u:(X.env.kindOf y==some .local)=true:=by unfold Env.kindOf;rw[hl];rfl
  show(pure (X.env.blockKind==.function&&X.env.kindOf y==some .local&&(Y.line==p.line)&&!(v.names.any λ(n,k)=>n==y&&(k==.local||k==.cell))):Sem Bool)=pure true;rw[M,u,H,I];rfl
def IC:jz:=λR g st=>t8 st λts d _=>n1 ts λt=>qH t λa b _=>if jh b=true then(R.e g a).bind λx=>(R.e g b).bind λy=>(R.e g d).bind λz=>some (eM x y z) else none
def FG:SS IC:=λ{F n R} j {g X} o {a H} h=>by
 replace h:=ke h;obtain⟨ts,d,_,rfl,h⟩:=h;replace h:=cv h;obtain⟨t,rfl,h⟩:=h;replace h:=i5 h;obtain⟨a,b,p2,rfl,h⟩:=h
 ·next=>
  obtain⟨c,h⟩:=oi h;obtain⟨x,u,h⟩:=ob h;obtain⟨y,B,h⟩:=ob h;obtain⟨z,E,h⟩:=ob h;cases h;refine Lx (j.e o u) (j.e o B) (j.e o E) (λv=>?_) ?_ ?_ rfl
  ·cases b<;>first|rfl|cases c
  ·cases d<;>rfl
  ·cases d<;>rfl
def IF:jz:=λR g st=>Cm st λe _=>EB e λa m d q=>if m="append"/\gu a=true/\q=true/\notStar d=true then(R.e g a).bind λx=>(R.e g d).bind λy=>some (d3 x y) else none
def FK:SS IF:=λ{F n R} j {g X} o {a H} h=>by
 replace h:=qw h;obtain⟨e,_,rfl,h⟩:=h;replace h:=ux h;obtain⟨a,m,q,d,p,rfl,h⟩:=h;replace h:=oi h;obtain⟨⟨rfl,u,v,z⟩,h⟩:=h;obtain⟨x,B,h⟩:=ob h;obtain⟨y,E,h⟩:=ob h;cases h;exact LF (j.e o B) (j.e o E) (c8 u) v (bf z) rfl
def IB:jz:=λR g st=>(Cm st λa _=>if nq a=true then((R.x g a).bind λx=>some (jd x)).or ((R.e g a).bind λx=>some (sEx x)) else none).or
 ((sRt st λq _=>match q with
   |none=>some Er
   |some a=>((R.x g a).bind λx=>some (nh x)).or ((R.e g a).bind λx=>some (aI x))).or
 ((sPs st λ_=>some Es).or
 ((sIf st λc st u _=>(R.t g c).bind λt=>(mM (R.s g) st).bind λx=>(mM (R.s g) u).bind λy=>some (aN t x y)).or
 (sFr st λh a body j _=>n0 j (if g.lv=2/\kv a=true then(R.w g h a).bind λw=>(cG g h).bind λt=>(mM (R.s g) body).bind λx=>some (cM t w x) else none)))))
def FE:SS IB:=λ{F n R} j {g X} o {a H} h=>by
 replace h:=bX h;rcases h with h|h
 ·obtain⟨a,p,rfl,h⟩:=qw h;obtain⟨c,h⟩:=oi h;rcases bX h with h|h
  ·obtain⟨x,e,h⟩:=ob h;cases h;exact MC (j.x o e) (wq c)
  ·obtain⟨x,u,h⟩:=ob h;cases h;exact Nm (j.e o u) (wq c)
 replace h:=bX h;rcases h with h|h
 ·obtain⟨q,p,rfl,h⟩:=JE h;cases q with
  |none=>cases h;exact HL
  | some a=>
    rcases bX h with h|h
    ·obtain⟨x,e,h⟩:=ob h;cases h;exact Jy (j.x o e)
    ·obtain⟨x,u,h⟩:=ob h;cases h;exact Lw (j.e o u)
 replace h:=bX h;rcases h with h|h
 ·obtain⟨p,rfl,h⟩:=JF h;cases h;exact HM
 replace h:=bX h;rcases h with h|h
 ·obtain⟨c,st,I,p,rfl,h⟩:=JG h;obtain⟨t,v,h⟩:=ob h;obtain⟨x,u,h⟩:=ob h;obtain⟨y,B,h⟩:=ob h;cases h;exact Ly (j.t o v) (fV (j.s o) u) (fV (j.s o) B)
 ·obtain⟨J,a,body,E,p,rfl,h⟩:=JH h;obtain⟨rfl,h⟩:=di h;obtain⟨⟨lv,c⟩,h⟩:=oi h;obtain⟨w,z,h⟩:=ob h;obtain⟨t,v,h⟩:=ob h;obtain⟨x,u,h⟩:=ob h;cases h;exact Lz (o.po lv) (o.calm `a) (j.w o z) (jV o v) (Np (fV (j.s o) u)) (wV c)
def yR:jz:=λR g st=>OO st λe c _=>if c.isNone=true then e.bind λe=>mx e λx h _=>nC h λa h=>if 2<=g.lv/\iB g x=true then(match g.T.lookup x with
 |some (.xc k)=>(cA (R.e g) (a::h)).bind λj=>some (dQ k j)
 |_=>none) else none else none
set_option tactic.hygienic true in
def yQ:SS yR:=λ{y n R} v {g X} o {a z} h=>by
 replace h:=GJ h;obtain⟨e,c,_,rfl,h⟩:=h;replace h:=oi h;obtain⟨c,h⟩:=h;rw[SO.mp c];replace h:=ob h;obtain⟨e,rfl,h⟩:=h;replace h:=fR h;obtain⟨x,q,u,p,rfl,h⟩:=h;replace h:=gQ h;obtain⟨a,u,rfl,h⟩:=h
 ·obtain⟨⟨lv,c⟩,k⟩:=oi h;clear h;split at k
  ·next e=>
   obtain⟨B,j,k⟩:=ob k;cases k;obtain⟨d,ns⟩:=g7 (v.e o) j;rw[RB,Qw] at ns;obtain⟨C,h1,h2,h3,_⟩:=o.T.xc e;exact GH _ ⟨C,h1,h2,h3⟩ (o.top lv).1 (cw o c).1 (o.calm `a) d (cw o c).2 ns.1 ns.2
  ·cases k
def uR (o:dH fa n g X)(lv:2<=g.lv)(pn:List (Addr×Obj))(E:Qt->QC->Prop):dH fa n {g with lv:=3} (pV X pn E):={o.N,o.nd,o.sc,o.T,o.tw,o.xf,o.ms,λ_=>o.fn `a,o.oc,λ_=>o.calm `a,λ_=>o.C `a,λ_=>o.hr `a,λ_=>o.top lv,(λz=>nomatch z)}
def uS (o:dH fa n g X)(lv:2<=g.lv)(v:Qt)(E:Qt->QC->Prop):dH fa n {g with lv:=0} (pX X v E):={o.N,o.nd,o.sc,o.T,o.tw,o.xf,o.ms,λ_=>o.fn `a,o.oc,(λz=>absurd (show 0<0 from z) `d),(λz=>absurd (show 0<0 from z) `d),(λz=>absurd (show 0<0 from z) `d),(λz=>absurd (show 2<=0 from z) `d),(λz=>nomatch z)}
def Iz:jz:=λR g st=>N6 st λbody hs j y _=>n0 j (n0 y (n1 hs fun
 | .ExceptHandler t nm z _=>t.bind λt=>nName t λx _=>nm.bind λnm=>nC z λb h=>if 2 <= g.lv /\ iB g x = true /\ g.sc.names.lookup nm = some .local then(match g.T.lookup x with
   |some .de=>(g.N.findIdx? (·==nm)).bind λi=>(mM (R.s {g with lv:=3}) body).bind λu=>(mM (R.s {g with lv:=0}) (b::h)).bind λv=>some (t6 u i v)
   |_=>none) else none))
set_option tactic.hygienic true in
def FD:SS Iz:=λ{L n R} z {g X} o {a O} h=>by
 replace h:=zV h;obtain⟨body,hs,J,M,_,rfl,h⟩:=h;replace h:=di h;obtain⟨rfl,h⟩:=h;replace h:=di h;obtain⟨rfl,h⟩:=h;replace h:=cv h;obtain⟨hd,rfl,h⟩:=h;obtain⟨t,nm,P,_⟩:=hd;replace h:=ob h;obtain⟨t,rfl,h⟩:=h;replace h:=cu h;obtain⟨x,_,rfl,h⟩:=h;replace h:=ob h;obtain⟨nm,rfl,h⟩:=h;replace h:=gQ h;obtain⟨b,j,rfl,h⟩:=h
 ·obtain⟨⟨lv,c,B⟩,k⟩:=oi h;clear h;split at k
  ·next e=>
   obtain⟨i,F,k⟩:=ob k;obtain⟨u,H,k⟩:=ob k;obtain⟨v,I,k⟩:=ob k;cases k;have y:=o.top lv;exact MA o.T.xcs (o.T.de e) y.1 y.2.1 y.2.2.1 (o.N ▸ o.nd) (sX o F) (by rw[o.sc];exact B) (cw o c).1 (cw o c).2 (λpn E=>fV (z.s (uR o lv pn E)) H) (λv E=>fV (z.s (uS o lv v E)) I)
  ·cases k
def A1 (h:es.all notStar=true)(hl:es.length<30):methodCallForm es.length (backTo pos (starEach es env)) (backToKw pos (keywordEach [] env))=true:=by
 rw[kM h];have:backToKw pos (keywordEach [] env)=[]:=rfl;rw[this];unfold methodCallForm backTo;simp[hl]
def I8:cT:=λR g e=>nt e λa f _=>if gu a=true then(R.e g a).bind λx=>some (bR f x) else none
def F2:SE I8:=λ{y n R} v {g X} o {a z} h=>by
 obtain⟨a,f,p,rfl,h⟩:=h9 h;obtain⟨j,h⟩:=oi h;obtain⟨x,u,h⟩:=ob h;cases h;exact NG f o.T.ob o.T.of (v.e o u) (c8 j)
def D9:cT:=λR g e=>pN e λh j ks p=>nt h λa m ap=>n0 ks (if gu a=true/\(ap.endLine==p.line)=true/\0<g.lv/\j.length<30 then(g.ms.find? (·.1==m)).bind λq=>(cA (R.e g) j).bind λu=>(R.e g a).bind λx=>some (cy q.2.1 q.2.2 g.c x u) else none)
def BI:SE D9:=λ{M n R} y {g X} o {a O} h=>by
 replace h:=ji h;obtain⟨hd,E,ks,p,rfl,h⟩:=h;replace h:=h9 h;obtain⟨a,m,ap,rfl,h⟩:=h;replace h:=di h;obtain⟨rfl,h⟩:=h;replace h:=oi h;obtain⟨⟨z,B,u,J⟩,h⟩:=h;replace h:=ob h;obtain⟨q,H,h⟩:=h;obtain⟨P,j,h⟩:=ob h;obtain⟨x,I,h⟩:=ob h;cases h;obtain⟨C,F,cl,v,nm⟩:=o.ms q (Sr H);have e:=List.find?_some H;have e:=eq_of_beq e;rw[e] at v nm;have hr:=(o.hr u).mono (S0 _);cases E with
 |nil=>cases j;exact H9 (o.C u _) hr o.T.of F cl v nm (y.e o I) (c8 z) B
 | cons b E=>
   obtain⟨d,ns⟩:=g7 (y.e o) j;have L:=A1 (env:=X.env) (pos:=p) ns J;rw[RB,Qw] at ns;exact LP (o.C u _) hr o.T.of F cl v nm (y.e o I) d (c8 z) L B (bf ns.1) (cq ns.2)
def Ea:cT:=λR g e=>mx e λx h _=>nC h λa h=>if 0<g.lv/\iB g x=true then(g.T.lookup x).bind fun
 |.cls c f=>(cA (R.e g) (a::h)).bind λj=>some (nI c f g.c j)
 |_=>none else none
def BJ:SE Ea:=λ{y n R} v {g X} o {a z} h=>by
 replace h:=fR h;obtain⟨x,q,u,p,rfl,h⟩:=h;replace h:=gQ h;obtain⟨a,u,rfl,h⟩:=h;obtain⟨⟨lv,c⟩,h⟩:=oi h;obtain⟨t,e,h⟩:=ob h;cases t with
 | cls k f=>
   obtain⟨B,j,h⟩:=ob h;cases h;obtain⟨d,ns⟩:=g7 (v.e o) j;rw[RB,Qw] at ns;obtain⟨C,h1,h2,h3⟩:=o.T.cls e;exact LQ (o.C lv _) (o.hr lv) o.T.of h2 h3 (cw o c).1 h1 d (cw o c).2 (bf ns.1) (cq ns.2)
 |_=>cases h
def ID:jz:=λR g st=>t8 st λts v _=>n1 ts λt=>nt t λa f _=>if nq v=true then(R.e g a).bind λx=>(R.e g v).bind λy=>some (ik f x y) else none
def zw (h:nq v=true):swapsWith v (some (.Attribute a f p)) l env=pure false:=by
 cases v<;>first|rfl|cases h
def FH:SS ID:=λ{B n R} j {g X} o {a E} h=>by
 replace h:=ke h;obtain⟨ts,v,p,rfl,h⟩:=h;replace h:=cv h;obtain⟨t,rfl,h⟩:=h;replace h:=h9 h;obtain⟨a,f,p2,rfl,h⟩:=h;obtain⟨c,h⟩:=oi h;obtain⟨x,u,h⟩:=ob h;obtain⟨y,z,h⟩:=ob h;cases h;exact MB f o.T.ob o.T.of (j.e o u) (j.e o z) (zw c)
def IW:cT:=λR g e=>pN e λh j ks p=>nt h λa m ap=>n0 ks (n0 j (if gu a=true/\(ap.endLine==p.line)=true then
 if m="pop" then(R.e g a).bind λx=>some (qT x) else if m="reverse" then(R.e g a).bind λx=>some (Fc x) else none else none))
set_option tactic.hygienic true in
def FY:SE IW:=λ{B n R} y {g X} o {a E} h=>by
 replace h:=ji h;obtain⟨hd,z,ks,p,rfl,h⟩:=h;replace h:=h9 h;obtain⟨a,m,ap,rfl,h⟩:=h;replace h:=di h;obtain⟨rfl,h⟩:=h;replace h:=di h;obtain⟨rfl,h⟩:=h;replace h:=oi h;obtain⟨⟨u,v⟩,h⟩:=h;split at h
 ·next e=>subst e;obtain⟨x,j,h⟩:=ob h;cases h;exact Nx (y.e o j) (c8 u) v
 ·split at h
  ·next e=>subst e;obtain⟨x,j,h⟩:=ob h;cases h;exact LO (y.e o j) (c8 u) v
  ·cases h
def DU:cT:=λR g e=>pN e λh j ks p=>nt h λa m ap=>n0 ks (if g.tx p=true/\gu a=true/\(ap.endLine==p.line)=true/\2<=g.lv/\j.length<30 then(g.ms.find? (·.1==m)).bind λq=>(cA (R.e g) j).bind λu=>(R.e g a).bind λx=>some (gY q.2.1 q.2.2 g.c x u) else none)
def Bx:SX DU:=λ{M n R} v {g X} o {a O} h=>by
 replace h:=ji h;obtain⟨hd,E,ks,p,rfl,h⟩:=h;replace h:=h9 h;obtain⟨a,m,ap,rfl,h⟩:=h;replace h:=di h;obtain⟨rfl,h⟩:=h;replace h:=oi h;obtain⟨⟨_,y,z,B,J⟩,h⟩:=h;replace h:=ob h;obtain⟨q,H,h⟩:=h;obtain⟨P,j,h⟩:=ob h;obtain⟨x,I,h⟩:=ob h;cases h;obtain⟨C,F,cl,u,nm⟩:=o.ms q (Sr H);have e:=List.find?_some H;have e:=eq_of_beq e;rw[e] at u nm;have hr:=(o.hr `a).mono (S0 _)
 cases E with
 |nil=>cases j;exact FN (o.C `a _) hr (o.top B).1 o.T.of F cl u nm (v.e o I) (c8 y) z
 | cons b E=>
   obtain⟨d,ns⟩:=g7 (v.e o) j;have L:=A1 (env:=X.env) (pos:=p) ns J;rw[RB,Qw] at ns;exact IJ (o.C `a _) hr (o.top B).1 o.T.of F cl u nm (v.e o I) d (c8 y) L z (bf ns.1) (cq ns.2)
def vQ:jz:=λR g st=>N6 st λbody hs j y _=>n0 j (n0 y (n1 hs fun
 |.ExceptHandler t nm z _=>t.bind λt=>nName t λx _=>nC z λb h=>if nm.isNone=true/\2<=g.lv/\iB g x=true then(g.tw.find? λq=>q.1==x&&q.2.1==x&&q.2.2.1==q.2.2.2).bind λq=>(mM (R.s {g with lv:=3}) body).bind λu=>(mM (R.s {g with lv:=0}) (b::h)).bind λv=>some (ml u q.2.2.1 q.2.2.1 v) else none))
def xt:SS vQ:=λ{L n R} B {g X} o {a O} h=>by
 replace h:=zV h;obtain⟨body,hs,J,M,_,rfl,h⟩:=h;replace h:=di h;obtain⟨rfl,h⟩:=h;replace h:=di h;obtain⟨rfl,h⟩:=h;replace h:=cv h;obtain⟨hd,rfl,h⟩:=h;obtain⟨t,nm,P,_⟩:=hd;replace h:=ob h;obtain⟨t,rfl,h⟩:=h;replace h:=cu h;obtain⟨x,_,rfl,h⟩:=h;replace h:=gQ h;obtain⟨b,j,rfl,h⟩:=h;obtain⟨⟨F,lv,c⟩,k⟩:=oi h;clear h;rw[SO.mp F];obtain⟨q,z,k⟩:=ob k;obtain⟨u,H,k⟩:=ob k;obtain⟨v,I,k⟩:=ob k;cases k;have tw:=o.tw q (Sr z);have e:=List.find?_some z;rw[Qw,Qw] at e;rw[eq_of_beq e.1.1,eq_of_beq e.1.2,<- eq_of_beq e.2] at tw;have y:=o.top lv;exact Ck tw y.1 y.2.1 y.2.2.1 (cw o c).1 (cw o c).2 (λpn E=>fV (B.s (uR o lv pn E)) H) (λv E=>fV (B.s (uS o lv v E)) I)
section
variable{β:Type}{e:Expr}{st:Stmt}{r:β}
noncomputable def CP (e:Expr)(k:List (Option Expr)->List Expr->Pos->Option β):Option β:=if h:e.ctorIdx=6 then @Expr.Dict.elim (λ_=>Option β) e h k else none
def wz (h:CP e k=some r):∃a b c,e=.Dict a b c/\k a b c=some r:=(od h).elim λz h=>@Expr.Dict.elim (λe=>∀z,@Expr.Dict.elim (λ_=>Option β) e z k=some r->∃a b c,e=.Dict a b c/\k a b c=some r) e z (λa b c _ h=>⟨a,b,c,rfl,h⟩) z h
noncomputable def N5 (e:Stmt)(k:Expr->List Stmt->List Stmt->Pos->Option β):Option β:=if h:e.ctorIdx=11 then @Stmt.While.elim (λ_=>Option β) e h k else none
def JD (h:N5 st k=some r):∃a b c d,st=.While a b c d/\k a b c d=some r:=(od h).elim λz h=>@Stmt.While.elim (λe=>∀z,@Stmt.While.elim (λ_=>Option β) e z k=some r->∃a b c d,e=.While a b c d/\k a b c d=some r) st z (λa b c d _ h=>⟨a,b,c,d,rfl,h⟩) z h
noncomputable def Od (e:Expr)(k:Expr->Expr->List SH->Scope->Pos->Option β):Option β:=if h:e.ctorIdx=10 then @Expr.DictComp.elim (λ_=>Option β) e h k else none
def Kv (h:Od e k=some r):∃a b c d p,e=.DictComp a b c d p/\k a b c d p=some r:=(od h).elim λz h=>@Expr.DictComp.elim (λe=>∀z,@Expr.DictComp.elim (λ_=>Option β) e z k=some r->∃a b c d p,e=.DictComp a b c d p/\k a b c d p=some r) e z (λa b c d p _ h=>⟨a,b,c,d,p,rfl,h⟩) z h
end
def n8 (o:dH fa n g X):hJ fa:=⟨o.T.of,o.T.od.1,o.T.od.2⟩
def Ef:cT:=λR g e=>qH e λa b p=>if g.tx p=true/\jh b=true/\0<g.lv then(R.e g a).bind λx=>(R.e g b).bind λy=>some (iu x y) else none
def BO:SE Ef:=λ{z n R} j {g X} o {a B} h=>by
 replace h:=i5 h;obtain⟨a,b,p,rfl,h⟩:=h;replace h:=oi h;obtain⟨⟨_,c,lv⟩,h⟩:=h;obtain⟨x,u,h⟩:=ob h;obtain⟨y,v,h⟩:=ob h;cases h;exact LV (o.rm lv) (n8 o) (j.e o u) (j.e o v) (jg c)
noncomputable def isIn (q:CmpOp):Option Bool:=match q with
 |.In=>some false
 |.NotIn=>some true
 |_=>none
def Ht (h:isIn q=some n):q=if n then .NotIn else .In:=by
 cases q<;>first|(cases h;rfl)|cases h
def L1 (R:Rc)(g:G)(e:Expr):Option GE:=Kw e λa h bs p=>n1 h λq=>n1 bs λb=>if g.tx p=true/\behindInMarks q b=false/\0<g.lv then(isIn q).bind λn=>(R.e g a).bind λx=>(R.e g b).bind λy=>some (lC n x y) else none
def Ij (j:iO fa n R)(o:dH fa n g X)(h:L1 R g e=some ge):DE fa X e ge/\DT fa X e (ao ge):=by
 replace h:=qJ h;obtain⟨a,z,bs,p,rfl,h⟩:=h;replace h:=cv h;obtain⟨q,rfl,h⟩:=h;replace h:=cv h;obtain⟨b,rfl,h⟩:=h;replace h:=oi h;obtain⟨⟨_,c,lv⟩,h⟩:=h;obtain⟨m,hm,h⟩:=ob h;obtain⟨x,u,h⟩:=ob h;obtain⟨y,v,h⟩:=ob h;cases h;have e:=Ht hm;subst e;exact{NH m (o.rm lv) (n8 o) (j.e o u) (j.e o v) c,Lr m (o.rm lv) (n8 o) (j.e o u) (j.e o v) c}
def IP:Fw:=λR g e=>(L1 R g e).bind λx=>some (ao x)
def FU:ST IP:=λ{v n R} u {g X} o {a y} h=>by
 obtain⟨x,j,h⟩:=ob h;cases h;exact(Ij u o j).2
def DN:jz:=λR g st=>t8 st λts d _=>n1 ts λt=>qH t λa b p=>if g.tx p=true/\jh b=true/\0<g.lv then(R.e g a).bind λx=>(R.e g b).bind λy=>(R.e g d).bind λz=>some (ip x y z) else none
def Bt:SS DN:=λ{F n R} j {g X} o {a H} h=>by
 replace h:=ke h;obtain⟨ts,d,_,rfl,h⟩:=h;replace h:=cv h;obtain⟨t,rfl,h⟩:=h;replace h:=i5 h;obtain⟨a,b,p2,rfl,h⟩:=h;replace h:=oi h;obtain⟨⟨_,c,lv⟩,h⟩:=h;obtain⟨x,u,h⟩:=ob h;obtain⟨y,B,h⟩:=ob h;obtain⟨z,E,h⟩:=ob h;cases h;refine JA (o.rm lv) (n8 o) (j.e o u) (j.e o B) (j.e o E) (λv=>?_) ?_ ?_
 ·cases b<;>first|rfl|cases c
 ·cases d<;>rfl
 ·cases d<;>rfl
def Ed:cT:=λR g e=>CP e λks h p=>n0 ks (n0 h (some (yo (if g.tx p=true then 78 else 77))))
def BM:SE Ed:=λ{j n R} v {g X} o {a u} h=>by
 replace h:=wz h;obtain⟨ks,y,p,rfl,h⟩:=h;replace h:=di h;obtain⟨rfl,h⟩:=h;replace h:=di h;obtain⟨rfl,h⟩:=h;cases h;exact LS _ (by split<;>simp) (n8 o)
def Ee:cT:=λR g e=>if g.tx e.pos=true then(cR R g "len" e).bind λq=>if notStar q.1=true then some (lB q.2) else none else none
def BN:SE Ee:=λ{z n R} v {g X} o {a B} h=>by
 obtain⟨_,h⟩:=oi h;obtain⟨⟨b,y⟩,u,h⟩:=ob h;obtain⟨c,h⟩:=oi h;cases h;obtain⟨_,_,rfl,j,hm,_,d,hs⟩:=qf v o u;exact LU (n8 o) j hm d c
def zf:cT:=λR g e=>Od e λB E u h p=>n1 u λc=>nG c λz j v=>let own:=xM z
 n0 v (if wo g own h/\kv j=true then(R.w g z j).bind λw=>(cG (g.inC own h) z).bind λt=>(R.e (g.inC own h) B).bind λx=>(R.e (g.inC own h) E).bind λy=>if (slots t).all (· < own.length)=true then some (kC (if g.tx p=true then 78 else 77) own.length t w (jS x y)) else none else none)
def ze:SE zf:=λ{Q n R} u {g X} o {a U} h=>by
 replace h:=Kv h;obtain⟨W,vx,z,v,p,rfl,h⟩:=h;replace h:=cv h;obtain⟨c,rfl,h⟩:=h;replace h:=sV h;obtain⟨Y,B,P,rfl,h⟩:=h;replace h:=di h;obtain⟨rfl,h⟩:=h;replace h:=oi h;obtain⟨⟨c,F⟩,h⟩:=h;obtain⟨w,J,h⟩:=ob h;obtain⟨t,I,h⟩:=ob h;obtain⟨x,L,h⟩:=ob h;obtain⟨y,M,h⟩:=ob h;obtain⟨E,h⟩:=oi h;cases h;obtain⟨S,O⟩:=yz o c;exact Ib (by split<;>simp) (n8 o) S (o.calm c.1) (u.w o J) {λcl C j s H=>jV (O cl C j s H) I,λcl C j s H a=>HZ ((O cl C j s H).rm Nat.zero_lt_one) (n8 o) (u.e (O cl C j s H) L) (u.e (O cl C j s H) M)} (by simpa using kS E) (wV F)
def yP:jz:=λR g st=>N5 st λc body h _=>n0 h (if g.lv=2 then(R.t g c).bind λt=>(mM (R.s g) body).bind λb=>some (iz t b) else none)
def yO:SS yP:=λ{z n R} j {g X} o {a B} h=>by
 replace h:=JD h;obtain⟨c,body,y,p,rfl,h⟩:=h;replace h:=di h;obtain⟨rfl,h⟩:=h;replace h:=oi h;obtain⟨lv,h⟩:=h;obtain⟨t,v,h⟩:=ob h;obtain⟨b,u,h⟩:=ob h;cases h;exact GF (o.po lv) (j.t o v) (fV (j.s o) u)
def Jd:cT:=λR g e=>(cR R g "any" e).bind λq=>if notStar q.1=true then some (qU q.2) else none
def F6:SE Jd:=λ{z n R} v {g X} o {a B} h=>by
 obtain⟨⟨b,y⟩,u,h⟩:=ob h;obtain⟨c,h⟩:=oi h;cases h;obtain⟨_,_,rfl,j,hm,lv,d,hs⟩:=qf v o u;exact NM (o.calm lv) j hm d c
def N0:cT:=λR g e=>CP e λks h p=>n1 ks λk=>k.bind λk=>n1 h λv=>if 0<g.lv then(R.e g k).bind λx=>(R.e g v).bind λy=>some (wR (if g.tx p=true then 78 else 77) x y) else none
def Ja:SE N0:=λ{B n R} j {g X} o {a E} h=>by
 replace h:=wz h;obtain⟨ks,F,p,rfl,h⟩:=h;replace h:=cv h;obtain⟨k,rfl,h⟩:=h;obtain⟨k,rfl,h⟩:=QT.mp h;replace h:=cv h;obtain⟨v,rfl,h⟩:=h;replace h:=oi h;obtain⟨lv,h⟩:=h;obtain⟨x,u,h⟩:=ob h;obtain⟨y,z,h⟩:=ob h;cases h;exact Ia _ (by split<;>simp) (o.rm lv) (n8 o) (j.e o u) (j.e o z)
def DR:jz:=λR g st=>Cm st λe _=>EB e λa m d q=>if m="append"/\gu a=true/\q=true/\notStar d=true then(R.e g a).bind λx=>(R.x g d).bind λy=>some (ni x y) else none
def Bw:SS DR:=λ{F n R} j {g X} o {a H} h=>by
 replace h:=qw h;obtain⟨e,_,rfl,h⟩:=h;replace h:=ux h;obtain⟨a,m,q,d,p,rfl,h⟩:=h;replace h:=oi h;obtain⟨⟨rfl,u,v,z⟩,h⟩:=h;obtain⟨x,B,h⟩:=ob h;obtain⟨y,E,h⟩:=ob h;cases h;exact HN (j.e o B) (j.x o E) (c8 u) v (bf z) rfl
def iJ (f:D->D->Mem->Option D)(a b:GE):GE:=λh M=>match a h M with
 | .ok x M=>(match b h M with
   |.ok y M=>bS M (f x y M)
   |_=>.bad)
 |.err x M=>.err x M
 |.bad=>.bad
def u2 (x y:D)(M:Mem):Option D:=match x with
 |.fn o=>getD M o y
 |_=>none
section
variable{fa:Fa}{X:Cx}{a b:Expr}{ga gb:GE}{pos:Pos}{f:D->D->Mem->Option D}
def N3 {R:V->V->Hp->Prop}(U:a8 fa X.K μ H σ Z)(hM:RelM fa X.K μ H M)(h:dS (iJ f ga gb Z M) (aW fa X.K μ H Q) (λx M'=>XW fa X μ H x Z M'))
 (k:∀x y d B v u z j,Ext μ H j z->RelM fa X.K j z B->Rep fa X.K j z x v->Rep fa X.K j z y u->f x y B=some d->aW fa X.K μ H Q d B->R v u z) :
 Jm fa X ga σ H λv S=>tE fa X.K gb σ S λu z=>R v u z:=by
 refine{μ,Z,M,U,hM,?_};unfold iJ at h;cases F:ga Z M with
 |bad=>rw[F] at h;exact h.elim
 |err y E=>rw[F] at h;exact h
 | ok x E=>
   rw[F] at h;dsimp only at h;intro v S P W L rx;refine{P,Z,E,U.ext W,L,?_};cases I:gb Z E with
   |bad=>rw[I] at h;exact h.elim
   |err y B=>rw[I] at h;exact h.elim
   | ok y B=>
     rw[I] at h;dsimp only at h;intro u z j Y O ry;cases J:f x y B with
     |none=>rw[J] at h;exact h.elim
     |some d=>rw[J] at h;exact k x y d B v u z j (W.trans Y) O (rx.ext Y) ry J h
def Mo (I:DX fa X a ga)(J:DE fa X b gb)(hs:gG b):DX fa X (.Subscript a b pos) (iJ bO ga gb):=
 a9 (pH E9 I J hs) λS H Q ⟨P,R,M,E,F,h⟩=>N3 E F h λx y d B v u O z L j r1 r2 e q=>{z,B,x,y,d,j,r1,r2,e,q.ext L}
def IK (L:Rm X)(hd:hJ fa)(I:DX fa X a ga)(J:DE fa X b gb)(hs:gG b):DX fa X (.Subscript a b pos) (iJ u2 ga gb):=
 a9 (pH (E7 L hd) I J hs) λU H Q ⟨R,S,M,E,F,h⟩=>N3 E F h λx y d B v u P z O j r1 r2 e q=>by
  cases x with
  |fn o=>exact{z,B,o,y,d,j,r1,r2,e,aW.ext q O}
  |_=>cases e
end
def IG:cT:=λR g e=>qH e λa b p=>if jh b=true/\0<g.lv then(R.x g a).bind λx=>(R.e g b).bind λy=>some (if g.tx p=true then iJ u2 x y else iJ bO x y) else none
def FL:SX IG:=λ{fa n R} j {g X} o {a ga} h=>by
 replace h:=i5 h;obtain⟨a,b,p,rfl,h⟩:=h;replace h:=oi h;obtain⟨⟨c,lv⟩,h⟩:=h;obtain⟨x,u,h⟩:=ob h;obtain⟨y,v,h⟩:=ob h;cases h;split
 ·exact IK (o.rm lv) (n8 o) (j.x o u) (j.e o v) (jg c)
 ·exact Mo (j.x o u) (j.e o v) (jg c)
structure Ent where
 i:Nat
 x:Str
 st:Stmt
 ps:Nat
 N:List Str
 f:Addr
 pm:Str×Tok
 b:Call->GS
 r:Bool:=false
 q:Option Str:=none
 df:Addr:=0
noncomputable def Ent.qn (e:Ent):Str:=e.q.getD e.x
structure mW where
 T:List (Str×En)
 tw:List (Str×Str×Nat×Nat)
 xf:List Str
 dl:List (Str×List (Str×Nat))
 il:List (Str×Nat)
 cel:List (Nat×Nat×Nat)
 txt:List (Nat×Nat×Nat)
 ms:List (Str×Nat×Nat)
 rs:Rs
 tb:List Ent
def mW.g (t:mW)(e:Ent)(c:Call):G:={t.T,t.tw,t.xf,t.cel,t.txt,t.ms,c,e.N,a7 e.st,2,[]}
noncomputable def mW.Pg (t:mW)(i:Nat):Option Df:=(t.tb.find? (·.i==i)).map λe=>⟨e.ps,e.N.length,e.b⟩
def mW.rd (t:mW)(c:Call)(e:Ent):Option GS:=mM ((It t.rs 60).s (t.g e c)) (cQ e.st)
def Dj (e:Ent):Bool:=decide ((a7 e.st).kind=.function)&&!(a7 e.st).isCoroutine&&!(a7 e.st).isGenerator&&decide e.N.Nodup&&((e.N.take e.ps).length==e.ps)&&((e.N.take e.ps).all λx=>(a7 e.st).names.lookup x==some .local||(a7 e.st).names.lookup x==some .cell)&&((a7 e.st).names.all (·.2 != .free))
def p6 (h:Dj e=true):i8 e.N (e.N.take e.ps) (a7 e.st)/\(e.N.take e.ps).length=e.ps:=by
 unfold Dj at h;simp only[Qw,decide_eq_true_eq,Bool.not_eq_true',QY,Si,beq_iff_eq,bne_iff_ne] at h;obtain⟨⟨⟨⟨⟨⟨h1,h2⟩,h3⟩,h4⟩,j⟩,u⟩,v⟩:=h;exact{{h1,h2,h3,h4,by rw[j],u,v},j}
noncomputable def Ent.dV (e:Ent):Qt:=if e.df=0 then .none else .ref e.df
def Lj (e:Ent):Option Obj:=some {.type "function",none,.func (PySem.W.fnOf e.x e.qn (eZ e.st) (cQ e.st) (a7 e.st) e.dV .none .none (.str e.pm.1 e.pm.2) none (.ref (e.f-1)) .none),#[]}
def mz {j u:Type}{f g:j->u}{l:List j}(h:l.map f=l.map g){a:j}(m:a∈l):f a=g a:=List.map_inj_left.mp h a m
def oU (e:Ent)(us:List Qt)(kV j pm:Qt)(u:Option Addr)(h ct:Qt):Sem (List (Str×Qt)):=bindArgs (PySem.W.fnOf e.x e.qn (eZ e.st) (cQ e.st) (a7 e.st) e.dV kV j pm u h ct) {us,[]}
def m5 (tb:List Ent)(k:Nat)(us:List Qt):Prop:=∀(kV j pm:Qt) (u:Option Addr) (h ct:Qt),(tb.filter λe=>e.ps==k&&e.df==0).map (λe=>oU e us kV j pm u h ct)=(tb.filter λe=>e.ps==k&&e.df==0).map λe=>pure ((e.N.take e.ps).zip us)
structure yH (t:mW):Prop where
 rs:DG t.rs
 rd:∀c,t.tb.map (t.rd c)=t.tb.map λe=>some (e.b c)
 sc:t.tb.all Dj=true
 ar:t.tb.all (λe=>e.ps==0||e.ps==1||e.ps==2||e.ps==3||e.ps==4||e.ps==6||e.ps==5)=true
 a0:m5 t.tb 0 []
 a1:∀a,m5 t.tb 1 [a]
 a2:∀a b,m5 t.tb 2 [a,b]
 a3:∀a b c,m5 t.tb 3 [a,b,c]
 a4:∀a b c d,m5 t.tb 4 [a,b,c,d]
 a6:∀a b c d e f,m5 t.tb 6 [a,b,c,d,e,f]
 a5:∀a b c d e,m5 t.tb 5 [a,b,c,d,e]
 ad:AllP (λe=>e.ps=2/\∀(a b kV doc pm:Qt) (an:Option Addr) (cdv ct:Qt),∃k k1,oU e [a,b] kV doc pm an cdv ct=seqItems? (.ref e.df) >>= k/\k (some #[.none])=pure ((e.N.take e.ps).zip [a,b])/\oU e [a] kV doc pm an cdv ct=seqItems? (.ref e.df) >>= k1/\k1 (some #[.none])=pure ((e.N.take e.ps).zip [a,.none])) (t.tb.filter λe=>!(e.df==0))
structure Bq (K:Qr) (tb:List Ent):Prop where
 ns:(tb.filter (·.q.isNone)).map (λe=>PySem.W.nsIn K mainGlobals e.x)=(tb.filter (·.q.isNone)).map λe=>some (some (.ref e.f))
 lk:tb.map (λe=>K.lookup e.f)=tb.map Lj
 dk:tb.all (λe=>e.df==0||(match K.lookup e.df with|some {_,_,.seq its _,_}=>its==#[.none]|_=>false))=true
 ck:tb.all (λe=>PySem.W.codeIn K (.ref (e.f-1)) e.qn&&PySem.W.keepIn K (.ref e.f))=true
def Jj {K:Qr}{tb:List Ent}(k:Bq K tb)(m:e∈tb):yM K e.x e.qn e.st e.f (PySem.W.fnOf e.x e.qn (eZ e.st) (cQ e.st) (a7 e.st) e.dV .none .none (.str e.pm.1 e.pm.2) none (.ref (e.f-1)) .none):=by
 have c:=QY.mp k.ck e m;rw[Qw] at c;exact{{_,_,_,_,_,_,_,_,_,_,rfl,mz k.lk m,c.1},c.2}
def Gb {K:Qr}{h:Heap}(k:Bq K tb)(X:K.In h)(G:h.Ns mainGlobals mg)(m:e∈tb)(u:e.q.isNone=true)(hd:e.df=0):mg e.x=some (.ref e.f)/\∃j,xp K e.x e.qn e.st e.f j:=by
 have c:=QY.mp k.ck e m;rw[Qw] at c;have l:=mz k.lk m;unfold Lj Ent.dV at l;rw[if_pos hd] at l;exact{RX X G (mz k.ns (SI.mpr ⟨m,u⟩)),_,Ld l c.1 c.2}
def us6 {j:Type}{p:List j->Prop}(h:∀a b c d e f,p [a,b,c,d,e,f]):∀(us:List j) (hl:us.length=6),p us
 |[a,b,c,d,e,f],_=>h a b c d e f
def us5 {j:Type}{p:List j->Prop}(h:∀a b c d e,p [a,b,c,d,e]):∀(us:List j) (hl:us.length=5),p us
 |[a,b,c,d,e],_=>h a b c d e
def B2 {t:mW}(T:yH t){e:Ent}(m:e∈t.tb)(H:e.df=0)(kV B pm:Qt)(E:Option Addr)(j ct:Qt):∀us:List Qt,us.length=(e.N.take e.ps).length->oU e us kV B pm E j ct=pure ((e.N.take e.ps).zip us):=by
 have hl:=(p6 (QY.mp T.sc e m)).2;have a:=QY.mp T.ar e m;have f:∀{k:Nat}{us:List Qt},e.ps=k->m5 t.tb k us->oU e us kV B pm E j ct=pure ((e.N.take e.ps).zip us):=λ{k us} hk F=>mz (F kV B pm E j ct) (SI.mpr {m,by rw[hk,H];simp})
 rw[hl];simp only[Si,beq_iff_eq] at a;rcases a with(((((a|a)|a)|a)|a)|a)|a
 ·rw[a];exact λus h=>by rw[SF.mp h];exact a ▸ f a T.a0
 ·rw[a];exact us1 λx=>a ▸ f a (T.a1 x)
 ·rw[a];exact us2 λx y=>a ▸ f a (T.a2 x y)
 ·rw[a];exact us3 λx y z=>a ▸ f a (T.a3 x y z)
 ·rw[a];exact us4 λx y z u=>a ▸ f a (T.a4 x y z u)
 ·rw[a];exact us6 λx y z u v w=>a ▸ f a (T.a6 x y z u v w)
 ·rw[a];exact us5 λx y z u v=>a ▸ f a (T.a5 x y z u v)
section
variable{fa:Fa}{P:Rv}{w:Rf}{K:Qr}{mg:Str->Option Qt}{base:Heap}{t:mW}
def tH (T:yH t)(TO:Fv fa P w K mg base t.T)(tw:∀q∈t.tw,xn fa K mg q.1 q.2.1 q.2.2.1 q.2.2.2)(xf:∀f∈t.xf,Ft fa K f)(ms:∀q∈t.ms,qo fa K q.1 q.2.1 q.2.2){e:Ent}(m:e∈t.tb){ad:Addr}(call:Call)(n:Nat)(j:Qt)(A:R9)(outer:List R1)(s:QC)(H:Hp)(E:XK)
 (C:∀f,dZ fa P w K mg base n f (call f)) (hr:bP (2*n+5) (A.deeper (envOfC e.qn (a7 e.st) s.heap.objs.size ad j))):jE fa (gn (iH P w) P w K mg base e.N e.qn (a7 e.st) ad j A outer s H E) (cQ e.st) (e.b call):=by
 have S:=(p6 (QY.mp T.sc e m)).1;exact fV ((FC T.rs 60).s (g:=t.g e call) (X:=gn (iH P w) P w K mg base e.N e.qn (a7 e.st) ad j A outer s H E) {rfl,S.nd,rfl,TO,tw,xf,ms,λ_ _=>rfl,(λ_ h=>nomatch h),λ_=>rfl,λ_=>C,λ_=>hr,λ_=>⟨rfl,rfl,rfl,S.kind⟩,λ_=>PassesOwn.leaving}) (mz (T.rd call) m)
set_option tactic.hygienic true in
def zr (k:Bq K tb)(m:en∈tb)(h:en.df≠0)(X:K.In s.heap)(e1:oU en us .none .none (.str en.pm.1 en.pm.2) none (.ref (en.f-1)) .none=seqItems? (.ref en.df) >>= kk)(e2:kk (some #[.none])=pure out) :
 BindsTo s (PySem.W.fnOf en.x en.qn (eZ en.st) (cQ en.st) (a7 en.st) en.dV .none .none (.str en.pm.1 en.pm.2) none (.ref (en.f-1)) .none) {us,[]} out:=by
 have dk:=QY.mp k.dk en m;rw[Si] at dk;rcases dk with dk|dk
 ·exact absurd (eq_of_beq dk) h
 split at dk
 ·next lk=>
  have q:=eq_of_beq dk;subst q;exact BindsTo.of_defaults (by show en.dV=_;unfold Ent.dV;rw[if_neg h]) (X _ _ lk) rfl (by show oU en us _ _ _ _ _ _=seqItems? en.dV >>= _;unfold Ent.dV;rw[if_neg h];exact e1) e2
 ·cases dk
def B1 (T:yH t)(k:Bq K t.tb)(X:K.In h)(G:h.Ns mainGlobals mg)(TO:Fv fa P w K mg base t.T)(tw:∀q∈t.tw,xn fa K mg q.1 q.2.1 q.2.2.1 q.2.2.2)(xf:∀f∈t.xf,Ft fa K f)(ms:∀q∈t.ms,qo fa K q.1 q.2.1 q.2.2)(hf:t.tb.all (λe=>fa e.i==some e.f&&(!(fa (500+e.i)).isSome||!(e.df==0)))=true) :
 ∀f d,t.Pg f=some d->yN fa P w K mg base f d:=by
 intro f d e;obtain⟨en,he,rfl⟩:=QG.mp e;have m:=Sr he;have J:en.i=f:=by have:=List.find?_some he;simpa using this
 have F:=Jj k m;obtain⟨S,hl⟩:=p6 (QY.mp T.sc en m);have u:=QY.mp hf en m;rw[Qw,Si] at u;have M:fa f=some en.f:=by rw[<- J];exact eq_of_beq u.1
 have B:Binds K (PySem.W.fnOf en.x en.qn (eZ en.st) (cQ en.st) (a7 en.st) en.dV .none .none (.str en.pm.1 en.pm.2) none (.ref (en.f-1)) .none) (en.N.take en.ps) []:=by
  by_cases v:en.df=0
  ·exact .all (B2 T m v _ _ _ _ _ _)
  ·intro s I X j;obtain⟨h2,hk⟩:=T.ad.mem en (SI.mpr {m,by simpa using v})
   rw[Q8] at j ⊢;rw[hl,h2] at j
   match I,j with
   | [a,b],_=>
     obtain⟨kk,_,e1,e2,_⟩:=hk a b .none .none (.str en.pm.1 en.pm.2) none (.ref (en.f-1)) .none;exact zr k m v X e1 e2
 have L:(fa (500+f)).isSome=true->Binds K (PySem.W.fnOf en.x en.qn (eZ en.st) (cQ en.st) (a7 en.st) en.dV .none .none (.str en.pm.1 en.pm.2) none (.ref (en.f-1)) .none) (en.N.take en.ps) [.none]:=λhs s I X j=>by
  have v:en.df≠0:=by
   rcases u.2 with z|z
   ·rw[J,hs] at z;cases z
   ·simpa using z
  obtain⟨h2,hk⟩:=T.ad.mem en (SI.mpr {m,by simpa using v})
  rw[hl,h2,Q6] at j
  match I,j with
  | [a],_=>
    obtain⟨_,kk,_,_,e1,e2⟩:=hk a .none .none .none (.str en.pm.1 en.pm.2) none (.ref (en.f-1)) .none;exact zr k m v X e1 e2
 exact{en.f,_,en.N.take en.ps,en.N,en.st,en.x,en.qn,M,F,B,L,S,hl.symm,rfl,λcall n y A outer s H E C hr=>tH T TO tw xf ms m call n y A outer s H E C hr}
noncomputable def Ll (K:Qr)(fa:Fa)(t:mW)(p:Str×En):Bool:=match p.2 with
 |.fn i _=>(match PySem.W.nsIn K mainGlobals p.1 with|some (some (.ref a))=>fa i==some a|_=>false)
 |.fnD i=>(match PySem.W.nsIn K mainGlobals p.1 with|some (some (.ref a))=>fa i==some a&&(fa (500+i)).isSome|_=>false)
 |.int i=>(match PySem.W.nsIn K mainGlobals p.1 with|some (some (.int j _))=>i==j|_=>false)
 |.str i=>(match PySem.W.nsIn K mainGlobals p.1 with|some (some (.str j _))=>i==j|_=>false)
 |.xc k=>(match PySem.W.nsIn K mainGlobals p.1 with|some (some (.ref a))=>fa (eY k)==some a&&PySem.W.excIn K a Bg "ValueError.__new__"&&PySem.W.keepIn K (.ref a)|_=>false)
 |.xi k=>(match PySem.W.nsIn K mainGlobals p.1 with|some (some (.ref a))=>fa (eY k)==some a&&t.il.contains (p.1,k)|_=>false)
 |.xk k=>(match PySem.W.nsIn K mainGlobals p.1 with|some (some (.ref a))=>fa (eY k)==some a|_=>false)
 |.de=>(match PySem.W.nsIn K mainGlobals p.1 with|some (some (.ref a))=>fa 999==some a|_=>false)
 |.bl=>(match PySem.W.nsIn K mainGlobals p.1 with|some none=>true|_=>false)
 |.dct fs=>t.dl.contains (p.1,fs)
 |.cls c f=>(match PySem.W.nsIn K mainGlobals p.1 with|some (some (.ref a))=>fa (fg c)==some a&&PySem.W.makesIn K a&&PySem.W.keepIn K (.ref a)&&(match fa f with|some ad=>PySem.W.findIn K (.ref a) "__init__"==some (some (.ref ad))&&PySem.W.isFn K (.ref ad)|none=>true)|_=>false)
set_option tactic.hygienic true in
def Ga (X:K.In h)(G:h.Ns mainGlobals mg)(I:t.T.all (Ll K fa t)=true)(J:om fa K)(z:Br fa K)(E:∀o,5000<=o->fa o=none)(B:fa (fg 77)=none/\fa (fg 78)=none)(hd:AllP (λq=>∃ad j,mg q.1=some (.ref ad)/\fH K w.params ad j/\eB fa j q.2) t.dl)(hi:AllP (λq=>Bs fa P w K mg base q.2 q.1) t.il):Fv fa P w K mg base t.T:=by
 have F:∀{x:Str}{e:En},t.T.lookup x=some e->Ll K fa t (x,e)=true:=λ{x e} l=>QY.mp I _ (mem_of_lookup l);refine{λ{x i r} l ad v=>?_,λ{x i} l=>?_,λ{x i} l=>?_,λ{x i} l=>?_,λ{x fs} l=>?_,λ{x k} l=>?_,λ{x k} l=>?_,λ{x k} l=>?_,λ{x} l=>?_,λ{x} l=>?_,J,z,E,B,λ{x c f} l=>?_};all_goals have b:=F l;unfold Ll at b;dsimp only at b
 ·split at b
  ·next e=>have b:=eq_of_beq b;rw[v] at b;cases b;exact RX X G e
  ·cases b
 ·split at b
  ·next e=>rw[Qw] at b;exact{λad v=>by have H:=eq_of_beq b.1;rw[v] at H;cases H;exact RX X G e,b.2}
  ·cases b
 ·split at b
  ·next e=>have b:=eq_of_beq b;subst b;exact{_,RX X G e}
  ·cases b
 ·split at b
  ·next e=>have b:=eq_of_beq b;subst b;exact{_,RX X G e}
  ·cases b
 ·exact hd.mem (x,fs) (List.contains_iff_mem.mp b)
 ·split at b
  ·next e=>simp only[Qw] at b;exact{_,RX X G e,eq_of_beq b.1.1,b.1.2,b.2}
  ·cases b
 ·split at b
  ·next e=>rw[Qw] at b;exact{hi.mem (x,k) (List.contains_iff_mem.mp b.2),_,RX X G e,eq_of_beq b.1}
  ·cases b
 ·split at b
  ·next e=>exact{_,RX X G e,eq_of_beq b}
  ·cases b
 ·split at b
  ·next e=>exact{_,RX X G e,eq_of_beq b}
  ·cases b
 ·split at b
  ·next e=>exact PySem.W.mg_none_of X G e
  ·cases b
 ·split at b
  ·next a e=>
   simp only[Qw] at b;refine{a,RX X G e,eq_of_beq b.1.1.1,λad y=>?_};have u:=b.2;rw[y] at u;simp only[Qw] at u;exact{b.1.1.2,eq_of_beq u.1,u.2,b.1.2}
  ·cases b
end
noncomputable def yC (K:Qr)(C:Addr):Bool:=PySem.W.plainGet K C Str.empty&&PySem.W.hasDictIn K C&&PySem.W.plainOver K C&&PySem.W.findIn K (.ref C) "__setattr__"==some (some (.builtin "object.__setattr__"))
def Bb {K:Qr}(h:yC K C=true):iG K C:=by
 unfold yC at h;simp only[Qw] at h;exact{h.1.1.1,h.1.1.2,h.1.2,eq_of_beq h.2}
def Kp (K:Qr)(fa:Fa):Bool:=match fa (fg 40) with
 |some C=>yC K C&&(bJ 40).all λf=>PySem.W.findIn K (.ref C) f==some none
 |none=>true
def Ko {K:Qr}(h:Kp K fa=true):Br fa K:=λc C e ne=>by
 have j:c=40:=by
  unfold bJ at ne;split at ne
  ·rfl
  ·exact absurd rfl ne
 subst j;unfold Kp at h;rw[e] at h;simp only[Qw,QY] at h;exact{Bb h.1,λf m=>eq_of_beq (h.2 f m)}
def KC (K:Qr)(fa:Fa)(q:Str×Nat×Nat):Bool:=match fa (fg q.2.1) with
 | some C=>yC K C && (match fa q.2.2 with
   |some ad=>PySem.W.findIn K (.ref C) q.1==some (some (.ref ad))&&PySem.W.isFn K (.ref ad)&&PySem.W.keepIn K (.ref ad)
   |none=>true)&&!(bJ q.2.1).contains q.1&&!(bJ q.2.1).isEmpty
 |none=>false
def KA {K:Qr}{l:List (Str×Nat×Nat)}(h:l.all (KC K fa)=true):∀q∈l,qo fa K q.1 q.2.1 q.2.2:=λq m=>by
 have h:=QY.mp h q m;unfold KC at h;cases e:fa (fg q.2.1) with
 |none=>rw[e] at h;cases h
 | some C=>
   rw[e] at h;simp only[Qw,Bool.not_eq_true'] at h;refine{C,e,Bb h.1.1.1,λad j=>?_,λz=>?_,λz=>?_}
   ·have b:=h.1.1.2;rw[j] at b;simp only[Qw] at b;exact{eq_of_beq b.1.1,b.1.2,b.2}
   ·have:=List.contains_iff_mem.mpr z;rw[h.1.2] at this;cases this
   ·rw[z] at h;exact absurd h.2 `d
def Dg {D:Addr}(h:cl.all (λq=>decide (q.1<4000))=true):∀o,5000<=o->uX l cl D o=none:=λo ho=>by
 unfold uX;rw[if_neg `a,if_neg `a]
 cases e:cl.lookup (o-1000) with
 |none=>rfl
 | some C=>
   have:=of_decide_eq_true (QY.mp h _ (lookup_mem e));omega
end LD
section
local macro_rules|`(#[$a,*])=>do return<-a.getElems.foldrM (β:=Lean.Term) (λx r=>`(LD.c6 $x $r)) (<-`(LD.bH))
local macro_rules|`(#v[$a,*])=>do return<-a.getElems.foldrM (β:=Lean.Term) (λx r=>`(LD.aS $x $r)) (<-`(LD.aE))
namespace LD
open PySem
abbrev gI (n:Int):GE:=gC (.int n)
abbrev gS (x:Str):GE:=gC (.str x)
abbrev gN:GE:=gC .non
abbrev Fb:GE:=gC (.bl true)
abbrev Lc:GE:=gC (.bl false)
abbrev rF:GS:=aS (aI Lc) aE
noncomputable def d4:List (Str×Nat):=[("turn",7),("join",8),("move",9),("put",10)]
def cz:List (Str×Nat):=[("turn",20),("join",21),("move",22),("put",23)]
def ju (c:Call):GS:=#v[aN (fJ (ao (cK .bool (aa 0))) (bM (ao (cK .int (aa 0))))) rF aE,aI (uV .le .le (aa 1) (aa 0) (aa 2))]
def mP (c:Call):GS:=#v[aI (ai 0 c #[aa 1,gI 0,au false .sub (aa 0) (gI 1)])]
def lR (c:Call):GS:=#v[aI (ai 0 c #[aa 1,gI 0,au false .sub (aa 0) (gI 1)])]
def mU (c:Call):GS:=#v[aI (ai 0 c #[aa 0,gI 1,gI 3])]
def iL (c:Call):GS:=#v[aI (fb (cK .tuple (aa 1)) (aG .eq (aL .len #[aa 1]) (aa 0)))]
def lQ (c:Call):GS:=#v[aI (fb (ai 4 c #[aa 0,aa 1]) (aL .all #[b8 false 1 (.one 0) (cZ (aa 1)) (b6 (ai 1 c #[aa 1,aa 0]))]))]
def fQ (c:Call):GS:=#v[aI (fb (ai 4 c #[aa 0,aa 1]) (aL .all #[b8 false 1 (.one 0) (cZ (aa 1)) (b6 (ai 5 c #[aa 1,aa 0]))]))]
def mQ (c:Call):GS:=#v[aN (ao (aG .ne (aL .len #[aa 2]) (gI 3))) rF aE,az (.tup [3,4,5]) (aa 2),aI (fb (ai 2 c #[aa 1,aa 3]) (fb (ai 5 c #[aa 0,aa 4]) (ai 3 c #[aa 5])))]
def mS (c:Call):GS:=#v[aN (ao (aG .ne (aL .len #[aa 2]) (gI 4))) rF aE,az (.tup [3,4,5,6]) (aa 2),aN (fJ (bM (ao (ai 2 c #[aa 1,aa 3]))) (bM (ao (ai 2 c #[aa 1,aa 4])))) rF aE,aI (fb (ai 6 c #[aa 0,aa 5]) (ai 3 c #[aa 6]))]
def mR (c:Call):GS:=#v[aN (ao (aG .ne (aL .len #[aa 2]) (gI 3))) rF aE,az (.tup [3,4,5]) (aa 2),aI (fb (ai 2 c #[aa 1,aa 3]) (fb (ai 2 c #[aa 1,aa 4]) (ai 3 c #[aa 5])))]
def oZ (c:Call):GS:=#v[aN (ao (aG .ne (aL .len #[aa 2]) (gI 3))) rF aE,az (.tup [3,4,5]) (aa 2),aI (fb (ai 2 c #[aa 1,aa 3]) (fb (ai 1 c #[aa 0,aa 4]) (ai 3 c #[aa 5])))]
def mT (c:Call):GS:=#v[aN (fJ (bM (ao (cK .tuple (aa 2)))) (bM (ao (aa 2)))) rF aE,az (.one 3) (aw (aa 2) (gI 0)),aN (fJ (bM (ao (cK .str (aa 3)))) (ao (iT d4 (aa 3)))) rF aE,az (.one 4) (lA d4 (aa 3)),aI (mI 4 c #[aa 0,aa 1,cx false true false (aa 2) (gI 1) gN])]
def jt (c:Call):GS:=#v[aN (bM (ao (ai 4 c #[gI 3,aa 0]))) rF aE,az (.tup [1,2,3]) (aa 0),aN (fJ (bM (ao (ai 0 c #[aa 1,gI 2,gI 4]))) (bM (ao (ai 0 c #[aa 2,gI 1,gI 2])))) rF aE,aN (fJ (bM (ao (cK .tuple (aa 3)))) (bM (ao (uV .le .le (gI 1) (aL .len #[aa 3]) (gI 6))))) rF aE,aI (aL .all #[b8 false 1 (.one 0) (cZ (aa 3)) (b6 (ai 11 c #[aa 2,aa 3,aa 0]))])]
def ie (c:Call):GS:=#v[aN (bM (ao (ai 12 c #[aa 0]))) #v[dQ 3 #[gS "this is no machine"]] aE]
def cf (c:Call):GS:=#v[jd (bI 13 c #[aa 0]),az (.tup [1,2,3]) (aa 0),az (.one 4) (aT false #[bW bH]),cM (.one 5) (dX (aa 2)) #v[az (.one 4) (b8 false 2 (.one 0) (cZ (aa 4)) (uU (.one 1) (dX (aa 3)) (b6 (au false .add (aa 0) (bW #[aa 1])))))],aI (aa 4)]
def gp (c:Call):GS:=#v[aI (ai 0 c #[aa 1,gI 0,au false .sub (aL .len #[aw (aa 0) (gI 2)]) (gI 1)])]
def ic (c:Call):GS:=#v[aN (bM (ao (cK .list (aa 1)))) #v[xG] aE,cM (.tup [2,3]) (gZ (aa 1)) #v[aN (bM (ao (ai 16 c #[aa 0,aa 3]))) #v[xG] aE]]
def lO (c:Call):GS:=#v[jd (bI 13 c #[aa 0]),jd (bI 17 c #[aa 0,aa 1]),aN (ao (aG .gt (aL .len #[aa 1]) (gI 40))) #v[dQ 4 #[sf "a row has at most " " deeds" (gI 40)]] aE]
def lM (c:Call):GS:=#v[az (.tup [2,3,4,5]) (aa 0),aI (aw (aa 4) (aw (aa 1) (aa 3)))]
def lP (c:Call):GS:=#v[az (.tup [2,3,4,5,6]) (aa 0),aI (aw (aw (aa 5) (aw (aa 1) (aa 3))) (aw (aa 1) (aa 4)))]
def nS (c:Call):GS:=#v[az (.tup [2,3,4,5]) (aa 0),aI (aw (aa 1) (aa 4))]
def lN (c:Call):GS:=#v[az (.tup [2,3,4,5]) (aa 0),aI (aa 4)]
def qi (c:Call):GS:=#v[az (.one 2) (lA cz (aw (aa 0) (gI 0))),az (.one 3) (aw (aa 0) (gI 1)),aI (au false .add (au false .add (cx false false true (aa 1) gN (aa 3)) (bW #[mI 2 c #[aa 0,aa 1]])) (cx false true false (aa 1) (au false .add (aa 3) (gI 1)) gN))]
def ig (c:Call):GS:=#v[az (.one 3) (aT true #[aa 2]),cM (.one 4) (cZ (aa 1)) #v[d3 (aa 3) (ai 24 c #[aw (aw (aa 0) (gI 2)) (aa 4),aw (aa 3) (cH (gI 1))])],aI (aa 3)]
def ix (c:Call):GS:=#v[jd (bI 18 c #[aa 0,aa 1]),aI (ai 46 c #[aa 0,aa 1])]
def lY (c:Call):GS:=#v[aN (ao (aG .ge (aa 0) (au false .pow (gI 10) (gI 18)))) #v[aI (aa 0)] aE,az (.one 2) (aT false #[gI 2147483629,gI 2147483587,gI 2147483579,gI 2147483563,gI 2147483549,gI 2147483543,gI 2147483497,gI 2147483489]),az (.one 2) (au false .add (aa 2) (aT false #[gI 2147483477,gI 2147483423,gI 2147483399,gI 2147483353,gI 2147483323])),az (.one 3) (au false .mod (au false .pow (au false .add (au false .add (au false .mul (au false .mod (aa 0) (gI 1000000007)) (au false .add (au false .mul (gI 2) (aa 1)) (gI 69069))) (au false .mul (aa 1) (gI 40503))) (gI 977)) (gI 3)) (aw (aa 2) (au false .mod (aa 1) (gI 13)))),az (.one 4) (au false .mod (au false .pow (au false .add (au false .add (au false .mul (aa 3) (au false .add (aa 1) (gI 3))) (au false .mod (aa 0) (gI 65537))) (gI 5)) (gI 5)) (aw (aa 2) (au false .mod (au false .add (aa 1) (gI 5)) (gI 13)))),az (.one 5) (au false .mod (au false .pow (au false .add (au false .add (aa 4) (au false .mod (aa 3) (gI 1009))) (aa 1)) (gI 3)) (aw (aa 2) (au false .mod (au false .add (aa 1) (gI 7)) (gI 13)))),aI (au false .add (au false .mul (au false .add (au false .mul (aa 3) (gI 2147483647)) (aa 4)) (gI 2147483647)) (aa 5))]
def j5 (c:Call):GS:=#v[az (.one 1) (aL (.list true) #[cx false false true (aa 0) gN (gI 12)]),cM (.tup [2,3]) (gZ (cx false true true (aa 0) (gI 12) (gI 63))) #v[eM (aa 1) (au false .mod (aa 2) (gI 12)) (au false .add (aw (aa 1) (au false .mod (aa 2) (gI 12))) (aa 3))],aI (aT true #[aa 1,gI 0,gI 0])]
def j6 (c:Call):GS:=#v[eM (aa 0) (gI 2) (gI 0),aI (aa 0)]
def og (c:Call):GS:=#v[aN (ao (aG .lt (aw (aa 0) (gI 2)) (aa 1))) #v[az (.one 2) (aw (aa 0) (gI 1)),az (.one 3) (gI 0),aN (ao (aG .lt (aa 2) (aL .len #[aw (aa 0) (gI 0)]))) #v[az (.one 3) (aw (aw (aa 0) (gI 0)) (aa 2))] #v[aN (ao (aG .gt (aL .len #[aw (aa 0) (gI 0)]) (gI 0))) #v[az (.one 3) (au false .mod (aw (aw (aa 0) (gI 0)) (au false .mod (au false .add (au false .mul (aa 2) (gI 5)) (gI 3)) (aL .len #[aw (aa 0) (gI 0)]))) (au false .add (au false .pow (gI 10) (gI 17)) (aa 2)))] aE],eM (aa 0) (gI 1) (au false .add (aa 2) (gI 1)),eM (aa 0) (gI 2) (ai 28 c #[aa 3,aa 2])] aE,az (.one 4) (au false .mod (aw (aa 0) (gI 2)) (aa 1)),eM (aa 0) (gI 2) (au false .fdiv (aw (aa 0) (gI 2)) (aa 1)),aI (aa 4)]
def iV (c:Call):GS:=#v[az (.one 2) (ai 31 c #[aa 0,gI 6]),az (.one 3) (ai 31 c #[aa 0,aa 1]),az (.one 4) (ai 31 c #[aa 0,aa 1]),aN (ao (aG .lt (aa 2) (gI 2))) #v[aI (aL .tuple #[b8 false 1 (.one 0) (dX (aa 1)) (b6 (ai 31 c #[aa 1,aa 2]))])] aE,aN (ao (aG .eq (aa 2) (gI 2))) #v[aI (aL .tuple #[b8 false 1 (.one 0) (dX (aa 1)) (b6 (au false .mod (au false .add (au false .add (aa 0) (gI 1)) (aa 4)) (aa 2)))])] aE,aN (ao (aG .eq (aa 2) (gI 3))) #v[aI (aL .tuple #[b8 false 1 (.one 0) (dX (aa 1)) (b6 (eP (ao (aG .eq (aa 0) (aa 4))) (aa 5) (aa 0)))])] aE,aN (ao (aG .eq (aa 2) (gI 4))) #v[aI (au false .mul (bW #[aa 3]) (aa 1))] aE,az (.one 5) (mH true (aa 1)),eM (aa 5) (aa 3) (aa 4),eM (aa 5) (aa 4) (aa 3),aI (aL .tuple #[aa 5])]
def iy (c:Call):GS:=#v[az (.one 3) (ai 31 c #[aa 0,gI 8]),az (.one 4) (au false .add (gI 1) (ai 31 c #[aa 0,gI 3])),az (.one 5) (ai 31 c #[aa 0,aa 2]),az (.one 6) (ai 31 c #[aa 0,aa 2]),aN (ao (aG .lt (aa 3) (gI 3))) #v[aI (bW #[gS "turn",aa 5,ai 32 c #[aa 0,aa 1],aa 4])] aE,aN (ao (aG .lt (aa 3) (gI 5))) #v[aI (bW #[gS "move",aa 5,eP (ao (aG .eq (aa 3) (gI 3))) (au false .mod (au false .add (aa 5) (gI 1)) (aa 2)) (aa 6),aa 4])] aE,aN (ao (aG .eq (aa 3) (gI 5))) #v[aI (bW #[gS "put",aa 5,ai 31 c #[aa 0,aa 1],aa 4])] aE,aI (bW #[gS "join",aa 5,aa 6,aL .tuple #[b8 false 1 (.one 0) (dX (aa 1)) (b6 (ai 32 c #[aa 1,aa 2]))],aa 4])]
def fG (c:Call):GS:=#v[az (.one 1) (au false .add (gI 2) (ai 31 c #[aa 0,au false .sub (aa 1) (gI 1)])),az (.one 2) (au false .add (gI 1) (ai 31 c #[aa 0,aa 2])),az (.one 4) (aT true bH),cM (.one 5) (dX (au false .add (gI 1) (ai 31 c #[aa 0,aa 3]))) #v[az (.one 6) (ai 31 c #[aa 0,gI 5]),az (.one 7) (ai 33 c #[aa 0,aa 1,aa 2]),aN (dI (ao (aG .eq (aa 6) (gI 0))) (ao (aG .ne (aa 4) (aT false bH)))) #v[az (.one 7) (au false .add (cx false false true (aw (aa 4) (ai 31 c #[aa 0,aL .len #[aa 4]])) gN (cH (gI 1))) (bW #[aw (aa 7) (cH (gI 1))]))] aE,d3 (aa 4) (aa 7)],aI (bW #[aa 1,aa 2,aL .tuple #[aa 4]])]
def g9 (c:Call):GS:=#v[az (.one 3) (ai 31 c #[aa 0,gI 4]),az (.one 4) (eP (ao (aG .eq (aa 3) (gI 0))) (aa 2) (ai 31 c #[aa 0,au false .add (aa 2) (gI 1)])),az (.one 5) (b8 false 1 (.one 0) (dX (aa 4)) (b6 (ai 31 c #[aa 1,aL .len #[aw (aa 2) (gI 2)]]))),aN (ao (aG .eq (aa 3) (gI 1))) #v[az (.one 5) (cx false false true (au false .mul (cx false false true (aa 5) gN (gI 2)) (aa 4)) gN (aa 4))] aE,aI (aa 5)]
def d5 (c:Call):GS:=#v[aN (ao (aG .isN (aa 1) gN)) #v[aI (aG .isN (aa 0) gN)] aE,aN (fJ (ao (cK .bool (aa 1))) (ao (cK .bool (aa 0)))) #v[aI (fb (cK .bool (aa 1)) (fb (cK .bool (aa 0)) (aG .eq (aa 0) (aa 1))))] aE,aN (ao (cK .int (aa 1))) #v[aI (fb (cK .int (aa 0)) (aG .eq (aa 0) (aa 1)))] aE,aN (ao (cK .str (aa 1))) #v[aI (fb (cK .str (aa 0)) (aG .eq (aa 0) (aa 1)))] aE,aN (fJ (ao (aG .ne (cK .tuple (aa 1)) (cK .tuple (aa 0)))) (ao (aG .ne (cK .list (aa 1)) (cK .list (aa 0))))) rF aE,aN (ao (aG .ne (aL .len #[aa 0]) (aL .len #[aa 1]))) rF aE,aI (aG .notin Lc (b8 false 2 (.tup [0,1]) (nH (aa 0) (aa 1)) (b6 (ai 40 c #[aa 0,aa 1]))))]
def jw (c:Call):GS:=#v[az (.one 2) (aL (.list true) #[aa 1]),az (.one 3) (aw (aa 1) (aw (aa 0) (gI 1))),aN (ao (aG .eq (aw (aa 0) (gI 0)) (gS "turn"))) #v[eM (aa 2) (aw (aa 0) (gI 1)) (aw (aw (aa 0) (gI 2)) (aa 3))] aE,aN (ao (aG .eq (aw (aa 0) (gI 0)) (gS "join"))) #v[eM (aa 2) (aw (aa 0) (gI 1)) (aw (aw (aw (aa 0) (gI 3)) (aa 3)) (aw (aa 1) (aw (aa 0) (gI 2))))] aE,aN (ao (aG .eq (aw (aa 0) (gI 0)) (gS "move"))) #v[eM (aa 2) (aw (aa 0) (gI 1)) (aw (aa 1) (aw (aa 0) (gI 2)))] aE,aN (ao (aG .eq (aw (aa 0) (gI 0)) (gS "put"))) #v[eM (aa 2) (aw (aa 0) (gI 1)) (aw (aa 0) (gI 2))] aE,aI (aL .tuple #[aa 2])]
def iM (c:Call):GS:=#v[aN (ao (aG .eq (aw (aa 0) (gI 1)) (gI 1))) #v[aI (b8 false 1 (.one 0) (dX (aw (aa 0) (gI 0))) (b6 (bW #[aa 0])))] aE,aI (b8 false 1 (.one 0) (dX (au false .mul (aw (aa 0) (gI 0)) (aw (aa 0) (gI 0)))) (b6 (bW #[au false .fdiv (aa 0) (aw (aa 1) (gI 0)),au false .mod (aa 0) (aw (aa 1) (gI 0))])))]
def e9 (c:Call):GS:=#v[az (.one 2) (aT true bH),cM (.one 3) (cZ (ai 42 c #[aa 0])) #v[cM (.one 4) (cZ (aa 1)) #v[az (.one 3) (ai 41 c #[aw (aw (aa 0) (gI 2)) (aa 4),aa 3])],d3 (aa 2) (aa 3)],aI (aL .tuple #[aa 2])]
def gE (c:Call):GS:=#v[aI (aL .tuple #[b8 false 1 (.one 0) (cZ (ai 15 c #[aa 0])) (b6 (aw (ai 25 c #[aa 1,aa 2,aa 0]) (cH (gI 1))))])]
def f9 (c:Call):GS:=#v[aI (aL .sum #[b8 false 1 (.one 0) (cZ (aa 1)) (b6 (aw (aw (aw (aa 1) (gI 2)) (aa 0)) (cH (gI 1))))])]
def oY (c:Call):GS:=#v[dF (.one 3) (bI 27 c #[aa 0,aa 1]),dF (.one 4) (bI 27 c #[aa 0,aa 2]),cM (.tup [5,6,7]) (nF (ai 15 c #[aa 0]) (aa 3) (aa 4)) #v[aN (ao (aG .ne (aa 6) (aa 7))) #v[aI (aa 5)] aE],aI gN]
def dt (c:Call):GS:=#v[az (.one 1) (aT false #[bQ (some 0) (aa 0),bQ (some 1) (aa 0),bQ (some 2) (aa 0)]),az (.one 1) (au false .add (aa 1) (aT false #[bQ (some 3) (aa 0),bQ (some 4) (aa 0),bQ (some 5) (aa 0)])),az (.one 1) (au false .add (aa 1) (aT false #[bQ (some 6) (aa 0),bQ (some 7) (aa 0),bQ (some 8) (aa 0)])),az (.one 1) (au false .add (aa 1) (aT false #[bQ (some 9) (aa 0),bQ (some 10) (aa 0),bQ (some 11) (aa 0)])),az (.one 1) (au false .add (aa 1) (aT false #[bQ (some 12) (aa 0),bQ (some 13) (aa 0)])),aN (fJ (ao (aG .ne (yp (aa 1)) (gI 1))) (fJ (bM (ao (bQ none (aa 0)))) (bM (ao (bQ none (aa 0)))))) #v[aI (aT false #[gS "odd"])] aE,aN (ao (aw (aa 1) (gI 0))) #v[aI (aT false #[gS "row",bR "place" (aa 0)])] aE,aN (ao (aw (aa 1) (gI 1))) #v[aI (aT false #[gS "rule",bR "number" (aa 0)])] aE,aN (ao (aw (aa 1) (gI 2))) #v[aI (aT false #[gS "step",bR "place" (aa 0)])] aE,az (.one 2) (aT false #[gS "machine",gS "long",gS "word",gS "work",gS "bound",gS "many",gS "place",gS "deed",gS "nothing",gS "text",gS "line"]),aI (aT false #[aw (aa 2) (au false .sub (yn (aa 1)) (gI 3))])]
def jv (c:Call):GS:=#v[aI (aL .sum #[b8 false 1 (.one 0) (cZ (aa 1)) (b6 (aw (aw (aw (aa 1) (gI 2)) (aa 0)) (cH (gI 1))))])]
def jX (c:Call):GS:=#v[jd (bI 18 c #[aa 1,aa 2]),ik "machine" (aa 0) (aa 1),ik "standing" (aa 0) (aL (.list false) #[aa 2]),ik "earlier" (aa 0) (aT true bH)]
def qk (c:Call):GS:=#v[aI (aL (.list true) #[bR "standing" (aa 0)])]
def oj (c:Call):GS:=#v[aI (ai 47 c #[bR "machine" (aa 0),bR "standing" (aa 0)])]
def jx (c:Call):GS:=#v[aI (ai 46 c #[bR "machine" (aa 0),bR "standing" (aa 0)])]
def iW (c:Call):GS:=#v[aN (bM (ao (ai 0 c #[aa 1,gI 0,aL .len #[bR "standing" (aa 0)]]))) #v[dQ 9 #[gS "no deed can be put in there"]] aE,aN (bM (ao (ai 16 c #[bR "machine" (aa 0),aa 2]))) #v[dQ 10 #[gS "the machine has no such deed"]] aE,aN (ao (aG .ge (aL .len #[bR "standing" (aa 0)]) (gI 40))) #v[dQ 4 #[sf "a row has at most " " deeds" (gI 40)]] aE,aI (cy 40 136 c (aa 0) #[au false .add (au false .add (cx false false true (bR "standing" (aa 0)) gN (aa 1)) (aT false #[aa 2])) (cx false true false (bR "standing" (aa 0)) (aa 1) gN)])]
def lS (c:Call):GS:=#v[aN (bM (ao (ai 0 c #[aa 1,gI 0,au false .sub (aL .len #[bR "standing" (aa 0)]) (gI 1)]))) #v[dQ 9 #[gS "no deed stands there"]] aE,aI (cy 40 136 c (aa 0) #[au false .add (cx false false true (bR "standing" (aa 0)) gN (aa 1)) (cx false true false (bR "standing" (aa 0)) (au false .add (aa 1) (gI 1)) gN)])]
def j7 (c:Call):GS:=#v[aN (bM (ao (bR "earlier" (aa 0)))) #v[dQ 11 #[gS "no change stands"]] aE,aI (cy 40 137 c (aa 0) #[qT (bR "earlier" (aa 0))])]
def l4 (c:Call):GS:=#v[d3 (bR "earlier" (aa 0)) (bR "standing" (aa 0)),aI (cy 40 137 c (aa 0) #[aa 1])]
def oh (c:Call):GS:=#v[dF (.one 2) (bI 48 c #[bR "machine" (aa 0),bR "standing" (aa 0),aa 1]),ik "standing" (aa 0) (aa 1),aI (aa 2)]
def lZ (c:Call):GS:=#v[az (.one 3) (ai 31 c #[aa 0,gI 4]),az (.one 4) (aw (aa 2) (cH (gI 1))),az (.one 5) (ai 31 c #[aa 0,au false .add (aL .len #[aa 4]) (gI 1)]),az (.one 6) (ai 31 c #[aa 0,aL .len #[aw (aa 1) (gI 2)]]),aN (dI (ao (aG .eq (aa 3) (gI 0))) (ao (aG .gt (aL .len #[aa 2]) (gI 1)))) #v[aI (bW #[cx false false true (aa 2) gN (cH (gI 1)),bW bH])] aE,aN (dI (fJ (ao (aG .eq (aa 3) (gI 1))) (ao (aG .eq (aL .len #[aa 4]) (gI 40)))) (ao (aG .ne (aa 4) (aT false bH)))) #v[az (.one 5) (au false .mod (aa 5) (aL .len #[aa 4])),aI (bW #[au false .add (aa 2) (aT false #[au false .add (cx false false true (aa 4) gN (aa 5)) (cx false true false (aa 4) (au false .add (aa 5) (gI 1)) gN)]),bW #[aa 5]])] aE,aI (bW #[au false .add (aa 2) (aT false #[au false .add (au false .add (cx false false true (aa 4) gN (aa 5)) (aT false #[aa 6])) (cx false true false (aa 4) (aa 5) gN)]),bW #[aa 5,aa 6]])]
def fw (c:Call):GS:=#v[aN (ao (aG .eq (aL .len #[aa 1]) (gI 2))) #v[aI (cy 40 133 c (aa 0) #[aw (aa 1) (gI 0),aw (aa 1) (gI 1)])] aE,aI (eP (ao (aG .eq (aa 1) (bW bH))) (cy 40 135 c (aa 0) bH) (cy 40 134 c (aa 0) #[aw (aa 1) (gI 0)]))]
def gg (c:Call):GS:=#v[cM (.tup [3,4,5]) (nF (ai 42 c #[aa 0]) (ai 44 c #[aa 0,aa 1]) (ai 44 c #[aa 0,aa 2])) #v[aN (ao (aG .ne (aa 4) (aa 5))) #v[aI (aa 3)] aE],aI gN]
def sR (c:Call):GS:=#v[aI (aT false #[aT false #[gI 0,gI 1,gI 2],aT false #[gI 0,gI 2,gI 1],aT false #[gI 1,gI 0,gI 2],aT false #[gI 1,gI 2,gI 0],aT false #[gI 2,gI 0,gI 1],aT false #[gI 2,gI 1,gI 0]])]
def qj (c:Call):GS:=#v[cM (.one 4) (cZ (au false .add (aw (ai 141 c bH) (aa 3)) (aT false #[gI 0,gI 1,gI 2]))) #v[aN (ao (aG .eq (aa 4) (gI 0))) #v[az (.one 5) (cy 40 130 c (aa 0) bH),aN (bM (ao (ai 40 c #[aa 5,aa 2]))) rF aE,d3 (aa 5) (gI 0)] aE,aN (dI (ao (aG .eq (aa 4) (gI 1))) (bM (ao (ai 40 c #[cy 40 131 c (aa 0) bH,ai 89 c #[aa 1,aa 2]])))) rF aE,aN (dI (ao (aG .eq (aa 4) (gI 2))) (bM (ao (ai 40 c #[cy 40 132 c (aa 0) bH,ai 44 c #[aa 1,aa 2]])))) rF aE],aI Fb]
def eJ (c:Call):GS:=#v[dF (.one 1) (bI 15 c #[aa 0]),aI (b8 false 1 (.one 0) (cZ (aw (aa 0) (gI 2))) (b6 (bW #[aw (aa 0) (cH (gI 1)),kC 77 1 (.one 0) (cZ (aa 2)) (jS (aa 0) (ai 24 c #[aa 1,aa 0]))])))]
def eT (c:Call):GS:=#v[aI (aL .tuple #[b8 false 1 (.one 0) (cZ (aa 1)) (b6 (iu (aa 1) (aa 0)))])]
def da (c:Call):GS:=#v[aI (aL .tuple #[b8 false 1 (.one 0) (cZ (aa 1)) (b6 (ai 41 c #[aw (aw (aa 1) (gI 2)) (aa 3),aa 0]))])]
def uH (c:Call):GS:=#v[iz (ao (aG .le (aL .len #[aa 3]) (au false .add (aa 4) (aw (aa 7) (cH (gI 1)))))) #v[d3 (aa 3) (aT true bH)],d3 (aw (aa 3) (au false .add (aa 4) (aw (aa 7) (cH (gI 1))))) (ai 158 c #[aa 0,aa 5,aa 6])]
def MX (c:Call):GS:=#v[ip (aa 2) (aa 5) (aa 4),aN (ao (aG .gt (lB (aa 2)) (gI 255))) #v[aI gN] aE,cM (.tup [6,7]) (gZ (aw (aa 0) (gI 2))) (uH c)]
def AE (c:Call):GS:=#v[aN (ao (lC true (aa 5) (aa 2))) (MX c) aE]
def AD (c:Call):GS:=#v[cM (.one 5) (cZ (aw (aa 3) (aa 4))) (AE c),az (.one 4) (au false .add (aa 4) (gI 1))]
def fx (c:Call):GS:=#v[az (.one 2) (yo 78),az (.one 3) (aT true #[aT true #[aL .tuple #[ai 42 c #[aa 0]]]]),az (.one 4) (gI 0),iz (dI (ao (aG .lt (aa 4) (aL .len #[aa 3]))) (ao (aG .le (aa 4) (aa 1)))) (AD c),aI (aa 2)]
def g8 (c:Call):GS:=#v[az (.one 3) (aL .len #[aa 1]),az (.one 4) (aT true bH),cM (.two 5 [6,7]) (gZ (aa 0)) #v[az (.one 8) (eP (ao (aG .le (aa 6) (aa 3))) (aw (aa 1) (au false .sub (aa 3) (aa 6))) (aT false bH)),cM (.one 9) (cZ (aa 8)) #v[az (.one 10) (ai 152 c #[aa 7,aa 9]),aN (ao (lC true (aa 10) (aa 2))) #v[ip (aa 2) (aa 10) (bW #[aa 3,au true .add (aw (iu (aa 2) (aa 9)) (gI 1)) (aT false #[aa 5])]),d3 (aa 4) (aa 10),aN (ao (aG .gt (lB (aa 2)) (gI 255))) #v[dQ 8 #[sf "rows have more than " " behaviours" (gI 255)]] aE] aE]],aI (aa 4)]
def js (c:Call):GS:=#v[dF (.one 2) (bI 151 c #[aa 0]),az (.one 3) (aL .tuple #[ai 15 c #[aa 0]]),az (.one 4) (wR 78 (aa 3) (bW #[gI 0,aT true bH])),az (.one 5) (aT true #[aT false #[aa 3]]),iz (dI (ao (qU (cx false true false (aa 5) (cH (gI 3)) gN))) (fJ (ao (aG .isN (aa 1) gN)) (ao (aG .le (aL .len #[aa 5]) (aa 1))))) #v[ni (aa 5) (bI 165 c #[aa 2,aa 5,aa 4])],aI (aa 4)]
def fy (c:Call):GS:=#v[nh (iJ bO (iJ u2 (bI 166 c #[bR "machine" (aa 0),gN]) (cy 40 132 c (aa 0) bH)) (gI 0))]
def eU (c:Call):GS:=#v[az (.one 1) (ai 31 c #[aa 0,gI 3]),aI (ai 34 c #[aa 0,aw (aT false #[gI 2,gI 3,gI 2]) (aa 1),aw (aT false #[gI 2,gI 1,gI 1]) (aa 1),gI 5])]
def fm (c:Call):GS:=#v[az (.one 1) gN,az (.one 2) gN,t6 #v[dF (.one 2) (gY 40 190 c (aa 0) bH)] 3 #v[az (.one 1) (aa 3)],aI (eP (ao (aG .isN (aa 1) gN)) (aa 2) (aw (ai 75 c #[aa 1]) (gI 0)))]
def Fs (c:Call):GS:=#v[aN (dI (ao (aG .eq (aa 7) (gI 0))) (bM (ao (ai 40 c #[cy 40 130 c (aa 1) bH,aw (aa 6) (gI 0)])))) rF aE,aN (dI (ao (aG .eq (aa 7) (gI 1))) (bM (ao (ai 40 c #[cy 40 131 c (aa 1) bH,aw (aa 6) (gI 1)])))) rF aE,aN (dI (ao (aG .eq (aa 7) (gI 2))) (bM (ao (ai 40 c #[cy 40 132 c (aa 1) bH,aw (aa 6) (gI 2)])))) rF aE,aN (dI (ao (aG .eq (aa 7) (gI 3))) (bM (ao (ai 40 c #[ai 192 c #[aa 1],aw (aa 6) (gI 3)])))) rF aE]
def ug (c:Call):GE:=cx false true true (aT false #[gI 3,gI 0,gI 1,gI 2,gI 3,gI 0,gI 1]) (aa 5) (au false .add (aa 5) (aw (aT false #[gI 1,gI 4,gI 4]) (ai 31 c #[aa 0,gI 3])))
def fo (c:Call):GS:=#v[az (.one 5) (ai 31 c #[aa 0,gI 4]),az (.one 6) (aT true #[aa 4,ai 89 c #[aa 3,aa 4],ai 44 c #[aa 3,aa 4]]),d3 (aa 6) (eP (ao (aG .isN (aa 2) gN)) (gS "many") (iu (aa 2) (aw (aa 6) (gI 2)))),cM (.one 7) (cZ (ug c)) (Fs c),aI Fb]
def eh (c:Call):GS:=aS (ml #v[jd (gY 40 133 c (aa 0) #[cH (gI 1),gI 0])] 9 9 #v[aI Fb]) rF
def zz (c:Call):GS:=#v[az (.tup [11,12]) (ai 138 c #[aa 1,aa 4,aa 8]),aN (dI (ao (aG .eq (ai 31 c #[aa 1,gI 2]) (gI 0))) (bM (ao (ai 194 c #[aa 7])))) rF aE,aN (bM (ao (ai 40 c #[ai 139 c #[aa 7,aa 12],ai 140 c #[aa 4,aw (aa 8) (cH (gI 1)),aw (aa 11) (cH (gI 1))]]))) rF aE,az (.one 8) (aa 11),aN (bM (ao (ai 193 c #[aa 1,aa 7,aa 5,aa 4,aw (aa 8) (cH (gI 1))]))) rF aE]
def nv (c:Call):GS:=#v[cM (.one 9) (dX (gI 2)) #v[aN (bM (ao (ai 193 c #[aa 1,aa 7,aa 5,aa 4,aa 6]))) rF aE],cM (.one 10) (dX (eP (ao (aG .eq (aa 3) (gI 0))) (gI 2) (au false .add (gI 3) (ai 31 c #[aa 1,gI 3])))) (zz c)]
def zm (c:Call):GS:=aS (az (.one 3) (ai 31 c #[ai 30 c #[aa 1],gI 8])) (aS (az (.one 4) (ai 191 c #[aa 1])) (aS (aN (ao (aG .eq (aa 3) (gI 0))) #v[az (.one 4) (ai 34 c #[aa 1,gI 4,gI 2,gI 4])] aE) (aS (az (.one 5) (ai 159 c #[aa 4,au false .pow (gI 10) (gI 9)])) (aS (az (.one 6) (ai 35 c #[aa 1,aa 4,gI 5])) (aS (az (.one 7) (nI 40 129 c #[aa 4,aL (.list false) #[aa 6]])) (aS (az (.one 8) (aT false #[aa 6])) (nv c)))))))
def nU (c:Call):GS:=#v[az (.one 1) (ai 29 c #[aa 0]),cM (.one 2) (dX (gI 2)) (zm c),aI Fb]
@[simp] theorem aV {h j:Type}{r:Res h}{f:h->Mem->Res j}{k:j->Mem->Prop}:ae (r.bind f) k↔ae r λa M=>ae (f a M) k:=by cases r<;>rfl
@[simp] theorem bo {h:Type}{a:h}{k:h->Mem->Prop}:ae (.ok a M) k↔k a M:=RQ
@[simp] theorem QW {h:Type}{k:h->Mem->Prop}:ae (.bad:Res h) k↔False:=RQ
@[simp] theorem gP {h:Type}{M:Mem}{o:Option h}{k:h->Mem->Prop}:ae (bS M o) k↔∃a,o=some a/\k a M:=by cases o<;>simp[bS]
def d8 {j:Type}{r:Res j}{k:j->Mem->Prop}:ae r k↔∃a M,r=.ok a M/\k a M:=by
 cases r with
 |ok a M=>exact{λh=>⟨a,M,rfl,h⟩,λ⟨_,_,e,h⟩=>by cases e;exact h}
 |err=>simp[ae]
 |bad=>simp[ae]
def nP (j:aA 64 (view M x)=true)(z:aA 64 (view M y)=true)(h:bZ (view M x) (view M y)=v):bz .eq x y M=some v:=by
 have e:pZ (view M x) (view M y)=some v:=by unfold pZ;rw[j,z,h];simp
 show mK M x y=_;unfold mK;rw[e]
def ri (j:aA 64 (view M x)=true)(z:aA 64 (view M y)=true)(h:bZ (view M x) (view M y)=v):bz .ne x y M=some (!v):=by
 show(bz .eq x y M).map (!·)=_;rw[nP j z h];rfl
section
variable{Z:Env}{M:Mem}{a b d lo hi:GE}{s:GA}{t u:GT}{k:D->Mem->Prop}{c:Call}
@[simp] theorem bx {i:Nat}:ae (aa i Z M) k↔∃d,Z[i]?.getD none=some d/\k d M:=by simp[aa]
@[simp] theorem eX {d:D}:ae (gC d Z M) k↔k d M:=RQ
@[simp] theorem jU {m:Bool}{o:oo}:ae (au m o a b Z M) k↔ae (a Z M) λx M=>ae (b Z M) λy M=>ae (fP m o x y M) k:=by simp[au]
@[simp] theorem g4 {o:jZ}:ae (aG o a b Z M) k↔ae (a Z M) λx M=>ae (b Z M) λy M=>∃v,bz o x y M=some v/\k (.bl v) M:=by simp[aG]
@[simp] theorem Rp {o h:jZ}:ae (uV o h a b d Z M) k↔ae (a Z M) λx M=>ae (b Z M) λy M=>∃v,bz o x y M=some v/\if v=true then ae (d Z M) λz M=>∃v,bz h y z M=some v/\k (.bl v) M else k (.bl false) M:=by
 simp only[uV,aV,gP];refine iff_of_eq ?_
 congr 1;funext x M;congr 1;funext y M;refine propext (exists_congr λv=>and_congr_right λ_=>?_)
 cases v<;>simp
@[simp] theorem sZ:ae (cH a Z M) k↔ae (a Z M) λx M=>∃i,x=.int i/\k (.int (-i)) M:=by
 simp only[cH,aV];refine iff_of_eq ?_;congr 1;funext x M;cases x<;>simp
set_option tactic.hygienic true in
@[simp] theorem Rq:ae (fb a b Z M) k↔ae (a Z M) λx M=>∃v,x=.bl v/\if v=true then ae (b Z M) k else k (.bl false) M:=by
 simp only[fb,aV];refine iff_of_eq ?_;congr 1;funext x M;cases x<;>simp;rename_i v;cases v<;>simp
@[simp] theorem yv:ae (eP t a b Z M) k↔ae (t Z M) λv M=>if v=true then ae (a Z M) k else ae (b Z M) k:=by
 simp only[eP,aV];refine iff_of_eq ?_;congr 1;funext v M;cases v<;>simp
@[simp] theorem iw:ae (aw a b Z M) k↔ae (a Z M) λx M=>ae (b Z M) λy M=>∃d,bO x y M=some d/\k d M:=by simp[aw]
@[simp] theorem lG {m hl hh:Bool}:ae (cx m hl hh a lo hi Z M) k↔ae (a Z M) λx M=>ae (lo Z M) λl M=>ae (hi Z M) λh M=>eE hl l=true/\eE hh h=true/\ae (fM m x l h M) k:=by
 simp only[cx,aV];refine iff_of_eq ?_
 congr 1;funext x M;congr 1;funext l M;congr 1;funext h M
 cases eE hl l<;>cases eE hh h<;>simp
@[simp] theorem dG {k:List D->Mem->Prop}:ae (bH Z M) k↔k [] M:=RQ
@[simp] theorem cb {k:List D->Mem->Prop}:ae (c6 a s Z M) k↔ae (a Z M) λx M=>ae (s Z M) λxs M=>k (x::xs) M:=by simp[c6]
@[simp] theorem iU:ae (bW s Z M) k↔ae (s Z M) λxs M=>xs.length<=sz/\k (.tup xs) M:=by
 simp only[bW,aV];refine iff_of_eq ?_;congr 1;funext xs M;unfold kZ;split<;>simp[*]
def uq {m:Bool}{xs:List D}:ae (ba m xs M) k↔xs.length<=sz/\if m=true then k (.cell M.length) (M++[xs]) else k (.lst xs) M:=by
 unfold ba;cases m<;>split<;>simp[*]
@[simp] theorem cn {xs:List D}:ae (ba false xs M) k↔xs.length<=sz/\k (.lst xs) M:=by simp[uq]
@[simp] theorem ki {xs:List D}:ae (ba true xs M) k↔xs.length<=sz/\k (.cell M.length) (M++[xs]):=by simp[uq]
@[simp] theorem Fe {m:Bool}:ae (aT m s Z M) k↔ae (s Z M) λxs M=>ae (ba m xs M) k:=by simp[aT]
@[simp] theorem uZ {f:Nat}:ae (ai f c s Z M) k↔ae (s Z M) λds M=>ae (c f ds M) k:=by simp[ai]
@[simp] theorem HH {i:Nat}:ae (mI i c s Z M) k↔∃f,Z[i]?.getD none=some (.fn f)/\ae (s Z M) λds M=>ae (c f ds M) k:=by
 unfold mI;cases e:Z[i]?.getD none with
 |none=>simp
 |some d=>cases d<;>simp
@[simp] theorem dj {f:xr}:ae (aL f s Z M) k↔ae (s Z M) λds M=>ae (dB f ds M) k:=by simp[aL]
@[simp] theorem Rj {t:Ty}:ae (cK t a Z M) k↔ae (a Z M) λx M=>∃v,gW t x=some v/\k (.bl v) M:=by simp[cK]
@[simp] theorem Lm {fs:List (Str×Nat)}:ae (lA fs a Z M) k↔ae (a Z M) λx M=>∃y f,x=.str y/\fs.lookup y=some f/\k (.fn f) M:=by
 simp only[lA,aV];refine iff_of_eq ?_;congr 1;funext x M;cases x<;>simp;exact{λ⟨_,⟨f,h,e⟩,q⟩=>{f,h,e ▸ q},λ⟨f,h,q⟩=>{_,⟨f,h,rfl⟩,q}}
@[simp] theorem Rk {fs:List (Str×Nat)}:ae (iT fs a Z M) k↔ae (a Z M) λx M=>∃y,x=.str y/\k (.bl (!(fs.lookup y).isSome)) M:=by
 simp only[iT,aV];refine iff_of_eq ?_;congr 1;funext x M;cases x<;>simp
set_option tactic.hygienic true in
@[simp] theorem HF {m:Bool}:ae (mH m a Z M) k↔ae (a Z M) λx M=>∃n,x=.int n/\(-(2^62)<=n/\n<2^20)/\ae (ba m ((List.range n.toNat).map λ(k:Nat)=>D.int (k:Int)) M) k:=by
 simp only[mH,aV];refine iff_of_eq ?_;congr 1;funext x M;cases x<;>simp;rename_i n;split<;>simp[*]
variable{kb:Bool->Mem->Prop}
@[simp] theorem fX:ae (ao a Z M) kb↔ae (a Z M) λx M=>∃v,j3 M x=some v/\kb v M:=by simp[ao]
@[simp] theorem Ej:ae (dI t u Z M) kb↔ae (t Z M) λv M=>if v=true then ae (u Z M) kb else kb false M:=by
 simp only[dI,aV];refine iff_of_eq ?_;congr 1;funext v M;cases v<;>simp
@[simp] theorem t_or:ae (fJ t u Z M) kb↔ae (t Z M) λv M=>if v=true then kb true M else ae (u Z M) kb:=by
 simp only[fJ,aV];refine iff_of_eq ?_;congr 1;funext v M;cases v<;>simp
@[simp] theorem sS:ae (bM t Z M) kb↔ae (t Z M) λv M=>kb (!v) M:=by simp[bM]
variable{kf:Fl->Mem->Prop}{sa sb:GS}
def ij (b:GS)(k:Fl->Mem->Prop):Fl->Mem->Prop
 |.next Z,M=>ae (b Z M) k
 |.ret d,M=>k (.ret d) M
 |.exc x Z,M=>k (.exc x Z) M
@[simp] theorem OC {b:GS}{x:D}:ij b kf (.exc x Z) M↔kf (.exc x Z) M:=RQ
@[simp] theorem b7 {b:GS}:ij b kf (.next Z) M↔ae (b Z M) kf:=RQ
@[simp] theorem OB {b:GS}{d:D}:ij b kf (.ret d) M↔kf (.ret d) M:=RQ
@[simp] theorem aF:ae (aS sa sb Z M) kf↔ae (sa Z M) (ij sb kf):=by
 simp only[aS,aV];refine iff_of_eq ?_;congr 1;funext fl M;cases fl<;>rfl
@[simp] theorem zU:ae (aE Z M) kf↔kf (.next Z) M:=RQ
@[simp] theorem mj {i:Nat}:ae (az (.one i) a Z M) kf↔ae (a Z M) λx M=>kf (.next (Z.set i (some x))) M:=by simp[az,bU]
@[simp] theorem QK {l:List Nat}:ae (az (.tup l) a Z M) kf↔ae (a Z M) λx M=>∃ds ρ1,x=.tup ds/\cL l ds Z=some ρ1/\kf (.next ρ1) M:=by
 simp only[az,aV,gP,bo];refine iff_of_eq ?_;congr 1;funext x M;cases x<;>simp[bU]
@[simp] theorem mh:ae (eM a b d Z M) kf↔ae (d Z M) λz M=>ae (a Z M) λx M=>ae (b Z M) λy M=>∃j n ds i,x=.cell j/\y=.int n/\M[j]?=some ds/\bT ds.length n=some i/\kf (.next Z) (M.set j (ds.set i z)):=by
 simp only[eM,aV];refine iff_of_eq ?_
 congr 1;funext z M;congr 1;funext x M;congr 1;funext y M
 cases x with
 | cell j=>
   cases y with
   | int n=>
     cases e:M[j]? with
     |none=>simp[e]
     | some ds=>
       cases e2:bT ds.length n with
       |none=>simp[e,e2]
       |some i=>simp[e,e2]
   |_=>simp
 |_=>simp
set_option tactic.hygienic true in
@[simp] theorem JC:ae (d3 a d Z M) kf↔ae (a Z M) λx M=>ae (d Z M) λz M=>∃j ds,x=.cell j/\M[j]?=some ds/\ds.length<sz/\kf (.next Z) (M.set j (ds++[z])):=by
 simp only[d3,aV];refine iff_of_eq ?_
 congr 1;funext x M;congr 1;funext z M
 cases x<;>simp;rename_i j;cases e:M[j]? with
 |none=>simp
 |some ds=>by_cases h:ds.length<sz<;>simp[h]
@[simp] theorem eD:ae (aI a Z M) kf↔ae (a Z M) λx M=>kf (.ret x) M:=by simp[aI]
@[simp] theorem P9:ae (Er Z M) kf↔kf (.ret .non) M:=RQ
@[simp] theorem Qa:ae (Es Z M) kf↔kf (.next Z) M:=RQ
@[simp] theorem QJ:ae (xG Z M) kf↔False:=RQ
@[simp] theorem mi:ae (aN t sa sb Z M) kf↔ae (t Z M) λv M=>if v=true then ae (sa Z M) kf else ae (sb Z M) kf:=by
 simp only[aN,aV];refine iff_of_eq ?_;congr 1;funext v M;cases v<;>simp
variable{kw:Walk->Mem->Prop}
set_option tactic.hygienic true in
@[simp] theorem gJ:ae (dX a Z M) kw↔ae (a Z M) λx M=>∃n,x=.int n/\(-(2^62)<=n/\n<2^62)/\kw (λ_=>some ((List.range n.toNat).map λ(k:Nat)=>D.int (k:Int))) M:=by
 simp only[dX,aV];refine iff_of_eq ?_;congr 1;funext x M;cases x<;>simp;rename_i n;split<;>simp[*]
@[simp] theorem kK:ae (cZ a Z M) kw↔ae (a Z M) λx M=>cX x=true/\kw (λM=>bL M x) M:=by
 simp only[cZ,aV];refine iff_of_eq ?_;congr 1;funext x M;cases x<;>simp[cX]<;>rfl
@[simp] theorem yZ:ae (gZ a Z M) kw↔ae (a Z M) λx M=>cX x=true/\kw (λM=>(bL M x).map (fj 0)) M:=by
 simp only[gZ,aV];refine iff_of_eq ?_;congr 1;funext x M;split<;>simp[*]
@[simp] theorem Qm:ae (nH a b Z M) kw↔ae (a Z M) λx M=>ae (b Z M) λy M=>(cX x&&cX y)=true/\kw (pj x y) M:=by
 simp only[nH,aV];refine iff_of_eq ?_;congr 1;funext x M;congr 1;funext y M;split<;>simp[*]
def oR (k:D->Mem->Prop):Fl->Mem->Prop
 |.ret d,M=>k d M
 |.next _,M=>k .non M
 |.exc _ _,_=>False
@[simp] theorem Qi {d:D}:oR k (.ret d) M↔k d M:=RQ
@[simp] theorem Pz:oR k (.next Z) M↔k .non M:=RQ
def ay {d:Df}{ds:List D}(e:P f=some d)(hl:ds.length=d.params)(h:ae (d.body (ah P n) (ds.map some++List.replicate (d.slots-ds.length) none) M) (oR k)):ae (ah P (n+1) f ds M) k:=by
 show ae (match P f with|none=>Res.bad|some d=>fq (ah P n) d ds M) k
 rw[e];show ae (fq (ah P n) d ds M) k;unfold fq;rw[if_pos hl];revert h;cases d.body (ah P n) (ds.map some++List.replicate (d.slots-ds.length) none) M with
 |ok fl M=>cases fl<;>exact id
 |err=>exact id
 |bad=>exact id
@[simp] theorem Km {h:Type}{a:h}{k:h->Mem->Prop}{j:D->Mem->Prop}:dS (.ok a M) k j↔k a M:=RQ
@[simp] theorem Qd {h:Type}{x:D}{k:h->Mem->Prop}:dS (.err x M:Res h) k kx↔kx x M:=RQ
def yq (k h:D->Mem->Prop):Fl->Mem->Prop
 |.ret d,M=>k d M
 |.next _,M=>k .non M
 |.exc x _,M=>h x M
def lJ {d:Df}{j:D->Mem->Prop}(e:P f=some d)(hl:ds.length=d.params)(h:ae (d.body (ah P n) (ds.map some++List.replicate (d.slots-ds.length) none) M) (yq k j)):dS (ah P (n+1) f ds M) k j:=by
 show dS (match P f with|none=>Res.bad|some d=>fq (ah P n) d ds M) k j
 rw[e];show dS (fq (ah P n) d ds M) k j;unfold fq;rw[if_pos hl];revert h;cases d.body (ah P n) (ds.map some++List.replicate (d.slots-ds.length) none) M with
 |ok fl M=>cases fl<;>exact id
 |err=>exact id
 |bad=>exact id
def A3 {j:Type}{r:Res j}{x:D}{M':Mem}(h:dS r (λ_ _=>False) λy M=>y=x/\M=M'):r=.err x M':=by
 cases r with
 |ok=>exact h.elim
 |err y M=>obtain⟨rfl,rfl⟩:=h;rfl
 |bad=>exact h.elim
@[simp] theorem Rh {d:D}{h:D->Mem->Prop}:yq k h (.ret d) M↔k d M:=RQ
@[simp] theorem Qh {h:D->Mem->Prop}:yq k h (.next Z) M↔k .non M:=RQ
@[simp] theorem Ri:yq k kx (.exc x Z) M↔kx x M:=RQ
@[simp] theorem P5 {f:Nat}:dS (bI f c s Z M) k kx↔ae (s Z M) λds M=>dS (c f ds M) k kx:=by
 unfold bI;cases s Z M<;>rfl
@[simp] theorem Jz:ae (jd a Z M) kf↔dS (a Z M) (λ_ M=>kf (.next Z) M) (λx M=>kf (.exc x Z) M):=by
 unfold jd;cases a Z M<;>rfl
@[simp] theorem GI {i:Nat}:ae (dF (.one i) a Z M) kf↔dS (a Z M) (λx M=>kf (.next (Z.set i (some x))) M) (λx M=>kf (.exc x Z) M):=by
 unfold dF;cases a Z M<;>rfl
@[simp] theorem GG:ae (nh a Z M) kf↔dS (a Z M) (λx M=>kf (.ret x) M) (λx M=>kf (.exc x Z) M):=by
 unfold nh;cases a Z M<;>rfl
@[simp] theorem Ci {i:Nat}:ae (dQ i s Z M) kf↔ae (s Z M) λds M=>ds.length<=sz/\kf (.exc (.exc i none) Z) M:=by
 unfold dQ;cases s Z M with
 |ok ds j=>by_cases h:ds.length<=sz<;>simp[h]
 |err=>exact RQ
 |bad=>exact RQ
def Lk (i:Nat)(kf:Fl->Mem->Prop):Fl->Mem->Prop
 |.next Z,M=>kf (.next (Z.set i none)) M
 |.ret d,M=>kf (.ret d) M
 |.exc _ _,_=>False
def Jh (i:Nat)(h:GS)(kf:Fl->Mem->Prop):Fl->Mem->Prop
 |.exc x Z,M=>ae (h (Z.set i (some x)) M) (Lk i kf)
 |fl,M=>kf fl M
set_option tactic.hygienic true in
@[simp] theorem Jx {i:Nat}{h:GS}:ae (t6 sa i h Z M) kf↔ae (sa Z M) (Jh i h kf):=by
 simp only[t6,aV];refine iff_of_eq ?_;congr 1;funext fl M;cases fl with
 | exc x Z=>
   show ae ((h (Z.set i (some x)) M).bind (IL i)) kf=ae (h (Z.set i (some x)) M) (Lk i kf);simp only[aV];congr 1;funext fl M;cases fl<;>rfl
 |next Z=>rfl
 |ret d=>rfl
def PK (k1 k2:Nat)(h:GS)(kf:Fl->Mem->Prop):Fl->Mem->Prop
 |.exc x Z,M=>∃c p,x=.exc c p/\(c=k1\/c=k2)/\ae (h Z M) (λfl M=>match fl with|.exc _ _=>False|fl=>kf fl M)
 |fl,M=>kf fl M
set_option tactic.hygienic true in
@[simp] theorem Cj {k1 k2:Nat}{h:GS}:ae (ml sa k1 k2 h Z M) kf↔ae (sa Z M) (PK k1 k2 h kf):=by
 simp only[ml,aV];refine iff_of_eq ?_;congr 1;funext fl M;cases fl with
 | exc x Z=>
   cases x with
   | exc c p=>
     by_cases j:c=k1\/c=k2
     ·have e:l6 k1 k2 h (.exc (.exc c p) Z) M=(h Z M).bind λfl M=>match fl with|.exc _ _=>.bad|fl=>.ok fl M:=if_pos j
      rw[e];simp only[aV];refine propext {λz=>{c,p,rfl,j,aM z λfl M q=>?_},λ⟨_,_,e,_,z⟩=>?_}
      ·cases fl with
       |exc=>exact q.elim
       |next=>exact q
       |ret=>exact q
      ·refine aM z λfl M q=>?_;cases fl with
       |exc=>exact q.elim
       |next=>exact q
       |ret=>exact q
     ·have e:l6 k1 k2 h (.exc (.exc c p) Z) M=.bad:=if_neg j;rw[e];exact propext {λz=>z.elim,λ⟨_,_,e,z,_⟩=>by cases e;exact absurd z j}
   |_=>exact propext {λz=>z.elim,λ⟨_,_,e,_⟩=>by cases e}
 |next Z=>rfl
 |ret d=>rfl
def gi {v:Type}{f:v->D->Mem->Res v}{w:Walk}{ds:List D}{a:v}{k:v->Mem->Prop}(I:Nat->v->Mem->Prop)(E:∀i a M,I i a M->w M=some ds)(B:I 0 a M)
 (hs:∀i d a M,ds[i]?=some d->I i a M->ae (f a d M) (I (i+1))) (hk:∀a M,I ds.length a M->k a M):ae (cU f w a M) k:=by
 have z:∀(m i:Nat) (a:v) (M:Mem),ds.length-i<m->i<=ds.length->I i a M->ae (fZ f w m i a M) k:=by
  intro m;induction m with
  |zero=>intro i a M h;exact absurd h (Sh _)
  | succ m L=>
    intro i a M h hi y;show ae (match w M with|none=>Res.bad|some ds=>match ds[i]? with|none=>Res.ok a M|some d=>(f a d M).bind (fZ f w m (i+1))) k
    rw[E i a M y];dsimp only;by_cases j:i<ds.length
    ·rw[QM j];simp only[aV];exact aM (hs i ds[i] a M (QM j) y) λH F J=>L (i+1) H F `a j J
    ·have e:i=ds.length:=`a
     subst e;rw[SK (QA _)];exact hk a M y
 unfold cU;rw[E 0 a M B];exact z _ 0 a M `s (RU _) B
def dO {t:fK}{w:Walk}{v:GS}{ds:List D}(I:Nat->Env->Mem->Prop)(z:∀i Z M,I i Z M->w M=some ds)(y:I 0 Z M)
 (hs:∀i d Z M,ds[i]?=some d->I i Z M->∃ρ1,bU t d Z=some ρ1/\ae (v ρ1 M) λfl M=>∃ρ',fl=.next ρ'/\I (i+1) ρ' M) (hk:∀Z M,I ds.length Z M->kf (.next Z) M):ae (cU (fY t v) w (.next Z) M) kf:=by
 refine gi (λi fl M=>∃Z,fl=.next Z/\I i Z M) (λi fl M ⟨Z,_,h⟩=>z i Z M h) ⟨Z,rfl,y⟩ ?_ ?_
 ·rintro i d fl M hd ⟨Z,rfl,j⟩;obtain⟨ρ1,e,h⟩:=hs i d Z M hd j;simp only[fY,aV,gP,e];exact⟨ρ1,rfl,h⟩
 ·rintro fl M ⟨Z,rfl,j⟩;exact hk Z M j
@[simp] theorem gK {j:fK}{w:GW}{h:GS}:ae (cM j w h Z M) kf↔ae (w Z M) λw M=>ae (cU (fY j h) w (.next Z) M) kf:=by simp[cM]
@[simp] theorem iC {m:Bool}{n:Nat}{h:fK}{w:GW}{g:GB}:ae (b8 m n h w g Z M) k↔ae (w Z M) λw M=>ae (cU (c5 h g (List.replicate n none++Z)) w [] M) λacc M=>ae (ba m acc M) k:=by simp[b8]
variable{kl:List D->Mem->Prop}
@[simp] theorem Fq {ge:GE}{acc:List D}:ae (b6 ge Z acc M) kl↔ae (ge Z M) λx M=>acc.length<sz/\kl (acc++[x]) M:=by
 simp only[b6,aV];refine iff_of_eq ?_;congr 1;funext x M;split<;>simp[*]
def comp_map {v:fK}{w:Walk}{ge:GE}{ds:List D}{j:Env}(I:Nat->List D->Mem->Prop)(hz:ds.length<=sz)(B:∀i acc M,I i acc M->w M=some ds)(y:I 0 [] M)
 (hs:∀i d acc M,ds[i]?=some d->acc.length=i->I i acc M->∃ρ1,bU v d j=some ρ1/\ae (ge ρ1 M) λx M=>I (i+1) (acc++[x]) M) (hk:∀acc M,acc.length=ds.length->I ds.length acc M->kl acc M) :
 ae (cU (c5 v (b6 ge) j) w [] M) kl:=by
 refine gi (λi acc M=>acc.length=i/\I i acc M) (λi acc M h=>B i acc M h.2) ⟨rfl,y⟩ ?_ (λacc M h=>hk acc M h.1 h.2);rintro i d acc M hd ⟨hl,z⟩;obtain⟨ρ1,e,h⟩:=hs i d acc M hd hl z;have hi:i<ds.length:=(Qs.mp hd).1;simp only[c5,aV,gP,e,Fq];exact{ρ1,rfl,aM h λx M h=>{`a,by simp[hl],h}}
end
def bp {M:Mem}(j:t Z M=.ok false M)(h:ae (rest Z M) k):ae (aS (aN t A aE) rest Z M) k:=by
 simp only[aF,mi];rw[j];exact h
def qQ {k:Fl->Mem->Prop}(j:t Z M=.ok true M)(he:e Z M=.ok v M)(h:k (.ret v) M):ae (aS (aN t #v[aI e] aE) rest Z M) k:=by
 simp only[aF,mi,eD];rw[j];show ae (e Z M) _;rw[he];exact h
def eI {v:D}(he:e Z M=.ok v M)(h:k (.ret v) M):ae (#v[aI e] Z M) k:=by
 simp only[aF,eD];rw[he];exact h
structure HasB0 (P:Nat->Option Df):Prop where
 is_between:P 0=some {3,3,ju}
 is_word:P 1=some {2,2,mP}
 is_place:P 2=some {2,2,lR}
 is_cost:P 3=some {1,1,mU}
 is_tuple_of:P 4=some {2,2,iL}
 is_table:P 5=some {2,2,lQ}
 is_double_table:P 6=some {2,2,fQ}
 is_turn:P 7=some {3,6,mQ}
 is_join:P 8=some {3,7,mS}
 is_move:P 9=some {3,6,mR}
 is_put:P 10=some {3,6,oZ}
 is_deed:P 11=some {3,5,mT}
 is_machine:P 12=some {1,4,jt}
 need_machine:P 13=some {1,1,ie}
structure HasM0 (P:Nat->Option Df):Prop extends HasB0 P where
 is_deed_number:P 16=some {2,2,gp}
 need_numbers:P 17=some {2,4,ic}
 need_row:P 18=some {2,2,lO}
structure HasM (P:Nat->Option Df):Prop extends HasM0 P where
 turned:P 20=some {2,6,lM}
 joined:P 21=some {2,7,lP}
 moved:P 22=some {2,6,nS}
 put_in:P 23=some {2,6,lN}
 done:P 24=some {2,4,qi}
 all_standing:P 25=some {3,5,ig}
structure HasP0 (P:Nat->Option Df):Prop where
 law_spread:P 28=some {2,6,lY}
 law_open:P 29=some {1,4,j5}
 law_anew:P 30=some {1,1,j6}
 law_take:P 31=some {2,5,og}
structure HasP (P:Nat->Option Df):Prop extends HasP0 P where
 law_tab:P 32=some {2,6,iV}
 law_deed:P 33=some {3,7,iy}
 law_machine:P 34=some {4,8,fG}
instance coeHasB0 {P:Nat->Option Df}:Coe (HasM0 P) (HasB0 P):=⟨HasM0.toHasB0⟩
instance coeHasBM {P:Nat->Option Df}:Coe (HasM P) (HasB0 P):={λh=>h.toHasM0.toHasB0}
structure lU (P:Nat->Option Df):Prop where
 turned:P 20=some {2,6,lM}
 joined:P 21=some {2,7,lP}
 moved:P 22=some {2,6,nS}
 put_in:P 23=some {2,6,lN}
 done:P 24=some {2,4,qi}
def HasM.r {P:Nat->Option Df}(h:HasM P):lU P:=⟨h.turned,h.joined,h.moved,h.put_in,h.done⟩
instance coeHasR0 {P:Nat->Option Df}:Coe (HasM P) (lU P):=⟨HasM.r⟩
instance coeHasM {P:Nat->Option Df}:Coe (HasM P) (HasM0 P):=⟨HasM.toHasM0⟩
instance coeHasP {P:Nat->Option Df}:Coe (HasP P) (HasP0 P):=⟨HasP.toHasP0⟩
@[simp] theorem Ro {d:Option D}{r:Env}:(d::r)[0]?.getD none=d:=rfl
section
variable{M:Mem}{k:D->Mem->Prop}
def km {j:Type}{c:Prop}[Decidable c]{r:Res j}{k:j->Mem->Prop}:ae (if c then r else .bad) k↔c/\ae r k:=by split<;>simp[*]
@[simp] theorem vA {m:Bool}{i j:Int}:ae (fP m .add (.int i) (.int j) M) k↔k (.int (i+j)) M:=RQ
@[simp] theorem Jn {m:Bool}{i j:Int}:ae (fP m .sub (.int i) (.int j) M) k↔k (.int (i-j)) M:=RQ
@[simp] theorem Q4 {m:Bool}{i j:Int}:ae (fP m .mul (.int i) (.int j) M) k↔((-(2^64)<i/\i<2^64)\/(-(2^64)<j/\j<2^64))/\k (.int (i*j)) M:=km
@[simp] theorem Q5 {m:Bool}{i j:Int}:ae (fP m .mod (.int i) (.int j) M) k↔0<j/\k (.int (i % j)) M:=km
@[simp] theorem Qj {m:Bool}{i j:Int}:ae (fP m .fdiv (.int i) (.int j) M) k↔(0<j/\j<1073741824)/\k (.int (i / j)) M:=km
@[simp] theorem Bo {m:Bool}{x y:List D}:ae (fP m .add (.tup x) (.tup y) M) k↔(x++y).length<=sz/\k (.tup (x++y)) M:=by
 show ae (kZ _ _) k↔_;unfold kZ;exact km
@[simp] theorem Rl {m:Bool}{x y:List D}:ae (fP m .add (.lst x) (.lst y) M) k↔ae (ba m (x++y) M) k:=RQ
@[simp] theorem Qn {i j:Int}:bz .lt (.int i) (.int j) M=some (decide (i<j)):=rfl
@[simp] theorem Qo {i j:Int}:bz .le (.int i) (.int j) M=some (decide (i<=j)):=rfl
@[simp] theorem Qp {i j:Int}:bz .gt (.int i) (.int j) M=some (decide (j<i)):=rfl
@[simp] theorem Qq {i j:Int}:bz .ge (.int i) (.int j) M=some (decide (j<=i)):=rfl
@[simp] theorem Rt {i j:Int}:bz .eq (.int i) (.int j) M=some (i==j):=rfl
@[simp] theorem Rr {i j:Int}:bz .ne (.int i) (.int j) M=some (!(i==j)):=rfl
@[simp] theorem Qy {b:Bool}:j3 M (.bl b)=some b:=rfl
@[simp] theorem P6 {ds:List D}:j3 M (.tup ds)=some (!ds.isEmpty):=rfl
@[simp] theorem P7 {ds:List D}:j3 M (.lst ds)=some (!ds.isEmpty):=rfl
@[simp] theorem Qe {ds:List D}:ae (dB .len [.tup ds] M) k↔k (.int ds.length) M:=RQ
@[simp] theorem Qf {ds:List D}:ae (dB .len [.lst ds] M) k↔k (.int ds.length) M:=RQ
@[simp] theorem Qk {ds:List D}:ae (dB .all [.lst ds] M) k↔∃bs,boolsOf ds=some bs/\k (.bl (bs.all id)) M:=by
 show ae (match boolsOf ds with|some bs=>_|none=>_) k↔_
 cases boolsOf ds<;>simp
@[simp] theorem P8 {ds:List D}:ae (dB .sum [.lst ds] M) k↔∃bs,intsOf ds=some bs/\k (.int bs.sum) M:=by
 show ae (match intsOf ds with|some bs=>_|none=>_) k↔_
 cases intsOf ds<;>simp
@[simp] theorem N2 {ds:List D}:ae (dB .tuple [.lst ds] M) k↔k (.tup ds) M:=RQ
@[simp] theorem xx {j:Nat}:ae (dB .tuple [.cell j] M) k↔∃ds,M[j]?=some ds/\k (.tup ds) M:=by
 show ae (match M[j]? with|some xs=>_|none=>_) k↔_
 cases M[j]?<;>simp
@[simp] theorem uF {m:Bool}{ds:List D}:ae (dB (.list m) [.lst ds] M) k↔ae (ba m ds M) k:=RQ
@[simp] theorem ia {ds:List D}{i:Int}:bO (.tup ds) (.int i) M=(bT ds.length i).bind λj=>ds[j]?:=rfl
@[simp] theorem Qg {ds:List D}{i:Int}:bO (.lst ds) (.int i) M=(bT ds.length i).bind λj=>ds[j]?:=rfl
@[simp] theorem Pt {j:Nat}{i:Int}:bO (.cell j) (.int i) M=(M[j]?).bind λds=>(bT ds.length i).bind λj=>ds[j]?:=rfl
def dW {n i:Nat}(h:i<n):bT n (i:Int)=some i:=by
 unfold bT;rw[if_pos (Int.natCast_nonneg i),if_pos (by exact_mod_cast h)];rfl
def Hs {n:Nat}(h:0<n):bT n (-1)=some (n-1):=by
 unfold bT;rw[if_neg `a,if_pos `a]
 congr 1;omega
end
def dY {j:Type}{r:Res j}{d:j}{M:Mem}(h:ae r λx M'=>x=d/\M'=M):r=.ok d M:=by
 obtain⟨a,M',e,rfl,rfl⟩:=d8.mp h;exact e
def aq {r:Res D}{d:D}{M:Mem}(h:ae r λx M'=>x=d/\M'=M):r=.ok d M:=by
 obtain⟨a,M',e,rfl,rfl⟩:=d8.mp h;exact e
section
variable{P:Nat->Option Df}(h:HasB0 P){M:Mem}
include h
theorem dP (n:Nat)(t lo hi:Int):ah P (n+1) 0 [.int t,.int lo,.int hi] M=.ok (.bl (decide (lo<=t)&&decide (t<=hi))) M:=by
 refine aq (ay h.is_between rfl ?_);simp[ju,gW];by_cases h1:lo<=t<;>simp[h1]<;>omega
end
def gD {z:fK}{w:Walk}{ge:GE}{ds:List D}{u:Env}{M:Mem}{y:List D->Mem->Prop}(f:D->D)(hz:ds.length<=sz)(B:w M=some ds)(hs:∀d∈ds,∃ρ1,bU z d u=some ρ1/\ge ρ1 M=.ok (f d) M)(hk:y (ds.map f) M) :
 ae (cU (c5 z (b6 ge) u) w [] M) y:=by
 refine comp_map (λi j v=>v=M/\j=(ds.take i).map f) hz (λi j v h=>by rw[h.1];exact B) ⟨rfl,rfl⟩ ?_ ?_
 ·rintro i d j v hd _ ⟨rfl,rfl⟩;obtain⟨ρ1,e1,e2⟩:=hs d (Q0 hd);refine{ρ1,e1,?_};rw[e2];refine{rfl,?_};have E:i<ds.length:=(Qs.mp hd).1;rw[RK,hd];simp
 ·rintro j v _ ⟨rfl,rfl⟩;simpa using hk
def yE {ds:List D}(h:∀d∈ds,d=.bl true):∃bs,boolsOf ds=some bs/\bs.all id=true:=by
 induction ds with
 |nil=>exact{[],rfl,rfl}
 | cons d r j=>
   obtain⟨bs,e,q⟩:=j λd hd=>h d (QD _ hd);obtain rfl:=h d QS;exact{true::bs,by simp[boolsOf,e],by simpa using q}
def pb {u:fK}{ge:GE}{w:Walk}{ds:List D}{j:Env}{M:Mem}(hz:ds.length<=sz)(v:w M=some ds)(he:∀d∈ds,∃ρ1,bU u d j=some ρ1/\ge ρ1 M=.ok (.bl true) M) :
 ae (cU (c5 u (b6 ge) j) w [] M) λacc M'=>acc.length<=sz/\∃bs,boolsOf acc=some bs/\¬ false∈bs/\M'=M:=by
 refine gD (λ_=>.bl true) hz v he ?_;obtain⟨bs,y,B⟩:=yE (ds:=ds.map λ_=>D.bl true) `s
 refine{by simpa using hz,bs,y,λz=>?_,rfl}
 have:=QY.mp B false z;cases this
abbrev nD (n:Nat):D:=.int (n:Int)
def ak (l:List Nat):D:=.tup (l.map nD)
inductive aY where
 |turn (at_:Nat) (tab:List Nat) (cost:Nat)
 |join (at_ other:Nat) (tab:List (List Nat)) (cost:Nat)
 |move (at_ other cost:Nat)
 |put (at_ word cost:Nat)
def aY.d:aY->D
 |.turn a t c=>.tup [.str "turn",nD a,ak t,nD c]
 |.join a o t c=>.tup [.str "join",nD a,nD o,.tup (t.map ak),nD c]
 |.move a o c=>.tup [.str "move",nD a,nD o,nD c]
 |.put a w c=>.tup [.str "put",nD a,nD w,nD c]
noncomputable def aY.cost:aY->Nat
 |.turn _ _ c=>c
 |.join _ _ _ c=>c
 |.move _ _ c=>c
 |.put _ _ c=>c
structure aK where
 words:Nat
 places:Nat
 deeds:List aY
noncomputable def aK.d (m:aK):D:=.tup [nD m.words,nD m.places,.tup (m.deeds.map aY.d)]
def iY (w:Nat)(t:List Nat):Prop:=t.length=w/\∀x∈t,x<w
def hG (c:Nat):Prop:=1<=c/\c<=3
def bV (w p:Nat):aY->Prop
 |.turn a t c=>a<p/\iY w t/\hG c
 |.join a o t c=>a<p/\o<p/\(t.length=w/\∀x∈t,iY w x)/\hG c
 |.move a o c=>a<p/\o<p/\hG c
 |.put a x c=>a<p/\x<w/\hG c
structure aB (m:aK):Prop where
 w2:2<=m.words
 w4:m.words<=4
 p1:1<=m.places
 p2:m.places<=2
 d1:1<=m.deeds.length
 d6:m.deeds.length<=6
 ok:∀d∈m.deeds,bV m.words m.places d
def aH {n:Nat}(h:n<=100000):n<=sz:=QH h `d
section
variable{P:Nat->Option Df}(h:HasB0 P){M:Mem}
include h
theorem vZ (n:Nat){w t:Nat}(j:t<w):ah P (n+2) 1 [nD w,nD t] M=.ok (.bl true) M:=by
 refine aq (ay h.is_word rfl ?_);simp[mP,dP h];omega
theorem hV (n:Nat){w t:Nat}(j:t<w):ah P (n+2) 2 [nD w,nD t] M=.ok (.bl true) M:=by
 refine aq (ay h.is_place rfl ?_);simp[lR,dP h];omega
theorem kQ (n:Nat){c:Nat}(j:hG c):ah P (n+2) 3 [nD c] M=.ok (.bl true) M:=by
 unfold hG at j;refine aq (ay h.is_cost rfl ?_);simp[mU,dP h];omega
theorem ow (n:Nat){w:Nat}{ds:List D}(j:ds.length=w):ah P (n+1) 4 [nD w,.tup ds] M=.ok (.bl true) M:=by
 refine aq (ay h.is_tuple_of rfl ?_);simp[iL,gW,j]
theorem tP (n:Nat){w:Nat}{t:List Nat}(v:w<=4)(j:iY w t):ah P (n+3) 5 [nD w,ak t] M=.ok (.bl true) M:=by
 refine aq (ay h.is_table rfl ?_);have e:ah P (n+2) 4 [nD w,ak t] M=.ok (.bl true) M:=ow h (n+1) (by simpa using j.1)
 simp[lQ,e];refine{rfl,pb (aH (by simp[j.1];omega)) rfl λd hd=>?_}
 obtain⟨x,u,rfl⟩:=QF.mp hd;refine{_,rfl,aq ?_};simp[vZ h n (j.2 x u)]
theorem zN (n:Nat){w:Nat}{t:List (List Nat)}(u:w<=4)(j:t.length=w/\∀x∈t,iY w x):ah P (n+4) 6 [nD w,.tup (t.map ak)] M=.ok (.bl true) M:=by
 refine aq (ay h.is_double_table rfl ?_);have e:ah P (n+3) 4 [nD w,.tup (t.map ak)] M=.ok (.bl true) M:=ow h (n+2) (by simpa using j.1)
 simp[fQ,e];refine{rfl,pb (aH (by simp[j.1];omega)) rfl λd hd=>?_}
 obtain⟨x,v,rfl⟩:=QF.mp hd;refine{_,rfl,aq ?_};simp[tP h n u (j.2 x v)]
theorem Ge (n:Nat){w p a c:Nat}{t:List Nat}(j:w<=4)(hd:bV w p (.turn a t c)):ah P (n+4) 7 [nD w,nD p,.tup [nD a,ak t,nD c]] M=.ok (.bl true) M:=by
 obtain⟨h1,h2,h3⟩:=hd;refine aq (ay h.is_turn rfl ?_);simp[mQ,cL,hV h (n+1) h1,tP h n j h2,kQ h (n+1) h3]
theorem Gr (n:Nat){w p a o c:Nat}{t:List (List Nat)}(j:w<=4)(hd:bV w p (.join a o t c)):ah P (n+5) 8 [nD w,nD p,.tup [nD a,nD o,.tup (t.map ak),nD c]] M=.ok (.bl true) M:=by
 obtain⟨h1,h2,h3,h4⟩:=hd;refine aq (ay h.is_join rfl ?_);simp[mS,cL,hV h (n+2) h1,hV h (n+2) h2,zN h n j h3,kQ h (n+2) h4]
theorem Gp (n:Nat){w p a o c:Nat}(hd:bV w p (.move a o c)):ah P (n+3) 9 [nD w,nD p,.tup [nD a,nD o,nD c]] M=.ok (.bl true) M:=by
 obtain⟨h1,h2,h3⟩:=hd;refine aq (ay h.is_move rfl ?_);simp[mR,cL,hV h n h1,hV h n h2,kQ h n h3]
theorem Gm (n:Nat){w p a x c:Nat}(hd:bV w p (.put a x c)):ah P (n+3) 10 [nD w,nD p,.tup [nD a,nD x,nD c]] M=.ok (.bl true) M:=by
 obtain⟨h1,h2,h3⟩:=hd;refine aq (ay h.is_put rfl ?_);simp[oZ,cL,hV h n h1,vZ h n h2,kQ h n h3]
end
def O6:d4.lookup (Str.ofString "turn")=some 7:=`k
def O5:d4.lookup (Str.ofString "join")=some 8:=`k
def O4:d4.lookup (Str.ofString "move")=some 9:=`k
def O3:d4.lookup (Str.ofString "put")=some 10:=`k
section
variable{P:Nat->Option Df}(h:HasB0 P){M:Mem}
include h
theorem s8 (n:Nat){w p f:Nat}{s:Str}{ds:List D}(lk:d4.lookup s=some f)(q:ah P (n+5) f [nD w,nD p,.tup ds] M=.ok (.bl true) M):ah P (n+6) 11 [nD w,nD p,.tup (.str s::ds)] M=.ok (.bl true) M:=by
 refine aq (ay h.is_deed rfl ?_);simp[-List.lookup_isSome_iff,mT,gW,bT,lk,fM,aR,eE,cut,q]
theorem Gs (n:Nat){w p:Nat}{d:aY}(j:w<=4)(hd:bV w p d):ah P (n+6) 11 [nD w,nD p,d.d] M=.ok (.bl true) M:=by
 cases d with
 |turn a t c=>exact s8 h n O6 (Ge h (n+1) j hd)
 |join a o t c=>exact s8 h n O5 (Gr h n j hd)
 |move a o c=>exact s8 h n O4 (Gp h (n+2) hd)
 |put a x c=>exact s8 h n O3 (Gm h (n+2) hd)
theorem Gq (n:Nat){m:aK}(hm:aB m):ah P (n+7) 12 [m.d] M=.ok (.bl true) M:=by
 refine aq (ay h.is_machine rfl ?_);have e:ah P (n+6) 4 [.int 3,.tup [nD m.words,nD m.places,.tup (m.deeds.map aY.d)]] M=.ok (.bl true) M:=ow h (n+5) rfl;have l1:=hm.d1;have y:=hm.d6;have j:(decide ((2:Int)<=(m.words:Int))&&decide ((m.words:Int)<=4))=true:=by have:=hm.w2;have:=hm.w4;simp;omega
 have u:(decide ((1:Int)<=(m.places:Int))&&decide ((m.places:Int)<=2))=true:=by have:=hm.p1;have:=hm.p2;simp;omega
 simp only[Qw,decide_eq_true_eq] at j u;simp[jt,aK.d,e,cL,dP h,j,u,gW];refine{`a,`a,rfl,pb (aH `o) rfl λd hd=>?_}
 obtain⟨x,v,rfl⟩:=QF.mp hd;refine{_,rfl,aq ?_};simp[Gs h n hm.w4 (hm.ok x v)]
end
section
variable{Z:Env}{M:Mem}{a b:GE}{s:GA}{k:D->Mem->Prop}{kf:Fl->Mem->Prop}{t u:GT}{A rest:GS}
def bY {t rest:GS}{ρ':Env}(e:t Z M=.ok (.next ρ') M)(h:ae (rest ρ' M) kf):ae (aS t rest Z M) kf:=by
 simp only[aF];rw[e];exact h
def af {x:D}{xs:List D}(h:a Z M=.ok x M)(es:s Z M=.ok xs M):c6 a s Z M=.ok (x::xs) M:=by
 unfold c6;rw[h];show(s Z M).bind _=_;rw[es];rfl
def fS {xs:List D}(es:s Z M=.ok xs M)(hl:xs.length<=100):aT false s Z M=.ok (.lst xs) M:=by
 unfold aT;rw[es];show(if xs.length<=sz then(if false=true then _ else Res.ok (D.lst xs) M) else .bad)=_;rw[if_pos (aH `a)]
 rfl
def iD {xs ys:List D}(h:a Z M=.ok (.lst xs) M)(j:b Z M=.ok (.lst ys) M)(hl:(xs++ys).length<=100):au false .add a b Z M=.ok (.lst (xs++ys)) M:=by
 unfold au;rw[h];show(b Z M).bind _=_;rw[j];show(if (xs++ys).length<=sz then(if false=true then _ else Res.ok (D.lst (xs++ys)) M) else .bad)=_;rw[if_pos (aH `a)]
 rfl
def cg {i:Nat}{x:D}(e:a Z M=.ok x M):az (.one i) a Z M=.ok (.next (Z.set i (some x))) M:=by
 unfold az;rw[e];rfl
def ag {j:Nat}{x:D}(h:Z[j]?.getD none=some x):aa j Z M=.ok x M:=by
 unfold aa;rw[h];rfl
def aZ {f:Nat}{c:Call}{xs:List D}(e:s Z M=.ok xs M):ai f c s Z M=c f xs M:=by
 unfold ai;rw[e];rfl
def c9 {i:Nat}(h:ae (a Z M) k)(hk:∀x M',k x M'->ae (rest (Z.set i (some x)) M') kf):ae (aS (az (.one i) a) rest Z M) kf:=by
 obtain⟨x,M',e,q⟩:=d8.mp h;simp only[aF];unfold az;rw[e];exact hk x M' q
def uM (j:t Z M=.ok true M)(h:ae (A Z M) (ij rest kf)):ae (aS (aN t A aE) rest Z M) kf:=by
 simp only[aF,mi];rw[j];exact h
def bN {b:Bool}(h:t Z M=.ok b M)(h1:b=true->ae (A Z M) (ij rest kf))(h2:b=false->ae (rest Z M) kf):ae (aS (aN t A aE) rest Z M) kf:=by
 cases b with
 |true=>exact uM h (h1 rfl)
 |false=>exact bp h (h2 rfl)
def ku {b:Bool}(h:t Z M=.ok b M):bM t Z M=.ok (!b) M:=by
 unfold bM;rw[h];rfl
def b5 {b:Bool}(h:a Z M=.ok (.bl b) M):ao a Z M=.ok b M:=by
 unfold ao;rw[h];rfl
def Ew {x y:Bool}(h1:t Z M=.ok x M)(h2:u Z M=.ok y M):fJ t u Z M=.ok (x||y) M:=by
 unfold fJ;rw[h1];cases x with
 |true=>rfl
 |false=>exact h2
def kF {x y:Bool}(h1:t Z M=.ok x M)(h2:u Z M=.ok y M):dI t u Z M=.ok (x&&y) M:=by
 unfold dI;rw[h1];cases x with
 |true=>exact h2
 |false=>rfl
def eG {k:Bool}{x:D}(h:t Z M=.ok k M)(h1:k=true->a Z M=.ok x M)(h2:k=false->b Z M=.ok x M):eP t a b Z M=.ok x M:=by
 unfold eP;rw[h];cases k with
 |true=>exact h1 rfl
 |false=>exact h2 rfl
def lj {j:Nat}{ds:List D}(e:Z[j]?.getD none=some (.tup ds)):aL .len #[aa j] Z M=.ok (nD ds.length) M:=by
 unfold aL;rw[af (ag e) rfl];rfl
end
def kB {t:GT}{A rest:GS}{Z:Env}{M:Mem}{k:Fl->Mem->Prop}{R:Mem->Prop}(j:ae (t Z M) λb M'=>b=false/\R M')(h:∀M',R M'->ae (rest Z M') k):ae (aS (aN t A aE) rest Z M) k:=by
 simp only[aF,mi];obtain⟨b,M',e,rfl,r⟩:=d8.mp j;rw[e];exact h M' r
structure Sub (M M':Mem):Prop where
 len:M.length<=M'.length
 at':∀k,k<M.length->M'[k]?=M[k]?
def Sub.refl:Sub M M:={QA _,λ_ _=>rfl}
def Sub.trans (a:Sub M M1)(b:Sub M1 M2):Sub M M2:={QH a.len b.len,λk hk=>(b.at' k (QL hk a.len)).trans (a.at' k hk)}
def Sub.app:Sub M (M++X):={`s,λk hk=>QB hk}
def Sub.get {k:Nat}(h:Sub M M')(e:M[k]?=some ds):M'[k]?=some ds:=by rw[h.at' k (Qs.mp e).1];exact e
def Sub.setq (h:Sub M M')(j:M.length<=q):Sub M (M'.set q ds):={by simpa using h.len,λk hk=>by rw[Qv `a];exact h.at' k hk}
def yA (f:D->D)(hz:acc0.length+ds.length<=sz)(v:w M=some ds)(hs:∀d∈ds,∃ρ1,bU tg d ρ0=some ρ1/\ge ρ1 M=.ok (f d) M)(hk:kl (acc0++ds.map f) M) :
 ae (cU (c5 tg (b6 ge) ρ0) w acc0 M) kl:=by
 refine gi (λi j u=>u=M/\j=acc0++(ds.take i).map f) (λi j u h=>by rw[h.1];exact v) {rfl,`s} ?_ ?_
 ·rintro i d j u hd ⟨rfl,rfl⟩;obtain⟨ρ1,e1,e2⟩:=hs d (Q0 hd);have y:i<ds.length:=(Qs.mp hd).1;simp only[c5,aV,gP,e1,Fq];refine{ρ1,rfl,?_};rw[e2];refine{by simp;omega,rfl,?_}
  rw[RK,hd];simp
 ·rintro j u ⟨rfl,rfl⟩;simpa using hk
theorem qW {j u:Type}(f:j->List u)(n:Nat):∀(ds:List j),(∀d∈ds,(f d).length<=n)->(ds.flatMap f).length<=ds.length*n
 |[],_=>`s
 | d::r,h=>by
   have h1:=h d QS;have h2:=qW f n r λd hd=>h d (QD _ hd);simp only[List.flatMap_cons,Q6,Rx,Nat.succ_mul];omega
def yB (j:D->List D)(f:D->D->D)(n:Nat)(hn:∀d∈ds,(j d).length<=n)(hz:ds.length*n<=sz)(H:w M=some ds)
 (hs:∀d∈ds,∃ρ1,bU t d ρ0=some ρ1/\∃w2,gw2 ρ1 M=.ok w2 M/\w2 M=some (j d)/\∀e∈j d,∃y,bU u e ρ1=some y/\ge y M=.ok (f d e) M) (hk:kl (ds.flatMap λd=>(j d).map (f d)) M) :
 ae (cU (c5 t (uU u gw2 (b6 ge)) ρ0) w [] M) kl:=by
 refine gi (λi v z=>z=M/\v=(ds.take i).flatMap λd=>(j d).map (f d)) (λi v z h=>by rw[h.1];exact H) {rfl,`s} ?_ ?_
 ·rintro i d v z hd ⟨rfl,rfl⟩;obtain⟨ρ1,e1,w2,e2,E,F⟩:=hs d (Q0 hd);simp only[c5,aV,gP,e1,uU];refine{ρ1,rfl,?_};rw[e2];have B:(ds.take (i+1)).flatMap (λd=>(j d).map (f d))=(ds.take i).flatMap (λd=>(j d).map (f d))++(j d).map (f d):=by
   rw[RK,hd];simp
  have l1:=qW (λd=>(j d).map (f d)) n (ds.take (i+1)) (λd hd=>by simpa using hn d (Rz hd))
  rw[B] at l1;simp only[Q6,Qx,R7] at l1;refine yA (f d) ?_ E F ⟨rfl,B.symm⟩;have:(min (i+1) ds.length)*n<=ds.length*n:=Nat.mul_le_mul_right _ (Nat.min_le_right _ _);omega
 ·rintro v z ⟨rfl,rfl⟩;simpa using hk
noncomputable def qX (w:Nat)(l:List (List Nat)):List (List Nat):=l.flatMap λs=>(List.range w).map λx=>s++[x]
def c7 (w:Nat):Nat->List (List Nat)
 |0=>[[]]
 |p+1=>qX w (c7 w p)
def aU (m:aK):List (List Nat):=c7 m.words m.places
def dg (m:aK)(s:List Nat):Prop:=s.length=m.places/\∀x∈s,x<m.words
def vn:∀s∈c7 w p,s.length=p/\∀x∈s,x<w:=by
 induction p with
 |zero=>intro s hs;simp[c7] at hs;subst hs;simp
 | succ p v=>
   intro s hs;simp only[c7,qX,List.mem_flatMap,QF,So] at hs;obtain⟨t,j,x,B,rfl⟩:=hs;obtain⟨h1,h2⟩:=v t j;refine{by simp[h1],λy u=>?_}
   rcases QR.mp u with z|z
   ·exact h2 y z
   ·simp at z;omega
def i7:∀s∈aU m,dg m s:=vn
def jW (j:w<=4):∀p≤2,(c7 w p).length<=4^p
 |0,_=>by simp[c7]
 | p+1,u=>by
   have:=jW j p `a
   have l:=qW (λs:List Nat=>(List.range w).map λx=>s++[x]) 4 (c7 w p) (λd hd=>by simpa using j)
   calc _<=(c7 w p).length*4:=l
    _<=4^p*4:=Nat.mul_le_mul_right _ this
    _=4^(p+1):=by rw[Nat.pow_succ]
def ib (hm:aB m):(aU m).length<=16:=by
 have h:=jW hm.w4 m.places hm.p2;have h1:=hm.p1;have h2:=hm.p2;have:m.places=1\/m.places=2:=`a
 rcases this with e|e<;>rw[e] at h<;>unfold aU<;>rw[e]<;>omega
theorem sG:∀(p:Nat) (s:List Nat),s.length=p->(∀x∈s,x<w)->s∈c7 w p
 | 0,s,hl,_=>by
   obtain rfl:=SF.mp hl;simp[c7]
 | p+1,s,hl,j=>by
   have ne:s≠[]:=by intro e;subst e;cases hl
   have u:=List.dropLast_concat_getLast ne;show s∈qX w (c7 w p);unfold qX;rw[List.mem_flatMap];refine{s.dropLast,sG p _ (by simp[hl]) (λx h=>j x (List.dropLast_subset _ h)),?_}
   rw[QF];exact{s.getLast ne,So.mpr (j _ (List.getLast_mem ne)),u}
def Dw (hm:aB m)(h:dg m s):s∈aU m:=sG _ s h.1 h.2
noncomputable def dN:aY->List Nat->Nat
 |.turn a t _,s=>t.getD (s.getD a 0) 0
 |.join a o t _,s=>(t.getD (s.getD a 0) []).getD (s.getD o 0) 0
 |.move _ o _,s=>s.getD o 0
 |.put _ x _,_=>x
def aY.at':aY->Nat
 |.turn a _ _=>a
 |.join a _ _ _=>a
 |.move a _ _=>a
 |.put a _ _=>a
def bK (d:aY)(s:List Nat):List Nat:=s.take d.at'++[dN d s]++s.drop (d.at'+1)
def getD_mem {j:Type}{l:List j}{d:j}(h:i<l.length):l.getD i d∈l:=by
 rw[RY,QM h];exact Sm h
def xS {m:aK}(hd:bV m.words m.places d)(hs:dg m s):dN d s<m.words:=by
 obtain⟨hl,j⟩:=hs;cases d with
 | turn a t c=>
   obtain⟨h1,h2,h3⟩:=hd;have:=j _ (getD_mem (d:=0) (show a<s.length by omega))
   exact h2.2 _ (getD_mem (by rw[h2.1];exact this))
 | join a o t c=>
   obtain⟨h1,h2,h3,h4⟩:=hd;have a1:=j _ (getD_mem (d:=0) (show a<s.length by omega))
   have a2:=j _ (getD_mem (d:=0) (show o<s.length by omega))
   have a3:=h3.2 _ (getD_mem (d:=[]) (show s.getD a 0<t.length by rw[h3.1];exact a1))
   exact a3.2 _ (getD_mem (by rw[a3.1];exact a2))
 |move a o c=>exact j _ (getD_mem (by obtain⟨h1,h2,h3⟩:=hd;omega))
 |put a x c=>exact hd.2.1
def td (hd:bV w p d):d.at'<p:=by cases d<;>exact hd.1
def sj (hd:bV m.words m.places d)(hs:dg m s):dg m (bK d s):=by
 have h1:=td hd;have h2:=xS hd hs;obtain⟨hl,j⟩:=hs;refine{by simp[bK];omega,λx hm=>?_}
 simp only[bK,QR,QN] at hm;rcases hm with(z|z)|z
 ·exact j x (Rz z)
 ·omega
 ·exact j x (Sx z)
def bg (m:aK)(r:List Nat):Prop:=r.length<=40/\∀i∈r,i<m.deeds.length
noncomputable def b3 (m:aK)(i:Nat):aY:=m.deeds.getD i (.put 0 0 1)
def bu (m:aK):List Nat->List Nat->List Nat
 |[],s=>s
 |i::r,s=>bu m r (bK (b3 m i) s)
def du (m:aK):List Nat->List Nat->List (List Nat)
 |[],s=>[s]
 |i::r,s=>s::du m r (bK (b3 m i) s)
def fD {m:aK}(hm:aB m){i:Nat}(hi:i<m.deeds.length):bV m.words m.places (b3 m i):=hm.ok _ (getD_mem hi)
def nK (hm:aB m):∀{r:List Nat}{s:List Nat},(∀i∈r,i<m.deeds.length)->dg m s->dg m (bu m r s)
 |[],s,_,h=>h
 |i::r,s,hr,h=>nK (r:=r) hm (λj u=>hr j (QD _ u)) (sj (fD hm (hr i QS)) h)
def oV:∀(a b s:List Nat),bu m (a++b) s=bu m b (bu m a s)
 |[],b,s=>rfl
 |i::a,b,s=>oV a b _
def rR:∀(r:List Nat) (i:Nat) (s:List Nat),du m (r++[i]) s=du m r s++[bK (b3 m i) (bu m r s)]
 |[],i,s=>rfl
 |j::r,i,s=>by simp[du,bu,rR r i]
def oB:∀(r s:List Nat),(du m r s).length=r.length+1
 |[],s=>rfl
 |i::r,s=>by simp[du,oB r]
def rS:∀(r s:List Nat),(du m r s)[r.length]?=some (bu m r s)
 |[],s=>rfl
 |i::r,s=>by simp[du,bu,rS r]
def nY (r s:List Nat):((bT (du m r s).length (-1)).bind λj=>Option.map ak (du m r s)[j]?)=some (ak (bu m r s)):=by
 rw[oB,Hs `a]
 show Option.map ak (du m r s)[r.length+1-1]?=_;rw[Nat.add_sub_cancel,rS];rfl
def B3 {s:List Nat}(hi:i<s.length):(bT (s.map nD).length (i:Int)).bind (λj=>(s.map nD)[j]?)=some (nD (s.getD i 0)):=by
 rw[dW (by simpa using hi)]
 simp[RY,hi]
def ax (r:List Nat):D:=.lst (r.map nD)
noncomputable def cD (m:aK)(r:List Nat):Nat:=(r.map λi=>(b3 m i).cost).sum
def CT {i:Nat}(hi:i<m.deeds.length):((bT (m.deeds.map aY.d).length (i:Int)).bind λj=>(m.deeds.map aY.d)[j]?)=some (b3 m i).d:=by
 rw[dW (by simpa using hi)]
 simp[b3,RY,hi]
def Ay {m:aK}:bO m.d (.int 2) M=some (.tup (m.deeds.map aY.d)):=rfl
def lu (hi:i<m.deeds.length):bO (.tup (m.deeds.map aY.d)) (nD i) M=some (b3 m i).d:=CT hi
def jR {d:aY}:bO d.d (.int (-1)) M=some (nD d.cost):=by cases d<;>rfl
def gX {s:List Nat}(hi:i<s.length):bO (ak s) (nD i) M=some (nD (s.getD i 0)):=B3 hi
def AV {t:List (List Nat)}(hi:i<t.length):bO (.tup (t.map ak)) (nD i) M=some (ak (t.getD i [])):=by
 show(bT (t.map ak).length (i:Int)).bind (λj=>(t.map ak)[j]?)=_;rw[dW (by simpa using hi)]
 simp[RY,hi]
def bE (M:Mem)(x:D)(r:List Nat):Prop:=x=.lst (r.map nD)\/∃q,x=.cell q/\M[q]?=some (r.map nD)
def bE.l:bE M (.lst (r.map nD)) r:=.inl rfl
def bE.c (h:M[q]?=some (r.map nD)):bE M (.cell q) r:=.inr ⟨q,rfl,h⟩
def bE.sub {M M':Mem}(h:bE M x r)(s:Sub M M'):bE M' x r:=h.elim .inl λ⟨q,e,g⟩=>.inr {q,e,s.get g}
def bE.seq (h:bE M x r):bL M x=some (r.map nD):=by
 rcases h with rfl|⟨q,rfl,e⟩
 ·rfl
 ·exact e
def bE.is (h:bE M x r):cX x=true/\ee x=true/\gW .list x=some true:=by
 rcases h with rfl|⟨q,rfl,e⟩<;>exact⟨rfl,rfl,rfl⟩
def bE.len (h:bE M x r):ae (dB .len [x] M) k↔k (.int r.length) M:=by
 rcases h with rfl|⟨q,rfl,e⟩
 ·show k (.int (r.map nD).length) M↔_;simp
 ·show ae (match M[q]? with|some xs=>_|none=>_) k↔_
  rw[e];simp
def bE.list (h:bE M x r):ae (dB (.list m) [x] M) k↔ae (ba m (r.map nD) M) k:=by
 rcases h with rfl|⟨q,rfl,e⟩
 ·exact RQ
 ·show ae (match M[q]? with|some xs=>_|none=>_) k↔_
  rw[e]
theorem uP (f:Nat->Nat):∀(r:List Nat),∃bs,intsOf (r.map λi=>nD (f i))=some bs/\bs.sum=(((r.map f).sum:Nat):Int)
 |[]=>{[],rfl,rfl}
 | i::r=>by
   obtain⟨bs,e1,e2⟩:=uP f r;exact{(f i:Int)::bs,by simp[intsOf,e1],by simp[e2]}
section
variable{P:Nat->Option Df}(h:HasB0 P){M:Mem}
include h
theorem tU (n:Nat)(hm:aB m):ah P (n+8) 13 [m.d] M=.ok .non M:=by
 refine aq (ay h.need_machine rfl ?_);simp[ie,Gq h n hm]
theorem m8 (h15:P 15=some {1,6,cf})(n:Nat)(hm:aB m):ah P (n+9) 15 [m.d] M=.ok (.lst ((aU m).map ak)) M:=by
 refine aq (ay h15 rfl ?_);have w4:=hm.w4;have p2:=hm.p2;simp[cf,tU h n hm];simp[aK.d,cL];refine{`d,`a,?_}
 refine dO (λi u j=>j=M/\∃a,u=[some m.d,some (nD m.words),some (nD m.places),some (.tup (m.deeds.map aY.d)),some (.lst ((c7 m.words i).map ak)),a]) (λ_ _ _ _=>rfl) {rfl,none,by simp[aK.d,c7,ak]} ?_ ?_
 ·rintro i d u j hd ⟨rfl,a,rfl⟩;have y:i<m.places:=by
   have:=(Qs.mp hd).1;simpa using this
  refine{_,rfl,?_};simp[cX];refine yB (λ_=>(List.range m.words).map λ(k:Nat)=>D.int (k:Int)) (λd e=>match d,e with|.tup x,e=>.tup (x++[e])|_,_=>.non) 4 (by simpa using λ_ _=>w4) ?_ rfl ?_ ?_
  ·have:=jW w4 i `a
   have:(4:Nat)^i<=4^2:=Nat.pow_le_pow_right `d `a
   simp only[Qx];exact aH `a
  ·intro d hd;obtain⟨s,hs,rfl⟩:=QF.mp hd;have{l1,_}:=vn s hs;refine{_,rfl,(λ_=>some ((List.range m.words).map λ(k:Nat)=>D.int (k:Int))),dY ?_,rfl,λe he=>{_,rfl,aq ?_}}
   ·simp;omega
   ·simp[ak,sz];omega
  ·have v:((c7 m.words i).map ak).flatMap (λd=>((List.range m.words).map λ(k:Nat)=>D.int (k:Int)).map (λe=>match d,e with|.tup x,e=>D.tup (x++[e])|_,_=>.non))=(c7 m.words (i+1)).map ak:=by
    simp only[c7,qX,List.flatMap_map,List.map_flatMap,RO]
    congr 1
    funext s
    simp[ak,R0]
   rw[v];refine{?_,rfl,rfl};have:=jW w4 (i+1) `a
   have:(4:Nat)^(i+1)<=4^2:=Nat.pow_le_pow_right `d `a
   simp only[Qx];exact aH `a
 ·rintro u j ⟨rfl,a,rfl⟩;simp[aU]
end
section
variable{P:Nat->Option Df}(h:HasM0 P){M:Mem}
include h
theorem wa (n:Nat){m:aK}(hi:i<m.deeds.length):ah P (n+2) 16 [m.d,nD i] M=.ok (.bl true) M:=by
 refine aq (ay h.is_deed_number rfl ?_);simp[gp,aK.d,bT,dP h.toHasB0];omega
theorem xA (n:Nat){m:aK}(v:bE M x r)(hr:∀i∈r,i<m.deeds.length):ah P (n+3) 17 [m.d,x] M=.ok .non M:=by
 refine aq (ay h.need_numbers rfl ?_);obtain⟨y,z,B⟩:=v.is;simp[ic,y,z,B];refine dO (λi u j=>j=M/\∃a b,u=[some m.d,some x,a,b]) (λ_ _ _ e=>by rw[e.1,v.seq];rfl) ⟨rfl,none,none,rfl⟩ ?_ ?_
 ·rintro i d u j hd ⟨rfl,a,b,rfl⟩;rw[jT] at hd;rw[QX] at hd;cases e:r[i]? with
  |none=>rw[e] at hd;cases hd
  | some x=>
    rw[e] at hd;simp at hd;subst hd;refine{_,rfl,?_};simp[wa h n (hr x (Q0 e))]
 ·rintro u j ⟨rfl,a,b,rfl⟩;simp
theorem rO (n:Nat)(j:bE M x r)(hm:aB m)(hr:bg m r):ah P (n+9) 18 [m.d,x] M=.ok .non M:=by
 have e:=xA h (n+5) j hr.2;refine aq (ay h.need_row rfl ?_);simp[lO,tU h.toHasB0 n hm,e];rw[j.len];have:=hr.1;simp;omega
theorem ma (h47:P 47=some {2,2,f9})(n:Nat){m:aK}(j:bE M x r)(hl:r.length<=100000)(hr:∀i∈r,i<m.deeds.length):ah P (n+1) 47 [m.d,x] M=.ok (nD (cD m r)) M:=by
 refine aq (ay h47 rfl ?_);simp[f9,j.is];refine gD (λd=>match d with|.int i=>nD (b3 m i.toNat).cost|_=>.non) (aH `o) j.seq ?_ ?_
 ·intro d hd;obtain⟨x,j,rfl⟩:=QF.mp hd;refine{_,rfl,aq ?_};simp[-ia,Ay,lu (hr x j),jR]
 ·obtain⟨bs,e1,e2⟩:=uP (λi=>(b3 m i).cost) r;refine{?_,bs,?_,?_,rfl}
  ·simp;exact aH `a
  ·simpa[R0] using e1
  ·exact e2
end
section
variable{P:Nat->Option Df}(h:lU P){M:Mem}
include h
theorem zB (n:Nat){m:aK}(hd:bV m.words m.places (.turn a t c))(hs:dg m s):ah P (n+1) 20 [(aY.turn a t c).d,ak s] M=.ok (nD (dN (.turn a t c) s)) M:=by
 obtain⟨h1,h2,h3⟩:=hd;have a1:a<s.length:=by rw[hs.1];exact h1
 have a2:s.getD a 0<t.length:=by rw[h2.1];exact hs.2 _ (getD_mem a1)
 refine aq (ay h.turned rfl ?_);simp[-ia,-List.getD_eq_getElem?_getD,lM,aY.d,cL,gX a1,gX a2,dN]
theorem zL (n:Nat){a o c:Nat}(hd:bV m.words m.places (.join a o t c))(hs:dg m s):ah P (n+1) 21 [(aY.join a o t c).d,ak s] M=.ok (nD (dN (.join a o t c) s)) M:=by
 obtain⟨h1,h2,h3,h4⟩:=hd;have a1:a<s.length:=by rw[hs.1];exact h1
 have a2:o<s.length:=by rw[hs.1];exact h2
 have a3:s.getD a 0<t.length:=by rw[h3.1];exact hs.2 _ (getD_mem a1)
 have a4:s.getD o 0<(t.getD (s.getD a 0) []).length:=by rw[(h3.2 _ (getD_mem a3)).1];exact hs.2 _ (getD_mem a2)
 refine aq (ay h.joined rfl ?_);simp[-ia,-List.getD_eq_getElem?_getD,lP,aY.d,cL,gX a1,gX a2,AV a3,gX a4,dN]
theorem Ca (n:Nat)(hd:bV m.words m.places (.move a o c))(hs:dg m s):ah P (n+1) 22 [(aY.move a o c).d,ak s] M=.ok (nD (dN (.move a o c) s)) M:=by
 obtain⟨h1,h2,h3⟩:=hd;have a2:o<s.length:=by rw[hs.1];exact h2
 refine aq (ay h.moved rfl ?_);simp[-ia,-List.getD_eq_getElem?_getD,nS,aY.d,cL,gX a2,dN]
theorem B8 (n:Nat):ah P (n+1) 23 [(aY.put a x c).d,ak s] M=.ok (nD (dN (.put a x c) s)) M:=by
 refine aq (ay h.put_in rfl ?_);simp[lN,aY.d,cL,dN]
end
def Pa:cz.lookup (Str.ofString "turn")=some 20:=`k
def O9:cz.lookup (Str.ofString "join")=some 21:=`k
def O8:cz.lookup (Str.ofString "move")=some 22:=`k
def O7:cz.lookup (Str.ofString "put")=some 23:=`k
def Jr {a:Nat}(j:a<=s.length):ae (fM false (ak s) .non (.int a) M) k↔k (ak (s.take a)) M:=by
 simp only[fM,ak,aR,cut];rw[if_neg `a]
 simp;rw[Nat.min_eq_left (by simpa using j)]
def Gv {a:Nat}(j:a<=s.length):ae (fM false (ak s) (.int a) .non M) k↔k (ak (s.drop a)) M:=by
 simp only[fM,ak,aR,cut];rw[if_neg `a]
 simp;rw[Nat.min_eq_left (by simpa using j),Ru `s]
section
variable{P:Nat->Option Df}(h:lU P){M:Mem}
include h
theorem v9 (n:Nat){d:aY}(hm:aB m)(hd:bV m.words m.places d)(hs:dg m s):ah P (n+2) 24 [d.d,ak s] M=.ok (ak (bK d s)) M:=by
 have a0:=td hd;have l0:=hs.1;have p2:=hm.p2;have j:∀f,ah P (n+1) f [d.d,ak s] M=.ok (nD (dN d s)) M->bO d.d (.int 1) M=some (nD d.at')->(∀k:D->Mem->Prop,(∃y,bO d.d (.int 0) M=some (.str y)/\cz.lookup y=some f))->ah P (n+2) 24 [d.d,ak s] M=.ok (ak (bK d s)) M:=λf e1 e2 u=>by
  obtain⟨y,u,v⟩:=u λ_ _=>True;refine aq (ay h.done rfl ?_);simp only[qi,aF,mj,Lm,iw,bx,eX,b7,eD,jU,lG,iU,cb,dG,HH];simp[-ia,e1,e2,u,v,eE];rw[Jr `a,e1]
  have z:(d.at':Int)+1=((d.at'+1:Nat):Int):=`a
  rw[z];simp only[bo,ak,Bo];refine{`d,?_,?_}
  ·simp;exact aH `a
  ·rw[show D.tup (s.map nD)=ak s from rfl,Gv `a]
   simp only[ak,Bo];refine{?_,?_,trivial}
   ·simp;exact aH `a
   ·simp[bK]
 cases d with
 |turn a t c=>exact j 20 (zB h n hd hs) rfl λ_=>{_,rfl,Pa}
 |join a o t c=>exact j 21 (zL h n hd hs) rfl λ_=>{_,rfl,O9}
 |move a o c=>exact j 22 (Ca h n hd hs) rfl λ_=>{_,rfl,O8}
 |put a x c=>exact j 23 (B8 h n) rfl λ_=>{_,rfl,O7}
end
section
variable{P:Nat->Option Df}(h:HasM P){M:Mem}
include h
theorem vH (n:Nat)(u:bE M x r)(hm:aB m)(F:r.length<=100000)(hr:∀i∈r,i<m.deeds.length)(hs:dg m s):ah P (n+3) 25 [m.d,x,ak s] M=.ok (.cell M.length) (M++[(du m r s).map ak]):=by
 refine aq (ay h.all_standing rfl ?_);simp[ig,u.is];refine{`d,?_}
 refine dO (λi B v=>v=M++[(du m (r.take i) s).map ak]/\∃a,B=[some m.d,some x,some (ak s),some (.cell M.length),a]) (λ_ _ _ e=>by rw[e.1];exact(u.sub Sub.app).seq) {by simp[du],none,rfl} ?_ ?_
 ·rintro i d B v hd ⟨rfl,a,rfl⟩;rw[QX] at hd;cases e:r[i]? with
  |none=>rw[e] at hd;cases hd
  | some x=>
    rw[e] at hd;simp at hd;subst hd;have u:=hr x (Q0 e);have H:i<r.length:=(Qs.mp e).1;refine{_,rfl,?_};have z:dg m (bu m (r.take i) s):=nK hm (λj E=>hr j (Rz E)) hs;have hl:=oB (m:=m) (r.take i) s;have y:(r.take i).length=i:=by simp;omega
    simp[-ia,Ay,lu u,nY,v9 h.r n hm (fD hm u) z];refine{?_,?_}
    ·rw[hl,y];exact RW (show i+1<=100001 by omega) `d
    ·rw[RK,e];simp[rR]
 ·rintro B v ⟨rfl,a,rfl⟩;simp
def jr (m:aK)(r:List Nat):D:=.tup ((aU m).map λs=>ak (bu m r s))
theorem md (h15:P 15=some {1,6,cf})(h46:P 46=some {2,2,gE})(n:Nat)(z:bE M x r)(hm:aB m)(v:r.length<=100000)(hr:∀i∈r,i<m.deeds.length):ah P (n+10) 46 [m.d,x] M=.ok (jr m r) (M++(aU m).map λs=>(du m r s).map ak):=by
 refine aq (ay h46 rfl ?_);simp[gE,m8 h.toHasM0.toHasB0 h15 n hm];refine{rfl,?_};have bl:=ib hm;refine comp_map (λi j u=>j=((aU m).take i).map (λs=>ak (bu m r s))/\u=M++((aU m).take i).map λs=>(du m r s).map ak) (aH `o) (λ_ _ _ _=>rfl) `s ?_ ?_
 ·rintro i d j u hd _ ⟨rfl,y⟩;rw[QX] at hd;cases e:(aU m)[i]? with
  |none=>rw[e] at hd;cases hd
  | some s=>
    rw[e] at hd;have hd:=Qz hd;subst hd;have hs:=i7 s (Q0 e);refine{_,rfl,?_};have st:=vH h (n+6) (M:=u) (by rw[y];exact z.sub Sub.app) hm v hr hs
    simp[st,nY];rw[y,RK,RK];simp[e]
 ·rintro j u _ ⟨rfl,rfl⟩;simp;exact{aH `a,by simp[jr,Ru]}
theorem zM (h15:P 15=some {1,6,cf})(h46:P 46=some {2,2,gE})(n:Nat)(hm:aB m)(hr:bg m r):ah P (n+10) 46 [m.d,ax r] M=.ok (jr m r) (M++(aU m).map λs=>(du m r s).map ak):=md h h15 h46 n .l hm (QH hr.1 `d) hr.2
theorem rQ (h15:P 15=some {1,6,cf})(h27:P 27=some {2,2,ix})(h46:P 46=some {2,2,gE})(n:Nat)(j:bE M x r)(hm:aB m)(hr:bg m r):ah P (n+11) 27 [m.d,x] M=.ok (jr m r) (M++(aU m).map λs=>(du m r s).map ak):=by
 refine aq (ay h27 rfl ?_);simp[ix,rO h.toHasM0 (n+1) j hm hr,md h h15 h46 n j hm (QH hr.1 `d) hr.2]
end
@[simp] theorem uG:ae (dB .len [.cell j] M) k↔∃ds,M[j]?=some ds/\k (.int ds.length) M:=by
 show ae (match M[j]? with|some xs=>_|none=>_) k↔_
 cases M[j]?<;>simp
structure aJ (M:Mem) (p B:Nat):Prop where
 ex:∃(c:Nat) (cells:List Int) (at_ st:Int),M[p]?=some [.cell c,.int at_,.int st]/\M[c]?=some (cells.map D.int)/\c<p/\0<=at_/\at_<=B/\0<=st
structure aX (p:Nat) (M M':Mem):Prop where
 len:M.length<=M'.length
 at':∀k,k<M.length->k≠p->M'[k]?=M[k]?
def aX.refl:aX p M M:={QA _,λ_ _ _=>rfl}
def aX.trans (a:aX p M M1)(b:aX p M1 M2):aX p M M2:={QH a.len b.len,λk hk n=>(b.at' k (QL hk a.len) n).trans (a.at' k hk n)}
def aX.set:aX p M (M.set p ds):={`s,λk _ n=>Qv (RF n)}
def aX.app:aX p M (M++X):={`s,λk hk _=>QB hk}
def aX.get (h:aX p M M')(e:M[k]?=some ds)(n:k≠p):M'[k]?=some ds:=by rw[h.at' k (Qs.mp e).1 n];exact e
def aJ.lt (h:aJ M p B):p<M.length:=by obtain⟨_,_,_,_,e,_⟩:=h.ex;exact(Qs.mp e).1
def aJ.app (h:aJ M p B):aJ (M++X) p B:=by
 obtain⟨c,j,a,st,e1,e2,r⟩:=h.ex;exact{c,j,a,st,by rw[QB (Qs.mp e1).1];exact e1,by rw[QB (Qs.mp e2).1];exact e2,r}
def aJ.mono (h:aJ M p B)(E:B<=B'):aJ M p B':=by
 obtain⟨c,j,a,st,e1,e2,u,v,z,y⟩:=h.ex;exact{c,j,a,st,e1,e2,u,v,`a,y}
def aJ.setq (h:aJ M p B)(E:p<q):aJ (M.set q ds) p B:=by
 obtain⟨c,j,a,st,e1,e2,u,v,y,z⟩:=h.ex;exact{c,j,a,st,by rw[Qv `a];exact e1,by rw[Qv `a];exact e2,u,v,y,z}
def aX.setq (h:aX p M M')(j:M.length<=q):aX p M (M'.set q ds):={by simpa using h.len,λk hk n=>by rw[Qv `a];exact h.at' k hk n}
def Au {a b A B:Int}(h1:0<=a)(h2:a<=A)(h3:0<=b)(h4:b<=B):0<=a*b/\a*b<=A*B:=
 {Int.mul_nonneg h1 h3,Int.mul_le_mul h2 h4 h3 (Int.le_trans h1 h2)}
noncomputable def nk:List Int:=[2147483629,2147483587,2147483579,2147483563,2147483549,2147483543,2147483497,2147483489,2147483477,2147483423,2147483399,2147483353,2147483323]
def i3:List D:=nk.map D.int
def Ab:∀q∈nk,0<q/\q<2147483648:=`d
def oE (j:Int)(M:Mem):∃q:Int,bO (.lst i3) (.int (j % 13)) M=some (.int q)/\0<q/\q<2147483648:=by
 have h1:0<=j % 13:=Ss _ `d
 have h2:j % 13<13:=Sq _ `d
 generalize j % 13=i at h1 h2;obtain⟨k,rfl⟩:=Int.eq_ofNat_of_zero_le h1;have hk:=Int.ofNat_lt.mp h2;refine{nk[k],?_,Ab _ (Sm hk)};show(bT i3.length (k:Int)).bind (λj=>i3[j]?)=_;rw[dW (n:=i3.length) hk];show(nk.map D.int)[k]?=_;rw[QX,QM hk];rfl
section
variable{P:Nat->Option Df}(h:HasP0 P){M:Mem}
include h
omit h in
theorem fc {x y:Int}(j:a Z M=.ok (.int x) M)(u:b Z M=.ok (.int y) M):au m .add a b Z M=.ok (.int (x+y)) M:=by
 unfold au;rw[j];show(b Z M).bind _=_;rw[u];rfl
omit h in
theorem oJ {x y:Int}(j:a Z M=.ok (.int x) M)(u:b Z M=.ok (.int y) M)(c:(-(2^64)<x/\x<2^64)\/(-(2^64)<y/\y<2^64)):au m .mul a b Z M=.ok (.int (x*y)) M:=by
 unfold au;rw[j];show(b Z M).bind _=_;rw[u];exact if_pos c
omit h in
theorem jj {x y:Int}(j:a Z M=.ok (.int x) M)(u:b Z M=.ok (.int y) M)(c:0<y):au m .mod a b Z M=.ok (.int (x % y)) M:=by
 unfold au;rw[j];show(b Z M).bind _=_;rw[u];exact if_pos c
omit h in
theorem xI {x y:Int}(j:a Z M=.ok (.int x) M)(u:b Z M=.ok (.int y) M)(c:0<=y/\y<=1000000)(d:x.natAbs<2^64):au m .pow a b Z M=.ok (.int (x^y.toNat)) M:=by
 unfold au;rw[j];show(b Z M).bind _=_;rw[u];exact if_pos ⟨c.1,c.2,d⟩
omit h in
theorem oF {x q:Int}(hi:Z[i]?.getD none=some (.lst i3))(j:a Z M=.ok (.int x) M)(e:bO (.lst i3) (.int (x % 13)) M=some (.int q)):aw (aa i) (au false .mod a (gI 13)) Z M=.ok (.int q) M:=by
 unfold aw;rw[ag hi];show(au false .mod a _ Z M).bind _=_;rw[jj j rfl `d];show bS M _=_;rw[e];rfl
theorem zE {x a:Int}(n:Nat)(R:0<=a)(h1:a<=1000000):ae (ah P (n+1) 28 [.int x,.int a] M) λd M'=>M'=M/\∃v:Int,d=.int v/\0<=v:=by
 refine ay h.law_spread rfl ?_;refine bN rfl (λe=>?_) λe=>?_
 ·exact{rfl,x,rfl,Int.le_trans `d (of_decide_eq_true e)}
 clear e;refine bY (cg rfl) (bY (cg rfl) ?_);obtain⟨S,e1,p1,p2⟩:=oE a M;obtain⟨U,e2,u,_⟩:=oE (a+5) M;obtain⟨q3,Q,J,_⟩:=oE (a+7) M;have y:∀{z c:Int},0<=z->z<=c->c<2^64->z.natAbs<2^64:=λX Y L=>`a
 have lt:∀{z c:Int},0<=z->z<=c->c<2^64->-(2^64)<z/\z<2^64:=λX Y L=>`a
 have r1:=Ss x (show(1000000007:Int)≠0 by decide)
 have r2:=Sq x (show(0:Int)<1000000007 by decide)
 obtain⟨m1,m2⟩:=Au r1 (Int.le_of_lt r2) (show 0<=2*a+69069 by omega) (show 2*a+69069<=2069069 by omega)
 refine bY (cg (jj (xI (fc (fc (oJ (jj (ag rfl) rfl `d) (fc (oJ rfl (ag rfl) (.inl `d)) rfl) (.inl (lt r1 (Int.le_of_lt r2) `d))) (oJ (ag rfl) rfl (.inl (lt R h1 `d)))) rfl) rfl `d (y (c:=10000000000000000000) `a `a `d)) (oF rfl (ag rfl) e1) p1)) ?_
 generalize (x % 1000000007*(2*a+69069)+a*40503+977)^(3:Int).toNat=B;have j:=Ss B (Int.ne_of_gt p1);have F:=Sq B p1;generalize B % S=one at j F;have H:=Int.le_of_lt (Int.lt_trans F p2);obtain⟨m3,m4⟩:=Au j H (show 0<=a+3 by omega) (show a+3<=1000003 by omega)
 refine bY (cg (jj (xI (fc (fc (oJ (ag rfl) (fc (ag rfl) rfl) (.inl (lt j H `d))) (jj (ag rfl) rfl `d)) rfl) rfl `d (y (c:=10000000000000000000) `a `a `d)) (oF rfl (fc (ag rfl) rfl) e2) u)) ?_
 generalize (one*(a+3)+x % 65537+5)^(5:Int).toNat=E;have I:=Ss E (Int.ne_of_gt u);have O:=Sq E u;generalize E % U=two at I O;refine bY (cg (jj (xI (fc (fc (ag rfl) (jj (ag rfl) rfl `d)) (ag rfl)) rfl `d (y (c:=10000000000) `a `a `d)) (oF rfl (fc (ag rfl) rfl) Q) J)) ?_
 generalize (two+one % 1009+a)^(3:Int).toNat=W;have d1:=Ss W (Int.ne_of_gt J);refine eI (fc (oJ (fc (oJ (ag rfl) rfl (.inr `d)) (ag rfl)) rfl (.inr `d)) (ag rfl)) {rfl,_,rfl,?_}
 exact Int.add_nonneg (Int.mul_nonneg (Int.add_nonneg (Int.mul_nonneg j `d) I) `d) d1
omit h in
theorem Pr:bT 3 2=some 2:=rfl
omit h in
theorem qP {l:List Int}{i:Int}(u:0<=i)(h1:i<l.length):∃x,((bT l.length i).bind λj=>Option.map D.int l[j]?)=some (.int x):=by
 obtain⟨k,rfl⟩:=Int.eq_ofNat_of_zero_le u;have hk:k<l.length:=`a
 refine{l[k],?_};rw[dW hk];simp[hk]
def ot:GS:=#v[az (.one 4) (au false .mod (aw (aa 0) (gI 2)) (aa 1)),eM (aa 0) (gI 2) (au false .fdiv (aw (aa 0) (gI 2)) (aa 1)),aI (aa 4)]
def vU (c:Call):GS:=#v[eM (aa 0) (gI 1) (au false .add (aa 2) (gI 1)),eM (aa 0) (gI 2) (ai 28 c #[aa 3,aa 2])]
omit h in
theorem Nf {x y:Int}(j:a Z M=.ok (.int x) M)(u:b Z M=.ok (.int y) M)(c:0<y/\y<1073741824):au m .fdiv a b Z M=.ok (.int (x / y)) M:=by
 unfold au;rw[j];show(b Z M).bind _=_;rw[u];exact if_pos c
omit h in
theorem bt (j:a Z M=.ok x M)(u:b Z M=.ok y M)(e:bO x y M=some d):aw a b Z M=.ok d M:=by
 unfold aw;rw[j];show(b Z M).bind _=_;rw[u];show bS M _=_;rw[e];rfl
omit h in
theorem K8 (e:M[p]?=some [c0,c1,c2]):bO (.cell p) (.int 0) M=some c0/\bO (.cell p) (.int 1) M=some c1/\bO (.cell p) (.int 2) M=some c2:=by
 refine{?_,?_,?_}<;>(show(M[p]?).bind _=_;rw[e];rfl)
omit h in
theorem ub {n:Int}(hd:d Z M=.ok z M')(u:a Z M'=.ok (.cell p) M')(v:b Z M'=.ok (.int n) M')(e:M'[p]?=some ds)(hi:bT ds.length n=some i)(h:ae (rest Z (M'.set p (ds.set i z))) kf):ae (aS (eM a b d) rest Z M) kf:=by
 simp only[aF];unfold eM;rw[hd];show ae ((a Z M').bind _) _;rw[u];show ae ((b Z M').bind _) _;rw[v];show ae (match M'[p]? with|some ds=>(match bT ds.length n with|some j=>Res.ok (Fl.next Z) (M'.set p (ds.set j z))|none=>.bad)|none=>.bad) _
 rw[e];show ae (match bT ds.length n with|some j=>Res.ok (Fl.next Z) (M'.set p (ds.set j z))|none=>.bad) _
 rw[hi];exact h
omit h in
theorem K9 (j:t Z M=.ok b M)(h1:b=true->ae (A Z M) (ij rest kf))(h2:b=false->ae (B Z M) (ij rest kf)):ae (aS (aN t A B) rest Z M) kf:=by
 simp only[aF,mi];rw[j];cases b with
 |true=>exact h1 rfl
 |false=>exact h2 rfl
omit h in
theorem rK {j:List Int}{a st:Int}(e1:M1[p]?=some [.cell c,.int a,.int st])(e2:M1[c]?=some (j.map D.int))(lt:c<p)(a0:0<=a)(u:a<=(B+1:Nat))(H:0<=st)(k:aX p M M1)
 (z:0<many) (h1:many<=10000000):ae (ot [some (.cell p),some (nD many),x,y,none] M1) (oR λd M'=>∃v:Nat,d=nD v/\v<many/\aJ M' p (B+1)/\aX p M M'):=by
 have E:p<M1.length:=(Qs.mp e1).1;have b0:=Int.ofNat_lt.mpr z;have r1:=Ss st (Int.ne_of_gt b0);have r2:=Sq st b0;refine bY (cg (jj (bt (ag rfl) rfl (K8 e1).2.2) (ag rfl) b0)) (ub (Nf (bt (ag rfl) rfl (K8 e1).2.2) (ag rfl) {b0,`a}) (ag rfl) rfl e1 rfl (eI (ag rfl) ?_))
 obtain⟨v,F⟩:=Int.eq_ofNat_of_zero_le r1;refine{v,congrArg D.int F,`a,{c,j,a,st / many,QI E,?_,lt,a0,u,Int.ediv_nonneg H (Int.le_of_lt b0)},k.trans aX.set}
 rw[Qv (Rn lt)];exact e2
theorem qu (n:Nat){p B many:Nat}(R:aJ M p B)(hB:B<=1000000)(I:0<many)(h1:many<=10000000):ae (ah P (n+2) 31 [.cell p,nD many] M) λd M'=>∃v:Nat,d=nD v/\v<many/\aJ M' p (B+1)/\aX p M M':=by
 obtain⟨c,u,a,st,e1,e2,lt,a0,Y,W⟩:=R.ex;have z:p<M.length:=(Qs.mp e1).1;obtain⟨H,S,U⟩:=K8 e1;refine ay h.law_take rfl ?_;show ae (aS (aN _ (aS _ (aS _ (aS _ (vU (ah P (n+1)))))) _) ot [some (.cell p),some (nD many),none,none,none] M) _;have y:∀(x:Int),ae (vU (ah P (n+1)) [some (.cell p),some (nD many),some (.int a),some (.int x),none] M) (ij ot (oR λd M'=>∃v:Nat,d=nD v/\v<many/\aJ M' p (B+1)/\aX p M M')):=by
  intro x;refine ub (fc (ag rfl) rfl) (ag rfl) rfl e1 rfl ?_;obtain⟨_,_,Q,rfl,v,rfl,X⟩:=d8.mp (zE h n a0 `a)
  refine ub ((aZ (af (ag rfl) (af (ag rfl) rfl))).trans Q) (ag rfl) rfl (QI z) rfl ?_;have ne:=Rn lt;exact rK (QI (by rw[List.length_set];exact z)) (by rw[Qv ne,Qv ne];exact e2) lt `a `a X (aX.set.trans aX.set) I h1
 have len:aL .len #[aw (aa 0) (gI 0)] [some (.cell p),some (nD many),some (.int a),some (.int 0),none] M=.ok (.int (u.length:Nat)) M:=by
  refine aq ?_;simp only[dj];rw[af (bt (ag rfl) rfl H) rfl,bo];exact uG.mpr {_,e2,by rw[Qx],rfl}
 refine bN (b:=decide (st<(many:Int))) (b5 (aq ?_)) (λJ=>?_) λJ=>?_
 ·simp only[g4];rw[bt (ag rfl) rfl U,bo,ag rfl,bo];exact{_,rfl,rfl,rfl}
 ·refine bY (cg (bt (ag rfl) rfl S)) (bY (cg rfl) ?_);show ae (aS _ _ [some (.cell p),some (nD many),some (.int a),some (.int 0),none] M) _;have E:∀{i:Int}{x:D},((bT u.length i).bind λj=>Option.map D.int u[j]?)=some x->bO (.cell c) (.int i) M=some x:=λ{i x} ex=>by
   show(M[c]?).bind _=_;rw[e2];show((bT (u.map D.int).length i).bind λj=>(u.map D.int)[j]?)=_;simp only[Qx,QX];exact ex
  refine K9 (b:=decide (a<(u.length:Int))) (b5 (aq ?_)) (λL=>?_) λ_=>?_
  ·simp only[g4];rw[ag rfl,bo,len,bo];exact{_,rfl,rfl,rfl}
  ·obtain⟨x,ex⟩:=qP a0 (of_decide_eq_true L);exact bY (cg (bt (bt (ag rfl) rfl H) (ag rfl) (E ex))) (y x)
  ·refine bN (b:=decide ((0:Int)<(u.length:Int))) (b5 (aq ?_)) (λO=>?_) λ_=>y 0
   ·simp only[g4,eX];rw[len,bo];exact{_,rfl,rfl,rfl}
   ·have F:=of_decide_eq_true O;obtain⟨x,ex⟩:=qP (Ss (a*5+3) (Int.ne_of_gt F)) (Sq _ F);exact bY (cg (jj (bt (bt (ag rfl) rfl H) (jj (fc (oJ (ag rfl) rfl (.inr `d)) rfl) len F) (E ex)) (fc rfl (ag rfl)) (Int.lt_of_lt_of_le `d (Int.le_add_of_nonneg_right a0)))) (y _)
 ·exact rK e1 e2 lt a0 `a W .refl I h1
end
noncomputable def aY.withC:aY->Nat->aY
 |.turn a t _,c=>.turn a t c
 |.join a o t _,c=>.join a o t c
 |.move a o _,c=>.move a o c
 |.put a x _,c=>.put a x c
def BA {w p c:Nat}{d:aY}(h:bV w p d)(u:hG c):bV w p (d.withC c):=by
 cases d with
 |turn=>exact⟨h.1,h.2.1,u⟩
 |join=>exact⟨h.1,h.2.1,h.2.2.1,u⟩
 |move=>exact⟨h.1,h.2.1,u⟩
 |put=>exact⟨h.1,h.2.1,u⟩
def xg {w p:Nat}{d:aY}(h:bV w p d):hG d.cost:=by
 cases d with
 |turn=>exact h.2.2
 |join=>exact h.2.2.2
 |move=>exact h.2.2
 |put=>exact h.2.2
def Dp {d:aY}{c:Nat}{M:Mem}{k:D->Mem->Prop}(hk:k (d.withC c).d M):ae (fM false d.d .non (.int (-1)) M) λx M=>ae (fP false .add x (.tup [nD c]) M) k:=by
 cases d<;>(simp[aY.d,fM,aR,cut];exact{`d,hk})
def B4 (n:Nat)(d:aY):aA (n+3) d.d=true:=by
 have v:∀(n:Nat) (l:List Nat),(l.map nD).all (aA n)=true:=λn l=>by
  rw[QY];intro x u;obtain⟨i,_,rfl⟩:=QF.mp u;cases n<;>rfl
 cases d with
 |turn a t c=>simp[aY.d,aA,ak,nD];decide +kernel
 |join a o t c=>simp[aY.d,aA,nD,ak];decide +kernel
 |move a o c=>simp[aY.d,aA,nD];decide +kernel
 |put a x c=>simp[aY.d,aA,nD];decide +kernel
def ne_nil {M:Mem}{q:Nat}{ds:List aY}(e:M[q]?=some (ds.map aY.d)):bz .ne (.cell q) (.lst []) M=some (!ds.isEmpty):=by
 have hp:(ds.map aY.d).all (aA 63)=true:=by
  rw[QY];intro x v;obtain⟨d,_,rfl⟩:=QF.mp v;exact B4 60 d
 have u:view M (.cell q)=.lst (ds.map aY.d):=by simp[view,e]
 have h1:=hp;refine ri (by rw[u];exact h1) rfl ?_
 rw[u];cases ds<;>rfl
@[simp] theorem Kx {m:Bool}{x:List D}{j:Int}{M:Mem}{k:D->Mem->Prop}:ae (fP m .mul (.tup x) (.int j) M) k↔(x.length*j.toNat<=sz/\-(2^63)<=j/\j<2^63)/\k (.tup (List.replicate j.toNat x).flatten) M:=km
@[simp] theorem Ky {m:Bool}{x:List D}{j:Int}{M:Mem}{k:D->Mem->Prop}:ae (fP m .mul (.lst x) (.int j) M) k↔(x.length*j.toNat<=sz/\-(2^63)<=j/\j<2^63)/\ae (ba m (List.replicate j.toNat x).flatten M) k:=km
def tY {xs:List D}{a:Nat}{M:Mem}{k:D->Mem->Prop}:ae (fM false (.lst xs) .non (.int a) M) k↔(xs.take a).length<=sz/\k (.lst (xs.take a)) M:=by
 have e:cut xs 0 (min a xs.length)=xs.take a:=by
  unfold cut;rcases Nat.le_total a xs.length with h|h
  ·rw[Nat.min_eq_left h];simp
  ·rw[Nat.min_eq_right h];simp[Ru h]
 show ae (match aR xs.length 0 D.non,aR xs.length xs.length (.int a) with|some l,some h=>ba false (cut xs l h) M|_,_=>.bad) k↔_
 have e2:aR xs.length xs.length (.int a)=some (min a xs.length):=by
  show some _=_;rw[if_neg `a];simp
 rw[e2];show ae (ba false (cut xs 0 (min a xs.length)) M) k↔_;rw[e,cn]
def Ce {xs:List D}{a:Nat}{M:Mem}{k:D->Mem->Prop}:ae (fM false (.lst xs) (.int a) .non M) k↔(xs.drop a).length<=sz/\k (.lst (xs.drop a)) M:=by
 have e:cut xs (min a xs.length) xs.length=xs.drop a:=by
  unfold cut;rcases Nat.le_total a xs.length with h|h
  ·rw[Nat.min_eq_left h,Ru `s]
  ·rw[Nat.min_eq_right h];simp[List.drop_eq_nil_of_le h]
 show ae (match aR xs.length 0 (.int a),aR xs.length xs.length D.non with|some l,some h=>ba false (cut xs l h) M|_,_=>.bad) k↔_
 have e2:aR xs.length 0 (.int a)=some (min a xs.length):=by
  show some _=_;rw[if_neg `a];simp
 rw[e2];show ae (ba false (cut xs (min a xs.length) xs.length) M) k↔_;rw[e,cn]
def va {w:Nat}{ge:GE}{Z:Env}{M:Mem}{u:List D->Mem->Prop}(f:Nat->Nat)(v:w<=100)(hf:∀k,k<w->ge (some (.int (k:Int))::Z) M=.ok (nD (f k)) M)(hk:u (((List.range w).map f).map nD) M) :
 ae (cU (c5 (.one 0) (b6 ge) (none::Z)) (λ_=>some ((List.range w).map λ(k:Nat)=>D.int (k:Int))) [] M) u:=by
 refine gD (λd=>match d with|.int i=>nD (f i.toNat)|_=>.non) (aH `o) rfl (λd hd=>?_) ?_
 ·obtain⟨k,hk,rfl⟩:=QF.mp hd;exact{_,rfl,hf k (So.mp hk)}
 ·simpa[R0] using hk
def vW {w:Nat}{f:Nat->Nat}(hf:∀k,k<w->f k<w):iY w ((List.range w).map f):={`s,λx u=>by
 obtain⟨k,hk,rfl⟩:=QF.mp u;exact hf k (So.mp hk)}
section
variable{P:Nat->Option Df}(h:HasP0 P){M:Mem}
include h
theorem Gu (n:Nat){p B:Nat}(hp:aJ M p B):ae (ah P (n+1) 30 [.cell p] M) λd M'=>d=.cell p/\aJ M' p B/\aX p M M':=by
 obtain⟨c,u,a,st,e1,e2,lt,a0,y,z⟩:=hp.ex;have ne:=Q1 lt;have v:p<M.length:=(Qs.mp e1).1;refine ay h.law_anew rfl ?_;simp[j6,e1,Pr];refine{{c,u,a,0,by simp[v],?_,lt,a0,y,`a},aX.set}
 rw[Qv (RF ne)];exact e2
theorem tk (n:Nat){p B many:Nat}{k:D->Mem->Prop}(hp:aJ M p B)(hB:B<=1000000)(h0:0<many)(h1:many<=10000000)(hk:∀(v:Nat) (M':Mem),v<many->aJ M' p (B+1)->aX p M M'->k (nD v) M'):ae (ah P (n+2) 31 [.cell p,nD many] M) k:=
 aM (qu h n hp hB h0 h1) λd M' ⟨v,e,z,y,u⟩=>by subst e;exact hk v M' z y u
end
def bd {B c k m:Nat}(h:B<=c)(e:c+k<=m):B+k<=m:=QH (Nat.add_le_add_right h k) e
def yf {B k m:Nat}(e:k<=m):B+k<=B+m:=Nat.add_le_add_left e B
def M9 {xs:List D}{v:Nat}{M:Mem}(h:v<xs.length):bO (.lst xs) (nD v) M=some xs[v]:=by
 show(bT xs.length (v:Int)).bind (λj=>xs[j]?)=_;rw[dW h];simp[h]
def yb {Z:Env}{M:Mem}{j v c:Nat}(h:Z[j]?.getD none=some (nD v)):(ao (aG .lt (aa j) (gC (.int (c:Int)))):GT) Z M=.ok (decide (v<c)) M:=by
 refine dY ?_;simp only[fX,g4,bx,eX];refine{_,h,_,rfl,_,rfl,?_,trivial};simp
def f6 {Z:Env}{M:Mem}{j v c:Nat}(h:Z[j]?.getD none=some (nD v)):(ao (aG .eq (aa j) (gC (.int (c:Int)))):GT) Z M=.ok ((v:Int)==(c:Int)) M:=by
 refine dY ?_;simp only[fX,g4,bx,eX];exact{_,h,_,rfl,_,rfl,rfl,trivial}
section
variable{Z:Env}{M:Mem}{g a:GE}{rest:GS}{kf:Fl->Mem->Prop}
section
variable{P:Nat->Option Df}(hp_:HasP0 P)(n:Nat){i j p B many:Nat}(hj:Z[j]?.getD none=some (.cell p))(hg:g Z M=.ok (nD many) M)(hp:aJ M p B)(hB:B<=1000000)(h0:0<many)(h1:many<=10000000)
include hp_ hj hg hp hB h0 h1
theorem fv:ae (ai 31 (ah P (n+2)) #[aa j,g] Z M) λd M'=>∃v:Nat,d=nD v/\v<many/\aJ M' p (B+1)/\aX p M M':=by
 rw[aZ (af (ag hj) (af hg rfl))];exact qu hp_ n hp hB h0 h1
theorem eC (hk:∀(v:Nat) (M':Mem),v<many->aJ M' p (B+1)->aX p M M'->ae (rest (Z.set i (some (nD v))) M') kf):ae (aS (az (.one i) (ai 31 (ah P (n+2)) #[aa j,g])) rest Z M) kf:=by
 refine c9 (fv hp_ n hj hg hp hB h0 h1) ?_;rintro x M' ⟨v,rfl,a,b,c⟩;exact hk v M' a b c
theorem C8 {xs:List D}(hl:a Z M=.ok (.lst xs) M)(hz:xs.length=many):ae (aw a (ai 31 (ah P (n+2)) #[aa j,g]) Z M) λd M'=>d∈xs/\aJ M' p (B+1)/\aX p M M':=by
 unfold aw;rw[hl,aV,bo,aV];refine aM (fv hp_ n hj hg hp hB h0 h1) ?_;rintro x M' ⟨v,rfl,a,b,c⟩;rw[M9 `a]
 exact{Sm _,b,c}
end
end
section
variable{Z:Env}{M:Mem}{k:D->Mem->Prop}
def bB {e:GE}{K:Fl->Mem->Prop}(h:ae (e Z M) λx M=>K (.ret x) M):ae (#v[aI e] Z M) K:=by
 simp only[aF,eD];exact h
def Av {e:GE}{j v w:Nat}(he:e Z M=.ok (nD v) M)(hj:Z[j]?.getD none=some (nD w))(u:0<w):au false .mod e (aa j) Z M=.ok (nD (v % w)) M:=by
 unfold au;rw[he];show(aa j Z M).bind _=_;rw[ag hj];show(if (0:Int)<(w:Int) then Res.ok (D.int ((v:Int) % (w:Int))) M else .bad)=_;rw[if_pos `a]
 rfl
def nV {e f:GE}{v w:Nat}(he:e Z M=.ok (nD v) M)(hf:f Z M=.ok (nD w) M):au false .add e f Z M=.ok (nD (v+w)) M:=by
 unfold au;rw[he];show(f Z M).bind _=_;rw[hf];rfl
def Jo {e:GE}{v c:Nat}(he:e Z M=.ok (nD v) M)(u:c<=v):au false .sub e (gC (.int (c:Int))) Z M=.ok (nD (v-c)) M:=by
 unfold au;rw[he];show Res.ok (D.int ((v:Int)-(c:Int))) M=_;rw[<- Int.ofNat_sub u]
end
section
variable{P:Nat->Option Df}(h:HasP P){M:Mem}
include h
theorem zD (n:Nat){p B w:Nat}(hp:aJ M p B)(hB:B<=900000)(w2:2<=w)(w4:w<=4):ae (ah P (n+3) 32 [.cell p,nD w] M) λd M'=>∃t,d=ak t/\iY w t/\aJ M' p (B+7)/\aX p M M':=by
 have R:0<w:=QL `d w2
 have X:w<=10000000:=QH w4 (Q9 rfl);refine ay h.law_tab rfl ?_;show ae (iV (ah P (n+2)) [some (.cell p),some (nD w),none,none,none,none] M) _;unfold iV;refine eC h n rfl rfl hp (QH hB `d) `d `d λkind M1 hk p1 k1=>?_
 refine eC h n rfl rfl p1 (bd hB `d) R X λu M2 W p2 k2=>?_
 refine eC h n rfl rfl p2 (bd (k:=2) hB `d) R X λE O ho Y k3=>?_
 have Q:=(k1.trans k2).trans k3;have J:∀(l:List Nat) (M':Mem),iY w l->aJ M' p (B+7)->aX p M M'->(l.map nD).length<=sz/\∃t,D.tup (l.map nD)=ak t/\iY w t/\aJ M' p (B+7)/\aX p M M':=λl M' hl F H=>{aH (by rw[Qx,hl.1];omega),l,rfl,hl,F,H}
 have S:aJ O p (B+7):=Y.mono (yf (k:=3) `d)
 show ae (aS _ _ [some (.cell p),some (nD w),some (nD kind),some (nD u),some (nD E),none] O) _;refine bN (yb rfl) (λ_=>?_) λ_=>?_
 ·simp only[aF,eD,dj,cb,dG,iC,gJ,bx];refine{_,rfl,_,rfl,{`a,`a},?_}
  refine comp_map (λi I M'=>∃t:List Nat,I=t.map nD/\(∀x∈t,x<w)/\aJ M' p (B+3+i)/\aX p M M') (aH `o) (λ_ _ _ _=>rfl) {[],rfl,(λ_ L=>nomatch L),Y,Q} ?_ ?_
  ·rintro i d I M' hd _ ⟨t,rfl,U,F,H⟩;have hi:i<w:=by
    have:=(Qs.mp hd).1;simpa using this
   refine{_,rfl,aM (fv h n rfl rfl F `a R X) ?_}
   rintro _ M4 ⟨v,rfl,hv,p4,k4⟩;refine{t++[v],by rw[QP];rfl,λx L=>?_,p4,H.trans k4}
   rcases QR.mp L with z|z
   ·exact U x z
   ·rw[QN.mp z];exact hv
  ·rintro I M' hl ⟨t,rfl,U,F,H⟩;simp only[Qx,RV] at hl F;exact cn.mpr (J t M' ⟨hl,U⟩ (F.mono `a) H)
 refine bN (f6 rfl) (λ_=>?_) λ_=>?_
 ·simp only[aF,eD,dj,cb,dG,iC,gJ,bx];refine{_,rfl,_,rfl,{`a,`a},?_}
  exact va (λk=>(k+1+u) % w) `a (λk hk=>Av (nV (nV (ag rfl) rfl) (ag rfl)) rfl R) (cn.mpr (J _ O (vW λk _=>Nat.mod_lt _ R) S Q))
 refine bN (f6 rfl) (λ_=>?_) λ_=>?_
 ·simp only[aF,eD,dj,cb,dG,iC,gJ,bx];refine{_,rfl,_,rfl,{`a,`a},?_}
  refine va (λk=>if k=u then E else k) `a (λk hk=>?_) (cn.mpr (J _ O (vW λk hk=>by split<;>assumption) S Q))
  have e:(ao (aG .eq (aa 0) (aa 4)):GT) [some (.int (k:Int)),some (.cell p),some (nD w),some (nD kind),some (nD u),some (nD E),none] O=.ok ((k:Int)==(u:Int)) O:=rfl;by_cases ck:k=u
  ·rw[if_pos ck];exact eG (k:=true) (e.trans (by rw[ck,beq_self_eq_true])) (λ_=>rfl) (λz=>nomatch z)
  ·rw[if_neg ck];exact eG (k:=false) (e.trans (by rw[RC.mpr `a])) (λz=>nomatch z) (λ_=>rfl)
 refine bN (f6 rfl) (λ_=>bB ?_) λ_=>?_
 ·simp only[jU,iU,cb,dG,bx];refine{_,rfl,aH (n:=1) `d,_,rfl,Kx.mpr {{aH `o,`a,`a},List.replicate w u,?_,{List.length_replicate,λx L=>by rw[List.eq_of_mem_replicate L];exact W},S,Q}}
  simp[ak,nD]
 ·simp only[aF,mj,HF,bx,mh,eD,dj,cb,dG,b7];simp;refine{`a,aH `a,u,dW W,E,dW ho,((List.range w).set u E).set E u,?_,{`s,λx L=>?_},S.app,Q.trans aX.app}
  ·simp[ak,nD,List.map_set]
  ·rcases List.mem_or_eq_of_mem_set L with z|rfl
   ·rcases List.mem_or_eq_of_mem_set z with y|rfl
    ·exact So.mp y
    ·exact ho
   ·exact W
theorem Cc (n:Nat){p B w pl:Nat}(hp:aJ M p B)(hB:B<=800000)(w2:2<=w)(w4:w<=4)(p1:1<=pl)(p2:pl<=2):ae (ah P (n+4) 33 [.cell p,nD w,nD pl] M) λd M'=>∃e:aY,d=e.d/\bV w pl e/\aJ M' p (B+40)/\aX p M M':=by
 have X:pl<=10000000:=QH p2 (Q9 rfl);refine ay h.law_deed rfl ?_;show ae (iy (ah P (n+3)) [some (.cell p),some (nD w),some (nD pl),none,none,none,none] M) _;unfold iy;refine eC h (n+1) rfl rfl hp (QH hB `d) `d `d λkind Y hk q1 k1=>?_
 refine c9 (k:=λd M'=>∃v:Nat,d=nD (1+v)/\v<3/\aJ M' p (B+2)/\aX p Y M') ?_ ?_
 ·rw[jU];simp only[eX];refine aM (fv h (n+1) rfl rfl q1 (bd hB `d) `d `d) ?_
  rintro _ M2 ⟨v,rfl,J,q,kk⟩;exact vA.mpr {v,by show D.int (1+(v:Int))=D.int ((1+v:Nat):Int);rw[Int.natCast_add];rfl,J,q,kk}
 rintro _ M2 ⟨price,rfl,hc,q2,k2⟩;refine eC h (n+1) rfl rfl q2 (bd hB `d) p1 X λat_ M3 O q3 k3=>?_
 refine eC h (n+1) rfl rfl q3 (bd (k:=3) hB `d) p1 X λu F ho Q U=>?_
 have L:=((k1.trans k2).trans k3).trans U;have co:hG (1+price):={`a,`a}
 have W:aJ F p (B+40):=Q.mono (yf (k:=4) `d)
 show ae (aS _ _ [some (.cell p),some (nD w),some (nD pl),some (nD kind),some (nD (1+price)),some (nD at_),some (nD u)] F) _;refine bN (yb rfl) (λ_=>bB ?_) λ_=>?_
 ·simp only[iU,cb,dG,eX,bx,uZ];refine{_,rfl,_,rfl,_,rfl,aM (zD h n Q (bd (k:=4) hB `d) w2 w4) λd M' ⟨t,e,I,y,E⟩=>{_,rfl,aH (n:=4) `d,.turn at_ t (1+price),?_,⟨O,I,co⟩,y.mono (yf (k:=11) `d),L.trans E}}
  subst e;rfl
 refine bN (yb rfl) (λ_=>bB ?_) λ_=>?_
 ·obtain⟨o,eo,R⟩:∃o:Nat,eP (ao (aG .eq (aa 3) (gI 3))) (au false .mod (au false .add (aa 5) (gI 1)) (aa 2)) (aa 6) [some (.cell p),some (nD w),some (nD pl),some (nD kind),some (nD (1+price)),some (nD at_),some (nD u)] F=.ok (nD o) F/\o<pl:=by
   have e:(ao (aG .eq (aa 3) (gI 3)):GT) [some (.cell p),some (nD w),some (nD pl),some (nD kind),some (nD (1+price)),some (nD at_),some (nD u)] F=.ok ((kind:Int)==3) F:=f6 rfl;cases q:(kind:Int)==3 with
   |true=>rw[q] at e;exact{(at_+1) % pl,eG e (λ_=>Av (nV (ag rfl) rfl) rfl p1) (λz=>nomatch z),Nat.mod_lt _ p1}
   |false=>rw[q] at e;exact{u,eG e (λz=>nomatch z) (λ_=>ag rfl),ho}
  simp only[iU,cb,dG,eX,bx];refine{_,rfl,?_};rw[eo,bo];exact{_,rfl,aH (n:=4) `d,.move at_ o (1+price),rfl,⟨O,R,co⟩,W,L}
 refine bN (f6 rfl) (λ_=>bB ?_) λ_=>?_
 ·simp only[iU,cb,dG,eX];show ae (ah P (n+3) 31 [.cell p,nD w] F) _;refine tk h (n+1) Q (bd (k:=4) hB `d) (QL `d w2) (QH w4 (Q9 rfl)) λv M5 J q5 k5=>?_
  exact{aH (n:=4) `d,.put at_ v (1+price),rfl,⟨O,J,co⟩,q5.mono (yf (k:=5) `d),L.trans k5}
 ·simp only[aF,eD,iU,cb,dG,eX,dj,iC,gJ,bx];refine{_,rfl,_,rfl,_,rfl,_,rfl,{`a,`a},?_}
  refine comp_map (λi H M'=>∃t:List (List Nat),H=t.map ak/\(∀x∈t,iY w x)/\aJ M' p (B+4+i*7)/\aX p M M') (aH `o) (λ_ _ _ _=>rfl) {[],rfl,(λ_ S=>nomatch S),Q,L} ?_ ?_
  ·rintro i d H M' hd _ ⟨t,rfl,I,y,E⟩;have hi:i<w:=by
    have:=(Qs.mp hd).1;simpa using this
   refine{_,rfl,?_};rw[aZ (af (ag rfl) (af (ag rfl) rfl))];refine aM (zD h n y `a w2 w4) ?_
   rintro _ F ⟨v,rfl,J,p4,U⟩;refine{t++[v],by rw[QP];rfl,λx S=>?_,p4.mono `a,E.trans U}
   rcases QR.mp S with z|z
   ·exact I x z
   ·rw[QN.mp z];exact J
  ·rintro H M' hl ⟨t,rfl,I,y,E⟩;simp only[Qx,RV] at hl y;exact cn.mpr {aH (by rw[Qx];omega),_,rfl,aH (n:=5) `d,.join at_ u t (1+price),rfl,{O,ho,⟨hl,I⟩,co},y.mono `a,E}
theorem pz (n:Nat){p B W Pl mo:Nat}(hp:aJ M p B)(hB:B<=700000)(W2:2<=W)(W4:W<=4)(P1:1<=Pl)(P2:Pl<=2)(m1:1<=mo)(m6:mo<=6):ae (ah P (n+5) 34 [.cell p,nD W,nD Pl,nD mo] M) λd M'=>∃m:aK,d=m.d/\aB m/\m.words<=W/\m.places<=Pl/\m.deeds.length<=mo/\aJ M' p (B+300)/\aX p M M':=by
 refine ay h.law_machine rfl ?_;show ae (fG (ah P (n+4)) [some (.cell p),some (nD W),some (nD Pl),some (nD mo),none,none,none,none] M) _;unfold fG;have plus:∀{Z:Env}{M:Mem}{g:GE}{B c many:Nat}{rest:GS}{K:Fl->Mem->Prop}{i:Nat},Z[0]?.getD none=some (.cell p)->g Z M=.ok (nD many) M->aJ M p B->B<=1000000->0<many->many<=10000000->(∀(v:Nat) (M':Mem),v<many->aJ M' p (B+1)->aX p M M'->ae (rest (Z.set i (some (nD (c+v)))) M') K)->ae (aS (az (.one i) (au false .add (gC (.int (c:Int))) (ai 31 (ah P (n+4)) #[aa 0,g]))) rest Z M) K:=by
  intro Z M g B c many rest K i e0 eg hp hB h0 h1 hk;refine c9 (k:=λd M'=>∃v:Nat,d=nD (c+v)/\v<many/\aJ M' p (B+1)/\aX p M M') ?_ ?_
  ·rw[jU];simp only[eX];refine aM (fv h (n+2) e0 eg hp hB h0 h1) ?_;rintro _ M2 ⟨v,rfl,hv,q,kk⟩;exact vA.mpr {v,by show D.int ((c:Int)+(v:Int))=D.int ((c+v:Nat):Int);rw[Int.natCast_add],hv,q,kk}
  ·rintro _ M' ⟨v,rfl,a,b,c⟩;exact hk v M' a b c
 refine plus rfl (Jo (c:=1) (ag rfl) `a) hp (QH hB `d) `a `a λw M1 hw q1 k1=>?_
 refine plus rfl (ag rfl) q1 (bd hB `d) P1 (QH P2 (Q9 rfl)) λpl M2 hpl q2 k2=>?_
 have pl2:=q2.lt;have K2:=k1.trans k2;have ML:=K2.len;have w2:2<=2+w:=RJ _ _;have w4:2+w<=4:=`a
 have l1:1<=1+pl:=RJ _ _;have l2:1+pl<=2:=`a
 generalize hW:2+w=w' at w2 w4;generalize hP:1+pl=p' at l1 l2;refine c9 (k:=λd M'=>d=.cell M2.length/\M'=M2++[[]]) ?_ ?_
 ·simp only[Fe,dG];exact ki.mpr {RU _,rfl,rfl}
 rintro _ _ ⟨rfl,rfl⟩;show ae (aS _ _ [some (.cell p),some (nD w'),some (nD p'),some (nD mo),some (.cell M2.length),none,none,none] (M2++[[]])) _;simp only[aF,gK,gJ,jU,eX];refine aM (fv h (n+2) rfl rfl q2.app (bd (k:=2) hB `d) m1 (QH m6 (Q9 rfl))) ?_
 rintro _ M3 ⟨many,rfl,hmany,q3,k3⟩;have e3:=k3.get (List.getElem?_concat_length) `a
 have K3:=K2.trans (aX.app.trans k3);generalize hq:M2.length=q at *;refine vA.mpr {_,rfl,{`a,`a},?_}
 rw[show(1+(many:Int)).toNat=1+many by omega]
 refine dO (λi Z M'=>∃ds:List aY,M'[q]?=some (ds.map aY.d)/\ds.length=i/\(∀d∈ds,bV w' p' d)/\aJ M' p (B+3+i*45)/\aX p M M'/\∃a b c,Z=[some (.cell p),some (nD w'),some (nD p'),some (nD mo),some (.cell q),a,b,c])
  (λ_ _ _ _=>rfl) {[],e3,rfl,(λ_ hd=>nomatch hd),q3,K3,none,none,none,rfl} ?_ ?_
 ·rintro i d Z M' hd ⟨ds,e4,hl,hds,q4,K4,a,b,c,rfl⟩;have hi:i<1+many:=by
   have:=(Qs.mp hd).1;simpa using this
  have hi6:i<=5:=`a
  have hB4:B+3+i*45<=700228:=`a
  have hqM:=ML;have hpq:=pl2;refine{_,rfl,?_};refine eC h (n+2) rfl rfl q4 (QH hB4 `d) `d `d λagain M5 ha q5 k5=>?_
  have e5:=k5.get e4 (Rn hpq);refine c9 (k:=λd M'=>∃e:aY,d=e.d/\bV w' p' e/\aJ M' p (B+3+i*45+41)/\aX p M5 M') ?_ ?_
  ·rw[aZ (af (ag rfl) (af (ag rfl) (af (ag rfl) rfl)))];exact aM (Cc h n q5 (bd hB4 `d) w2 w4 l1 l2) λd M' ⟨e,a,b,c,d⟩=>⟨e,a,b,c,d⟩
  rintro _ M6 ⟨e,rfl,he,q6,k6⟩;have e6:=k6.get e5 (Rn hpq);have K6:=(K4.trans k5).trans k6;have hsm:(ds.map aY.d).length<sz:=RW (show(ds.map aY.d).length<=50 by rw[Qx,hl];omega) `d
  have fin:∀(e:aY) (M'':Mem) (x5 x6:Option D),bV w' p' e->M''[q]?=some (ds.map aY.d)->aJ M'' p (B+3+(i+1)*45)->aX p M M''->
   ae (#v[d3 (aa 4) (aa 7)] [some (.cell p),some (nD w'),some (nD p'),some (nD mo),some (.cell q),x5,x6,some e.d] M'') λfl M'=>∃ρ',fl=.next ρ'/\∃ds:List aY,M'[q]?=some (ds.map aY.d)/\ds.length=i+1/\(∀d∈ds,bV w' p' d)/\aJ M' p (B+3+(i+1)*45)/\aX p M M'/\∃a b c,ρ'=[some (.cell p),some (nD w'),some (nD p'),some (nD mo),some (.cell q),a,b,c]:=by
   intro e M'' x5 x6 he e7 q7 K7;simp only[aF,JC,bx];refine{_,rfl,_,rfl,q,ds.map aY.d,rfl,e7,hsm,_,rfl,ds++[e],?_,by rw[Q6,hl];rfl,λd hd=>?_,q7.setq hpq,K7.setq hqM,_,_,_,rfl}
   ·rw[QI (Qs.mp e7).1,QP];rfl
   ·rcases QR.mp hd with z|z
    ·exact hds d z
    ·rw[QN.mp z];exact he
  show ae (aS _ _ [some (.cell p),some (nD w'),some (nD p'),some (nD mo),some (.cell q),some d,some (nD again),some e.d] M6) _;have en:(ao (aG .ne (aa 4) (aT false bH)):GT) [some (.cell p),some (nD w'),some (nD p'),some (nD mo),some (.cell q),some d,some (nD again),some e.d] M6=.ok (!ds.isEmpty) M6:=by
   refine b5 ?_;unfold aG;show(bS M6 (bz .ne (.cell q) (.lst []) M6)).bind _=_;rw[ne_nil e6];rfl
  refine bN (kF (f6 rfl) en) (λcc=>?_) λ_=>fin e M6 _ _ he e6 (q6.mono `a) K6
  have hpos:0<ds.length:=by
   rw[Qw] at cc;cases ds with
   |nil=>exact absurd cc.2 `d
   |cons _ _=>exact Nat.succ_pos _
  simp only[aF,mj,jU,lG,iw,iU,cb,dG,sZ,eX];have el:aL .len #[aa 4] [some (.cell p),some (nD w'),some (nD p'),some (nD mo),some (.cell q),some d,some (nD again),some e.d] M6=.ok (nD ds.length) M6:=by
   refine aq ?_;simp only[dj,cb,dG,bx];exact{_,rfl,uG.mpr {_,e6,by rw[Qx],rfl}}
  show ae (ai 31 (ah P (n+4)) #[aa 0,aL .len #[aa 4]] [some (.cell p),some (nD w'),some (nD p'),some (nD mo),some (.cell q),some d,some (nD again),some e.d] M6) _;refine aM (fv h (n+2) rfl el q6 (bd hB4 `d) hpos `a) ?_
  rintro _ M7 ⟨v,rfl,hv,q7,k7⟩;have e7:=k7.get e6 (Rn hpq);refine{(ds.getD v e).d,?_,1,rfl,rfl,rfl,?_}
  ·show(M7[q]?).bind (λds=>(bT ds.length (v:Int)).bind λj=>ds[j]?)=_;rw[e7];show(bT (ds.map aY.d).length (v:Int)).bind (λj=>(ds.map aY.d)[j]?)=_;rw[dW (by rw[Qx];exact hv)]
   simp[RY,hv]
  ·refine aM (Dp ?_) λx1 M3 hx=>{1,rfl,nD e.cost,jR,aH (n:=1) `d,hx}
   exact fin _ M7 _ _ (BA (hds _ (getD_mem hv)) (xg he)) e7 (q7.mono `a) (K6.trans k7)
 ·rintro Z M' ⟨ds,e4,hl,hds,q4,K4,a,b,c,rfl⟩;simp only[Qx,RV] at hl q4;refine bB ?_;simp only[iU,cb,dG,dj,bx];refine{_,rfl,_,rfl,_,rfl,xx.mpr {_,e4,aH (n:=3) `d,⟨w',p',ds⟩,rfl,{w2,w4,l1,l2,?_,?_,hds},?_,?_,?_,q4.mono `a,K4}}
  ·show 1<=ds.length;omega
  ·show ds.length<=6;omega
  ·show w'<=W;omega
  ·show p'<=Pl;omega
  ·show ds.length<=mo;omega
omit h in
theorem wG {g:GE}{Z:Env}{l:List aY}(e:g Z M=.ok (.tup (l.map aY.d)) M):aL .len #[g] Z M=.ok (nD l.length) M:=by
 refine aq ?_;simp only[dj];rw[af e rfl,bo];exact{congrArg (λ(n:Nat)=>D.int n) (Qx _),rfl}
theorem Gj (h35:P 35=some {3,6,g9})(n:Nat){p B mo:Nat}{m:aK}(hm:aB m)(hp:aJ M p B)(hB:B<=700000)(O:mo<=40):ae (ah P (n+3) 35 [.cell p,m.d,nD mo] M) λd M'=>∃r:List Nat,d=.lst (r.map nD)/\bg m r/\r.length<=mo/\aJ M' p (B+50)/\aX p M M':=by
 refine ay h35 rfl ?_;show ae (g9 (ah P (n+2)) [some (.cell p),some m.d,some (nD mo),none,none,none] M) _;unfold g9;refine eC h n rfl rfl hp `a `d `d λkind J _ Y k1=>?_
 refine c9 (k:=λd M'=>∃v:Nat,d=nD v/\v<=mo/\aJ M' p (B+2)/\aX p M M') ?_ ?_
 ·show ae (eP _ _ _ [some (.cell p),some m.d,some (nD mo),some (nD kind),none,none] J) _;have t0:(ao (aG .eq (aa 3) (gI 0)):GT) [some (.cell p),some m.d,some (nD mo),some (nD kind),none,none] J=.ok ((kind:Int)==((0:Nat):Int)) J:=f6 rfl;rw[yv,t0,bo];split
  ·exact{mo,rfl,QA _,Y.mono `a,k1}
  ·refine aM (fv h n (many:=mo+1) rfl rfl Y `a (Nat.succ_pos _) `a) λd M' ⟨v,e,Q,a,b⟩=>{v,e,Nat.le_of_lt_succ Q,a,k1.trans b}
 intro x M2 R;show ae (aS _ _ [some (.cell p),some m.d,some (nD mo),some (nD kind),some x,none] M2) _;obtain⟨many,ex,F,q2,k2⟩:=R;rw[ex];clear ex;simp only[aF,mj,iC,gJ,bx];have S:=QH F O;refine{_,rfl,_,rfl,{Int.le_trans `d (Int.natCast_nonneg _),Int.lt_of_le_of_lt (Int.ofNat_le.mpr S) `d},?_}
 rw[RP];refine comp_map (λi y M'=>∃t:List Nat,y=t.map nD/\(∀x∈t,x<m.deeds.length)/\aJ M' p (B+2+i)/\aX p M M') (aH (by rw[Qx,RV];omega)) (λ_ _ _ _=>rfl) {[],rfl,(λ_ z=>nomatch z),q2,k2} ?_ ?_
 ·rintro i d y M' hd _ ⟨t,rfl,I,u,E⟩;have W:i<many:=by
   have:=(Qs.mp hd).1
   rwa [Qx,RV] at this
  refine{_,rfl,?_};refine aM (fv h n rfl (wG (bt (ag rfl) rfl Ay)) u `a hm.d1 (by have:=hm.d6;omega)) ?_
  rintro _ U ⟨v,rfl,Q,p4,k4⟩;refine{t++[v],by rw[QP];rfl,λx R=>?_,p4,E.trans k4}
  rcases QR.mp R with z|z
  ·exact I x z
  ·rw[QN.mp z];exact Q
 ·rintro y M' hl ⟨t,rfl,I,u,E⟩;rw[Qx,Qx,RV] at hl;rw[Qx,RV] at u;have q3:=u.mono (show B+2+many<=B+50 by omega)
  have X:=E;have hl:=Nat.le_of_eq hl;refine cn.mpr {aH (by rw[Qx];omega),?_}
  show ae (aS _ _ [some (.cell p),some m.d,some (nD mo),some (nD kind),some (nD many),some (.lst (t.map nD))] M') _;refine bN (f6 rfl) (λ_=>?_) λ_=>eI (ag rfl) {t,rfl,{`a,I},`a,q3,X}
  refine c9 (k:=λd U=>U=M'/\d=.lst ((((List.replicate many (t.take 2)).flatten).take many).map nD)) ?_ ?_
  ·have l2:((t.map nD).take 2).length<=2:=by rw[R7];exact Nat.min_le_left _ _
   simp only[lG,jU,bx,eX];refine{_,rfl,rfl,rfl,(tY (a:=2)).mpr {aH `a,_,rfl,Ky.mpr {{?_,`a,`a},cn.mpr {?_,?_}}}}
   ·exact QH (Nat.mul_le_mul l2 (show many<=40 by omega)) `d
   ·rw[RP,List.length_flatten,List.map_replicate,List.sum_replicate_nat];exact QH (Nat.mul_le_mul (show many<=40 by omega) l2) `d
   ·refine{_,rfl,rfl,rfl,tY.mpr {aH (by rw[R7];exact QH (Nat.min_le_left _ _) `a),rfl,?_}}
    rw[RP,SJ,List.map_flatten,List.map_replicate,SJ]
  rintro _ _ ⟨rfl,rfl⟩;have lm:(((List.replicate many (t.take 2)).flatten).take many).length<=many:=by rw[R7];exact Nat.min_le_left _ _
  refine zU.mpr (b7.mpr (eI (ag rfl) {_,rfl,{`a,λi W=>?_},`a,q3,X}))
  obtain⟨l,L,H⟩:=List.mem_flatten.mp (Rz W);rw[(List.mem_replicate.mp L).2] at H;exact I i (Rz H)
end
def Gw {a b:Nat}:ae (fM false (.frz xs) (.int a) (.int b) M) k↔(cut xs (min a xs.length) (min b xs.length)).length<=sz/\k (.lst (cut xs (min a xs.length) (min b xs.length))) M:=by
 show ae (match aR xs.length 0 (.int a),aR xs.length xs.length (.int b) with|some l,some h=>ba false (cut xs l h) M|_,_=>.bad) k↔_
 have e1:aR xs.length 0 (.int a)=some (min a xs.length):=by
  show some _=_;rw[if_neg `a];simp
 have e2:aR xs.length xs.length (.int b)=some (min b xs.length):=by
  show some _=_;rw[if_neg `a];simp
 rw[e1,e2];exact cn
def Cd {b:Nat}:ae (fM false (.frz xs) .non (.int b) M) k↔(cut xs 0 (min b xs.length)).length<=sz/\k (.lst (cut xs 0 (min b xs.length))) M:=by
 show ae (match aR xs.length 0 D.non,aR xs.length xs.length (.int b) with|some l,some h=>ba false (cut xs l h) M|_,_=>.bad) k↔_
 have e2:aR xs.length xs.length (.int b)=some (min b xs.length):=by
  show some _=_;rw[if_neg `a];simp
 rw[e2];exact cn
def xb {j u:Type}(f:j->u)(l:List j)(a b:Nat):cut (l.map f) a b=(cut l a b).map f:=by simp[cut,SJ,List.map_drop]
def ra {j:Type}(l:List j)(a b:Nat):(cut l a b).length<=l.length:=by simp[cut];omega
section
variable{P:Nat->Option Df}(h:HasP0 P){M:Mem}
include h
theorem Gn (n:Nat){ns:List Int}(hn:ns.length<=63):ae (ah P (n+1) 29 [.frz (ns.map D.int)] []) λd M'=>d=.cell 1/\aJ M' 1 0:=by
 refine ay h.law_open rfl ?_;simp[j5,eE];refine(Cd).mpr {?_,?_}
 ·exact aH (QH (ra _ _ _) `o)
 simp only[uF,ki];refine{aH (QH (ra _ _ _) `o),(Gw).mpr {aH (QH (ra _ _ _) `o),rfl,?_}}
 rw[xb,xb];simp only[Qx,List.length_nil,List.nil_append];have j:min 63 ns.length=ns.length:=`a
 rw[j];refine dO (λi v M'=>∃l:List Int,M'=[l.map D.int]/\l.length=min 12 ns.length/\∃a b,v=[some (.frz (ns.map D.int)),some (.cell 0),a,b]) (λ_ _ _ _=>rfl) {cut ns 0 (min 12 ns.length),rfl,by simp[cut],none,none,rfl} ?_ ?_
 ·rintro i d v M' hd ⟨l,rfl,hl,a,b,rfl⟩;rw[jT,QX] at hd;cases e:(cut ns (min 12 ns.length) ns.length)[i]? with
  |none=>rw[e] at hd;cases hd
  | some x=>
    rw[e] at hd;have hd:=Qz hd;subst hd;have B:=(Qs.mp e).1;have E:12<ns.length:=by
     by_cases c:12<ns.length
     ·exact c
     ·have:min 12 ns.length=ns.length:=`a
      rw[this] at B;simp[cut] at B
    have u:l.length=12:=`a
    have r1:=Ss (i:Int) (show(12:Int)≠0 by decide)
    have r2:=Sq (i:Int) (show(0:Int)<12 by decide)
    obtain⟨y,z⟩:=qP r1 (by rw[u];exact r2)
    obtain⟨k,F⟩:∃k:Nat,(i:Int) % 12=(k:Int):={((i:Int) % 12).toNat,`a}
    refine{_,rfl,?_};simp;rw[F] at z ⊢;have hk:k<l.length:=`a
    refine{_,z,?_};refine{l.map D.int,rfl,k,?_,l.set k (y+x),?_,by simp[hl]}
    ·simpa using dW hk
    ·simp[List.map_set]
 ·rintro v M' ⟨l,rfl,hl,a,b,rfl⟩;simp;exact{`d,{0,l,0,0,rfl,rfl,`d,`d,`d,`d}}
end
def Sub.keep (h:Sub M M'):aX p M M':={h.len,λk hk _=>h.at' k hk}
def Sub.pen (h:Sub M M')(u:aJ M p B):aJ M' p B:=by
 obtain⟨c,j,a,st,e1,e2,r⟩:=u.ex;exact{c,j,a,st,h.get e1,h.get e2,r}
def Bh:∀l:List Nat,dJ (l.map nD) (l.map nD)=true
 |[]=>rfl
 | i::l=>by
   show(bZ (nD i) (nD i)&&dJ (l.map nD) (l.map nD))=true;rw[Bh l];simp[nD,NQ]
def Io (l:List Nat):bZ (ak l) (ak l)=true:=Bh l
def uc (n:Nat)(l:List Nat):aA (n+1) (ak l)=true:=by
 show(l.map nD).all (aA n)=true;rw[QY];intro x j;obtain⟨i,_,rfl⟩:=QF.mp j;cases n<;>rfl
structure HasB (P:Nat->Option Df):Prop where
 after:P 41=some {2,4,jw}
 begins:P 42=some {1,1,iM}
structure HasS0 (P:Nat->Option Df):Prop where
 same:P 40=some {2,2,d5}
structure HasS (P:Nat->Option Df):Prop extends HasB P,HasS0 P
def rA:∀ds:List D,iI ds ds=ds.map λd=>.tup [d,d]
 |[]=>rfl
 |d::r=>by simp[iI,rA r]
def xQ {ds:List D}:bz .notin (.bl false) (.lst (ds.map λ_=>.bl true)) M=some true:=by
 show(pW (.bl false) (ds.map λ_=>.bl true)).map (!·)=_;unfold pW;rw[if_pos]
 ·have:(ds.map λ_=>D.bl true).any (λy=>bZ y (.bl false))=false:=by
   rw[List.any_eq_false];intro x j;obtain⟨_,_,rfl⟩:=QF.mp j;exact QZ
  rw[this];rfl
 ·simp[aA]
@[simp] theorem CU:ae (dB (.list m) [.tup ds] M) k↔ae (ba m ds M) k:=RQ
def cE (e:pZ (.str x) (.str y)=some b)(M:Mem):bz .eq (.str x) (.str y) M=some b:=by
 show mK M (.str x) (.str y)=some b;unfold mK;rw[show pZ (view M (.str x)) (view M (.str y))=some b from e]
def yx (hd:bV m.words m.places d)(hs:dg m s):bK d s=s.set d.at' (dN d s):=by
 have a0:=td hd;rw[List.set_eq_take_append_cons_drop,if_pos (by rw[hs.1];exact a0)]
 simp[bK]
def dM (u:Z[0]?=some (some D0))(j:bO D0 (.int 0) M=some (.str nm))(c:bz .eq (.str nm) (.str w) M=some false)(h:ae (rest Z M) k):ae (aS (aN (ao (aG .eq (aw (aa 0) (gI 0)) (gC (.str w)))) A aE) rest Z M) k:=by
 simp[u,j,c,h]
def m7 (u:Z[0]?=some (some D0))(j:bO D0 (.int 0) M=some (.str nm))(c:bz .eq (.str nm) (.str w) M=some true)(h:ae (A Z M) (ij rest k)):ae (aS (aN (ao (aG .eq (aw (aa 0) (gI 0)) (gC (.str w)))) A aE) rest Z M) k:=by
 simp[u,j,c,h]
def t5 (c:Call):GS:=#v[aN (ao (aG .ne (aL .len #[aa 0]) (aL .len #[aa 1]))) rF aE,aI (aG .notin Lc (b8 false 2 (.tup [0,1]) (nH (aa 0) (aa 1)) (b6 (ai 40 c #[aa 0,aa 1]))))]
section
variable{P:Nat->Option Df}(h:HasS0 P){M:Mem}
include h
theorem jH (n:Nat)(i:Nat):ah P (n+1) 40 [nD i,nD i] M=.ok (.bl true) M:=by
 refine aq (ay h.same rfl ?_);show ae (d5 (ah P n) [some (nD i),some (nD i)] M) _;exact bp rfl (bp rfl (qQ rfl (v:=.bl ((i:Int)==(i:Int))) rfl {`s,rfl}))
theorem zS (n:Nat)(j:bL M x=some ds)(u:bL M y=some ds)(hz:ds.length<=sz)(hs:∀d∈ds,ah P n 40 [d,d] M=.ok (.bl true) M)(hk:kl (ds.map λ_=>.bl true) M) :
 ae (cU (c5 (.tup [0,1]) (b6 (ai 40 (ah P n) #[aa 0,aa 1])) (none::none::Z)) (pj x y) [] M) kl:=by
 refine gD (ds:=ds.map λd=>.tup [d,d]) (λ_=>.bl true) (by simpa using hz) ?_ ?_ ?_
 ·simp[pj,j,u,rA]
 ·intro d hd;obtain⟨e,he,rfl⟩:=QF.mp hd;refine{_,rfl,?_};refine aq ?_;simp;rw[hs e he];exact⟨rfl,rfl⟩
 ·simpa[R0] using hk
theorem t4 (n:Nat)(j:bL M x=some ds)(u:bL M y=some ds)(lx:dB .len [x] M=.ok (.int ds.length) M)(v:dB .len [y] M=.ok (.int ds.length) M)(z:cX x=true)(B:cX y=true)(hz:ds.length<=sz)(hs:∀d∈ds,ah P n 40 [d,d] M=.ok (.bl true) M) :
 ae (t5 (ah P n) [some x,some y] M) (oR λd M'=>d=.bl true/\M'=M):=by
 simp[t5,lx,v,z,B];exact zS h n j u hz hs {by simpa using hz,xQ,rfl}
theorem rN (n:Nat)(hz:ds.length<=sz)(hs:∀d∈ds,ah P n 40 [d,d] M=.ok (.bl true) M):ah P (n+1) 40 [.tup ds,.tup ds] M=.ok (.bl true) M:=by
 refine aq (ay h.same rfl ?_);show ae (d5 (ah P n) [some (.tup ds),some (.tup ds)] M) _;exact bp rfl (bp rfl (bp rfl (bp rfl (bp rfl (t4 h n rfl rfl rfl rfl rfl rfl hz hs)))))
theorem zG (n:Nat)(j:bE M x r)(u:bE M y r)(hz:r.length<=100000):ah P (n+2) 40 [x,y] M=.ok (.bl true) M:=by
 refine aq (ay h.same rfl ?_);show ae (d5 (ah P (n+1)) [some x,some y] M) _;have l:∀{z:D},bE M z r->dB .len [z] M=.ok (.int (r.map nD).length) M:=λhz=>aq (hz.len.mpr {by rw[Qx],rfl})
 have z:=t4 h (n+1) j.seq u.seq (l j) (l u) j.is.1 u.is.1 (aH `o) λd hd=>by obtain⟨i,_,rfl⟩:=QF.mp hd;exact jH h n i
 rcases j with rfl|⟨q,rfl,e⟩<;>rcases u with rfl|⟨B,rfl,v⟩<;>exact bp rfl (bp rfl (bp rfl (bp rfl (bp rfl z))))
theorem nX (n:Nat)(hz:s.length<=100):ah P (n+2) 40 [ak s,ak s] M=.ok (.bl true) M:=
 rN h (n+1) (aH `o) λd hd=>by obtain⟨i,_,rfl⟩:=QF.mp hd;exact jH h n i
end
section
variable{P:Nat->Option Df}(h:HasB P){M:Mem}
include h
set_option maxHeartbeats 2000000 in
theorem iX (n:Nat)(ha:a<s.length)(hz:s.length<=100)(j:∀M,bO D0 (.int 0) M=some (.str nm))(e1:∀M,bO D0 (.int 1) M=some (nD a))
 (I E F H:Bool) (U:∀M,bz .eq (.str nm) (.str "turn") M=some I) (O:∀M,bz .eq (.str nm) (.str "join") M=some E) (Q:∀M,bz .eq (.str nm) (.str "move") M=some F) (R:∀M,bz .eq (.str nm) (.str "put") M=some H)
 (hb:(I=true/\E=false/\F=false/\H=false/\∀M,∃t,bO D0 (.int 2) M=some t/\bO t (nD (s.getD a 0)) M=some (nD v))
  \/(I=false/\E=true/\F=false/\H=false/\∀M,∃t u o,bO D0 (.int 3) M=some t/\bO t (nD (s.getD a 0)) M=some u/\bO D0 (.int 2) M=some (nD o)/\o<s.length/\bO u (nD (s.getD o 0)) M=some (nD v))
  \/(I=false/\E=false/\F=true/\H=false/\∀M,∃o,bO D0 (.int 2) M=some (nD o)/\o<s.length/\v=s.getD o 0)
  \/(I=false/\E=false/\F=false/\H=true/\∀M,bO D0 (.int 2) M=some (nD v))) :
 ah P (n+1) 41 [D0,ak s] M=.ok (ak (s.set a v)) (M++[(s.set a v).map nD]):=by
 refine aq (ay h.after rfl ?_);have S:∀M i,i<s.length->bO (ak s) (nD i) M=some (nD (s.getD i 0)):=λM i hi=>gX hi;have T:ae (dB (.list true) [ak s] M) (λx L=>x=.cell M.length/\L=M++[s.map nD]):=by
  show ae (dB (.list true) [.tup (s.map nD)] M) _;rw[CU,ki];exact{aH `o,rfl,rfl}
 simp only[jw,aF,mj,dj,iw,eX,cb,dG,bx,Ry,List.map_nil,List.cons_append,List.nil_append,List.getElem?_cons_zero,List.getElem?_cons_succ,Option.getD_some,Option.some.injEq,exists_eq_left',b7];refine aM T λx L hx=>?_;obtain⟨rfl,rfl⟩:=hx;have q:=S (M++[s.map nD]) a ha;refine{_,rfl,_,rfl,_,e1 _,_,q,?_};have y:∀Z:Env,Z[2]?=some (some (.cell M.length))->ae (#v[aI (aL .tuple #[aa 2])] Z ((M++[s.map nD]).set M.length ((s.map nD).set a (nD v)))) (oR λx L=>x=ak (s.set a v)/\L=M++[(s.set a v).map nD]):=λZ Y=>by
  simp[Y];simp[ak,List.map_set]
 have W:(M++[s.map nD])[M.length]?=some (s.map nD):=`s
 have X:bT (s.map nD).length (a:Int)=some a:=dW (by simpa using ha)
 rcases hb with⟨rfl,rfl,rfl,rfl,z⟩|⟨rfl,rfl,rfl,rfl,z⟩|⟨rfl,rfl,rfl,rfl,z⟩|⟨rfl,rfl,rfl,rfl,z⟩
 ·obtain⟨t,B,J⟩:=z (M++[s.map nD]);refine aF.mp (m7 rfl (j _) (U _) ?_);simp only[aF,mh,iw,bx,eX];refine{_,rfl,_,B,_,rfl,_,J,_,rfl,_,rfl,_,e1 _,_,_,_,_,rfl,rfl,W,X,?_};exact dM rfl (j _) (O _) (dM rfl (j _) (Q _) (dM rfl (j _) (R _) (y _ rfl)))
 ·obtain⟨t,u,o,B,J,v3,v4,v5⟩:=z (M++[s.map nD]);refine aF.mp (dM rfl (j _) (U _) (m7 rfl (j _) (O _) ?_));simp only[aF,mh,iw,bx,eX];refine{_,rfl,_,B,_,rfl,_,J,_,rfl,_,rfl,_,v3,_,S _ _ v4,_,v5,_,rfl,_,rfl,_,e1 _,_,_,_,_,rfl,rfl,W,X,?_};exact dM rfl (j _) (Q _) (dM rfl (j _) (R _) (y _ rfl))
 ·obtain⟨o,B,J,v3⟩:=z (M++[s.map nD]);subst v3;refine aF.mp (dM rfl (j _) (U _) (dM rfl (j _) (O _) (m7 rfl (j _) (Q _) ?_)));simp only[aF,mh,iw,bx,eX];refine{_,rfl,_,rfl,_,B,_,S _ _ J,_,rfl,_,rfl,_,e1 _,_,_,_,_,rfl,rfl,W,X,?_};exact dM rfl (j _) (R _) (y _ rfl)
 ·have B:=z (M++[s.map nD]);refine aF.mp (dM rfl (j _) (U _) (dM rfl (j _) (O _) (dM rfl (j _) (Q _) (m7 rfl (j _) (R _) ?_))));simp only[aF,mh,iw,bx,eX];refine{_,rfl,_,B,_,rfl,_,rfl,_,e1 _,_,_,_,_,rfl,rfl,W,X,?_};exact y [some D0,some (ak s),some (.cell M.length),some (nD (s.getD a 0))] rfl
theorem tV (n:Nat)(hm:aB m)(hd:bV m.words m.places d)(hs:dg m s):ah P (n+1) 41 [d.d,ak s] M=.ok (ak (bK d s)) (M++[(bK d s).map nD]):=by
 rw[yx hd hs];have l0:=hs.1;have p2:=hm.p2;have g:∀i,i<m.places->s.getD i 0<m.words:=λi u=>hs.2 _ (getD_mem `a)
 have a0:=td hd;have j:d.at'<s.length:=`a
 cases d with
 |turn a t c=>exact iX h n j `a (λ_=>rfl) (λ_=>rfl) true false false false (cE `k) (cE `k) (cE `k) (cE `k) (.inl {rfl,rfl,rfl,rfl,λM=>{ak t,rfl,gX (by rw[hd.2.1.1];exact g _ hd.1)}})
 | join a o t c=>
   refine iX h n j `a (λ_=>rfl) (λ_=>rfl) false true false false (cE `k) (cE `k) (cE `k) (cE `k) (.inr (.inl {rfl,rfl,rfl,rfl,λM=>{.tup (t.map ak),ak (t.getD (s.getD a 0) []),o,rfl,AV (by rw[hd.2.2.1.1];exact g _ hd.1),rfl,by rw[l0];exact hd.2.1,gX ?_}}))
   rw[(hd.2.2.1.2 _ (getD_mem (by rw[hd.2.2.1.1];exact g _ hd.1))).1]
   exact g _ hd.2.1
 |move a o c=>exact iX h n j `a (λ_=>rfl) (λ_=>rfl) false false true false (cE `k) (cE `k) (cE `k) (cE `k) (.inr (.inr (.inl {rfl,rfl,rfl,rfl,λM=>{o,rfl,by rw[l0];exact hd.2.1,rfl}})))
 |put a x c=>exact iX h n j `a (λ_=>rfl) (λ_=>rfl) false false false true (cE `k) (cE `k) (cE `k) (cE `k) (.inr (.inr (.inr {rfl,rfl,rfl,rfl,λM=>rfl})))
theorem mf (n:Nat)(hm:aB m):ah P (n+1) 42 [m.d] M=.ok (.lst ((aU m).map ak)) M:=by
 refine aq (ay h.begins rfl ?_);simp[iM];have p1:=hm.p1;have p2:=hm.p2;have w2:=hm.w2;have w4:=hm.w4;refine{_,rfl,?_};have F:m.places=1\/m.places=2:=`a
 have z:m.words=2\/m.words=3\/m.words=4:=`a
 rcases F with u|u
 ·refine .inr {by rw[u];rfl,_,rfl,_,rfl,`a,?_}
  refine gD (ds:=(List.range m.words).map λ(k:Nat)=>D.int (k:Int)) (λd=>.tup [d]) (aH `o) `s (λd hd=>{_,rfl,aq (by simp;exact aH `a)}) {aH `o,?_,rfl}
  unfold aU;rw[u];rcases z with e|e|e<;>rw[e]<;>rfl
 ·refine .inl {by rw[u];rfl,_,rfl,_,rfl,?_}
  simp;refine{`a,?_}
  have B:((m.words:Int)*(m.words:Int)).toNat=m.words*m.words:=by rw[<- Int.natCast_mul];rfl
  have H:=Nat.mul_le_mul w4 w4;rw[B];refine{{by rw[<- Int.natCast_mul];omega,by rw[<- Int.natCast_mul];omega},?_}
  have y:∀k:Nat,(bW #[au false oo.fdiv (aa 0) (aw (aa 1) (gC (D.int 0))),au false oo.mod (aa 0) (aw (aa 1) (gC (D.int 0)))]) [some (nD k),some m.d] M=.ok (ak [k / m.words,k % m.words]) M:=by
   intro k;refine aq ?_;simp;refine{_,rfl,?_};simp;refine{`a,_,rfl,?_}
   simp;exact{`a,aH `a,rfl}
  refine comp_map (λi j v=>v=M/\j=((List.range (m.words*m.words)).take i).map λk=>ak [k / m.words,k % m.words]) (aH (by simpa using by omega)) (λ_ _ _ _=>rfl) ⟨rfl,rfl⟩ ?_ ?_
  ·rintro i d j v hd _ ⟨rfl,rfl⟩;have E:=(Qs.mp hd).1;simp at E;have:d=nD i:=by
    rw[QX,SU `a] at hd
    exact(Qz hd).symm
   subst this;refine{_,rfl,?_};rw[show List.set [none,some m.d] 0 (some (nD i))=[some (nD i),some m.d] from rfl,y i];refine{rfl,?_};rw[RK,SU `a]
   simp
  ·rintro j v _ ⟨rfl,rfl⟩;simp;refine{aH `a,?_}
   unfold aU;rw[u];rcases z with e|e|e<;>rw[e]<;>rfl
end
section
variable{Z:Env}{M:Mem}{a b d:GE}{k:D->Mem->Prop}{kw:Walk->Mem->Prop}{kf:Fl->Mem->Prop}
@[simp] theorem Ql:ae (nF a b d Z M) kw↔ae (a Z M) λx M=>ae (b Z M) λy M=>ae (d Z M) λz M=>(cX x&&cX y&&cX z)=true/\kw (kI x y z) M:=by
 simp only[nF,aV];refine iff_of_eq ?_;congr 1;funext x M;congr 1;funext y M;congr 1;funext z M;split<;>simp_all
@[simp] theorem Qc:ae (JI m (.lst xs) M) k↔ae (ba m xs.reverse M) k:=RQ
@[simp] theorem Qb:ae (JI m (.tup xs) M) k↔k (.tup xs.reverse) M:=RQ
def wW (I:Nat->Env->Mem->Prop)(R:D->Mem->Prop)(B:∀i Z M,I i Z M->w M=some ds)(v:∀d M,R d M->w M=some ds)(z:I 0 Z M)
 (hs:∀i d Z M,ds[i]?=some d->I i Z M->∃ρ1,bU t d Z=some ρ1/\ae (gb ρ1 M) λfl M=>(∃ρ',fl=.next ρ'/\I (i+1) ρ' M)\/∃d,fl=.ret d/\R d M) (hk:∀Z M,I ds.length Z M->kf (.next Z) M) (hr:∀d M,R d M->kf (.ret d) M) :
 ae (cU (fY t gb) w (.next Z) M) kf:=by
 refine gi (λi fl M=>(∃Z,fl=.next Z/\I i Z M)\/∃d,fl=.ret d/\R d M) (λi fl M h=>h.elim (λ⟨Z,_,h⟩=>B i Z M h) λ⟨d,_,h⟩=>v d M h) (.inl ⟨Z,rfl,z⟩) ?_ ?_
 ·rintro i d fl M hd (⟨Z,rfl,j⟩|⟨y,rfl,u⟩)
  ·obtain⟨ρ1,e,h⟩:=hs i d Z M hd j;simp only[fY,aV,gP,e];exact⟨ρ1,rfl,h⟩
  ·exact .inr ⟨y,rfl,u⟩
 ·rintro fl M (⟨Z,rfl,j⟩|⟨d,rfl,u⟩)
  ·exact hk Z M j
  ·exact hr d M u
end
def L4 (i j:Nat):bZ (nD i) (nD j)=decide (i=j):=by
 show((i:Int)==(j:Int))=_;rw[RT];simp;omega
def vm:∀l r:List Nat,dJ (l.map nD) (r.map nD)=decide (l=r)
 |[],[]=>rfl
 |[],_::_=>rfl
 |_::_,[]=>rfl
 | i::l,j::r=>by
   show(bZ (nD i) (nD j)&&dJ (l.map nD) (r.map nD))=_;rw[L4,vm l r,RT];simp
def qh (l r:List Nat):bZ (ak l) (ak r)=decide (l=r):=vm l r
def Bi:∀l r:List (List Nat),dJ (l.map ak) (r.map ak)=decide (l=r)
 |[],[]=>rfl
 |[],_::_=>rfl
 |_::_,[]=>rfl
 | i::l,j::r=>by
   show(bZ (ak i) (ak j)&&dJ (l.map ak) (r.map ak))=_;rw[qh,Bi l r,RT];simp
def ud (n:Nat)(l:List Nat):aA (n+1) (.lst (l.map nD))=true:=by
 show(l.map nD).all (aA n)=true;rw[QY];intro x j;obtain⟨i,_,rfl⟩:=QF.mp j;cases n<;>rfl
def lL:bz .ne (ak l) (ak r) M=some (!decide (l=r)):=ri (uc 63 l) (uc 63 r) (qh l r)
def Bf {l r:List Nat}:bz .ne (.lst (l.map nD)) (.lst (r.map nD)) M=some (!decide (l=r)):=ri (ud 63 l) (ud 63 r) (vm l r)
def ends (m:aK)(r:List Nat):List (List Nat):=(aU m).map (bu m r)
def sF (m:aK)(r:List Nat):jr m r=.tup ((ends m r).map ak):=by simp[jr,ends,R0]
section
variable{P:Nat->Option Df}(h:HasB P){M:Mem}
include h
theorem vK (he:P 44=some {2,5,e9})(n:Nat)(H:bE M x r)(hm:aB m)(hr:∀i∈r,i<m.deeds.length):ae (ah P (n+2) 44 [m.d,x] M) λd M'=>d=.tup ((ends m r).map ak)/\Sub M M':=by
 have U:=mf h n (M:=M++[[]]) hm;have bl:=ib hm;refine ay he rfl ?_;simp[e9,U];refine{rfl,?_};generalize R:M.length=q;refine dO (λi Z M'=>M'[q]?=some (((aU m).take i).map λs=>ak (bu m r s))/\Sub M M'/\q<M'.length/\∃Q y,Z=[some m.d,some x,some (.cell q),Q,y]) (λ_ _ _ _=>rfl) {by subst R;simp,Sub.app,by subst R;simp,none,none,rfl} ?_ ?_
 ·rintro i d Z M' hd ⟨E,I,B,Q,y,rfl⟩;rw[QX] at hd;cases e:(aU m)[i]? with
  |none=>rw[e] at hd;cases hd
  | some s=>
    rw[e] at hd;cases Qz hd;have hs:=i7 s (Q0 e);refine{_,rfl,?_};simp[H.is];refine dO (λj Z v=>v[q]?=some (((aU m).take i).map λs=>ak (bu m r s))/\Sub M v/\q<v.length/\∃y,Z=[some m.d,some x,some (.cell q),some (ak (bu m (r.take j) s)),y]) (λ_ _ _ e=>(H.sub e.2.1).seq) ⟨E,I,B,y,rfl⟩ ?_ ?_
    ·rintro j X Z v z ⟨L,J,u,W,rfl⟩;rw[QX] at z;cases F:r[j]? with
     |none=>rw[F] at z;cases z
     | some k=>
       rw[F] at z;cases Qz z;have hk:=hr k (Q0 F);have O:dg m (bu m (r.take j) s):=nK hm (λx H=>hr x (Rz H)) hs;have S:=tV h n (M:=v) hm (fD hm hk) O;refine{_,rfl,?_};simp[-ia,Ay,lu hk,S];exact{by rw[QB u,L,SJ],J.trans Sub.app,`a,by rw[RK,F];simp[oV,bu]}
    ·rintro Z v ⟨L,J,u,W,rfl⟩;simp[L];exact{RW (show _<=50 by omega) `d,by rw[QI u,RK];simp[e],J.setq `a,u}
 ·rintro Z M' ⟨E,I,B,Q,y,rfl⟩;rw[Qx,List.take_length] at E;simp[E,ends,R0,I]
theorem oy (he:P 44=some {2,5,e9})(n:Nat)(hm:aB m)(hr:∀i∈r,i<m.deeds.length):ae (ah P (n+2) 44 [m.d,.lst (r.map nD)] M) λd M'=>d=.tup ((ends m r).map ak)/\Sub M M':=vK h he n .l hm hr
end
def b9 (m:aK)(a b:List Nat):Option (List Nat):=(aU m).find? λs=>!decide (bu m a s=bu m b s)
def fO:Option (List Nat)->D
 |some s=>ak s
 |none=>.non
def i9 {j:Type}(f g e:j->D):∀l:List j,fC (l.map f) (l.map g) (l.map e)=l.map λs=>.tup [f s,g s,e s]
 |[]=>rfl
 |a::l=>by simp[fC,i9 f g e l]
def rY (hi:(aU m)[i]?=some s)(h:∀t∈(aU m).take i,bu m a t=bu m b t)(hs:bu m a s≠bu m b s):b9 m a b=some s:=by
 have e:aU m=(aU m).take i++s::(aU m).drop (i+1):=by
  obtain⟨h1,h2⟩:=Qs.mp hi;rw[<- h2,<- List.drop_eq_getElem_cons h1,List.take_append_drop]
 unfold b9;rw[e,List.find?_append];have:((aU m).take i).find? (λs=>!decide (bu m a s=bu m b s))=none:=by
  rw[SY];intro t j;simp[h t j]
 rw[this];simp[List.find?_cons,hs]
def rX (h:∀t∈aU m,bu m a t=bu m b t):b9 m a b=none:=by
 unfold b9;rw[SY];intro t j;simp[h t j]
structure pe (P:Nat->Option Df):Prop where
 h15:P 15=some {1,6,cf}
 h27:P 27=some {2,2,ix}
 h46:P 46=some {2,2,gE}
 parted:P 48=some {3,8,oY}
section
variable{P:Nat->Option Df}{M:Mem}
def tS (h:HasM P)(j:pe P)(n:Nat)(S:bE M x a)(U:bE M y b)(hm:aB m)(h1:bg m a)(h2:bg m b):ae (ah P (n+12) 48 [m.d,x,y] M) λd M'=>d=fO (b9 m a b)/\Sub M M':=by
 have Q:=rQ h j.h15 j.h27 j.h46 n S hm h1;have J:=rQ h j.h15 j.h27 j.h46 n (U.sub (Sub.app (X:=(aU m).map λs=>(du m a s).map ak))) hm h2;generalize B:(M++(aU m).map λs=>(du m a s).map ak)++((aU m).map λs=>(du m b s).map ak)=I at J;have O:Sub M I:=by subst B;rw[RA];exact Sub.app
 have R:=m8 h.toHasM0.toHasB0 j.h15 (n+2) (M:=I) hm;refine ay j.parted rfl ?_;simp[oY,Q,J,R,cX];refine{⟨rfl,rfl⟩,?_};refine wW (ds:=(aU m).map λs=>.tup [ak s,ak (bu m a s),ak (bu m b s)]) (λi Z M'=>(∀t∈(aU m).take i,bu m a t=bu m b t)/\Sub M M'/\∃E F H,Z=[some m.d,some x,some y,some (jr m a),some (jr m b),E,F,H]) (λd M'=>d=fO (b9 m a b)/\Sub M M') ?_ ?_ {`s,O,none,none,none,rfl} ?_ ?_ ?_
 ·rintro i Z M' _;simp[kI,bL,jr,i9]
 ·rintro d M' _;simp[kI,bL,jr,i9]
 ·rintro i d Z M' hd ⟨v,u,E,F,H,rfl⟩;rw[QX] at hd;cases e:(aU m)[i]? with
  |none=>rw[e] at hd;cases hd
  | some s=>
    rw[e] at hd;cases Qz hd;refine{_,rfl,?_};by_cases c:bu m a s=bu m b s
    ·simp[lL,c];refine{?_,u};intro t L;rw[RK,e] at L;rcases QR.mp L with z|z
     ·exact v t z
     ·simp at z;subst z;exact c
    ·simp[lL,c];exact{by rw[rY e v c];rfl,u}
 ·rintro Z M' ⟨v,u,E,F,H,rfl⟩;simp at v ⊢;exact{by rw[rX (by simpa[Ru] using v)];rfl,u}
 ·rintro d M' ⟨rfl,u⟩;simp[u]
def zJ (h:HasM P)(j:pe P)(n:Nat)(hm:aB m)(h1:bg m a)(h2:bg m b):ae (ah P (n+12) 48 [m.d,ax a,ax b] M) λd M'=>d=fO (b9 m a b)/\Sub M M':=tS h j n .l .l hm h1 h2
end
structure HasO0 (P:Nat->Option Df):Prop where
 init:P 129=some {3,3,jX}
 beh:P 132=some {1,1,jx}
structure HasO (P:Nat->Option Df):Prop extends HasO0 P where
 row:P 130=some {1,1,qk}
 cost:P 131=some {1,1,oj}
 put:P 133=some {3,3,iW}
 out:P 134=some {2,2,lS}
 back:P 135=some {1,1,j7}
 change:P 136=some {2,2,l4}
 give:P 137=some {2,3,oh}
 summed:P 47=some {2,2,f9}
instance coeHasO {P:Nat->Option Df}:Coe (HasO P) (HasO0 P):=⟨HasO.toHasO0⟩
structure bj (M:Mem) (k e:Nat) (m:aK) (r:List Nat) (hs:List (List Nat)):Prop where
 ob:M[k]?=some [.int 40,m.d,ax r,.cell e]
 er:M[e]?=some (hs.map ax)
def bj.ne (h:bj M k e m r hs):e≠k:=λz=>by
 have a:=h.ob;rw[<- z,h.er] at a;cases hs with
 |nil=>cases a
 |cons x l=>cases a
structure fW (l:List Nat) (M M':Mem):Prop where
 len:M.length<=M'.length
 at':∀k,k<M.length->k∉l->M'[k]?=M[k]?
def fW.trans (a:fW l M M1)(b:fW l M1 M2):fW l M M2:={QH a.len b.len,λk hk n=>(b.at' k (QL hk a.len) n).trans (a.at' k hk n)}
def fW.of (a:Sub M M'):fW l M M':={a.len,λk hk _=>a.at' k hk}
def fW.set (h:k∈l):fW l M (M.set k ds):={`s,λj _ n=>Qv λe=>n (by rw[<- e];exact h)}
def fW.get (h:fW l M M')(e:M[k]?=some ds)(n:k∉l):M'[k]?=some ds:=by rw[h.at' k (Qs.mp e).1 n];exact e
def uD {M:Mem}(e:M[k]?=some ds):k<M.length:=(Qs.mp e).1
section
variable{Z:Env}{M M':Mem}{a v:GE}{s:GA}{k i:Nat}{es:List D}{nm:Str}{kf:Fl->Mem->Prop}{rest:GS}
def Hv (ob:M[k]?=some (.int 40::es))(hi:(bJ 40).findIdx? (·==nm)=some i)(he:es[i]?=some d):uW M (aj k) nm=some d:=by
 unfold uW aj;rw[if_pos (RJ _ _),Q7,ob];show((bJ 40).findIdx? (·==nm)).bind _=_;rw[hi];exact he
def dz (ha:a Z M=.ok (.fn (aj k)) M)(ob:M[k]?=some (.int 40::es))(hi:(bJ 40).findIdx? (·==nm)=some i)(he:es[i]?=some d):bR nm a Z M=.ok d M:=by
 unfold bR;rw[ha];show bS M (uW M (aj k) nm)=_;rw[Hv ob hi he];rfl
def Gz (j:v Z M=.ok z M')(ha:a Z M'=.ok (.fn (aj k)) M')(ob:M'[k]?=some (.int 40::es))(hi:(bJ 40).findIdx? (·==nm)=some i)(hl:i<es.length)(h:ae (rest Z (M'.set k (.int 40::es.set i z))) kf):ae (aS (ik nm a v) rest Z M) kf:=by
 have e:lE M' (aj k) nm z=some (M'.set k (.int 40::es.set i z)):=by
  unfold lE aj;rw[if_pos (RJ _ _),Q7,ob];show((bJ 40).findIdx? (·==nm)).bind _=_;rw[hi];exact if_pos hl
 simp only[aF];unfold ik;rw[j];show ae ((a Z M').bind _) _;rw[ha];show ae (match lE M' (aj k) nm z with|some M'=>Res.ok (Fl.next Z) M'|none=>.bad) _
 rw[e];exact h
def oz (j:v Z M=.ok z M')(ha:a Z M'=.ok (.fn (aj k)) M')(ob:M'[k]?=some (.int 40::es))(hi:(bJ 40).findIdx? (·==nm)=some es.length)(h:ae (rest Z (M'.set k (.int 40::(es++[z])))) kf):ae (aS (ik nm a v) rest Z M) kf:=by
 have e:lE M' (aj k) nm z=some (M'.set k (.int 40::(es++[z]))):=by
  unfold lE aj;rw[if_pos (RJ _ _),Q7,ob];show((bJ 40).findIdx? (·==nm)).bind _=_;rw[hi];show(if es.length<es.length then _ else if es.length=es.length then _ else none)=_;rw[if_neg (RM _),if_pos rfl]
 simp only[aF];unfold ik;rw[j];show ae ((a Z M').bind _) _;rw[ha];show ae (match lE M' (aj k) nm z with|some M'=>Res.ok (Fl.next Z) M'|none=>.bad) _
 rw[e];exact h
def eF (ha:a Z M=.ok (.fn (aj k)) M)(ob:M[k]?=some (.int 40::es))(hs:s Z M=.ok ds M'):cy 40 f c a s Z M=c f (.fn (aj k)::ds) M':=by
 have e:ft M (aj k)=some 40:=by
  unfold ft aj;rw[if_pos (RJ _ _),Q7,ob];rfl
 unfold cy;rw[ha];show(if ft M (aj k)=some 40 then(s Z M).bind _ else .bad)=_;rw[if_pos e,hs];rfl
def Hl (hs:s Z M=.ok ds M)(h:ae (c f (.fn (aj M.length)::ds) (M++[[.int 40]])) λr M'=>r=.non/\kd (.fn (aj M.length)) M'):ae (nI 40 f c s Z M) kd:=by
 obtain⟨r,M',e,rfl,q⟩:=d8.mp h;unfold nI;rw[hs];show ae ((c f (.fn (aj M.length)::ds) (M++[[.int 40]])).bind _) kd;rw[e];exact q
def pop_at (ha:a Z M=.ok (.cell k) M)(hk:M[k]?=some (ds++[y])):qT a Z M=.ok y (M.set k ds):=by
 unfold qT;rw[ha];show(match M[k]? with|some ds=>(match ds[ds.length-1]? with|some y=>Res.ok y (M.set k ds.dropLast)|none=>.bad)|none=>.bad)=_
 rw[hk];show(match (ds++[y])[(ds++[y]).length-1]? with|some z=>Res.ok z (M.set k (ds++[y]).dropLast)|none=>.bad)=_
 have:(ds++[y])[(ds++[y]).length-1]?=some y:=`s
 rw[this,List.dropLast_concat]
def L8 (ha:a Z M=.ok (.cell k) M)(j:b Z M=.ok z M)(hk:M[k]?=some ds)(hz:ds.length<sz)(h:ae (rest Z (M.set k (ds++[z]))) kf):ae (aS (d3 a b) rest Z M) kf:=by
 simp only[aF];unfold d3;rw[ha];show ae ((b Z M).bind _) _;rw[j];show ae (match M[k]? with|some ds=>(if ds.length<sz then Res.ok (Fl.next Z) (M.set k (ds++[z])) else .bad)|none=>.bad) _
 rw[hk];show ae (if ds.length<sz then _ else _) _;rw[if_pos hz];exact h
def mO (es:s Z M=.ok ds M):aL f s Z M=dB f ds M:=by
 unfold aL;rw[es];rfl
def Be (e:s Z M=.ok xs M):bI f c s Z M=c f xs M:=by
 unfold bI;rw[e]
def Iq (h:ae (a Z M) kd)(hk:∀x M',kd x M'->ae (rest (Z.set j (some x)) M') kf):ae (aS (dF (.one j) a) rest Z M) kf:=by
 obtain⟨x,M',e,q⟩:=d8.mp h;simp only[aF];unfold dF;rw[e];exact hk x M' q
def g6 (h1:a Z M=.ok x M)(h2:b Z M=.ok y M)(h3:bz o x y M=some w):aG o a b Z M=.ok (.bl w) M:=by
 unfold aG;rw[h1];show(b Z M).bind _=_;rw[h2];show(bS M (bz o x y M)).bind _=_;rw[h3];rfl
def kT (u:a Z M=.ok (.lst xs) M)(y:hi Z M=.ok (.int (j:Int)) M)(hz:xs.length<=1000):cx false false true a gN hi Z M=.ok (.lst (xs.take j)) M:=by
 refine aq ?_;rw[lG,u];show ae (hi Z M) _;rw[y];exact{rfl,rfl,tY.mpr {aH `o,rfl,rfl}}
def m9 (u:a Z M=.ok (.lst xs) M)(y:lo Z M=.ok (.int (j:Int)) M)(hz:xs.length<=1000):cx false true false a lo gN Z M=.ok (.lst (xs.drop j)) M:=by
 refine aq ?_;rw[lG,u];show ae (lo Z M) _;rw[y];exact{rfl,rfl,Ce.mpr {aH `o,rfl,rfl}}
end
section
variable{P:Nat->Option Df}(h:HasM P)(ho:HasO0 P)(ha:pe P){M:Mem}{k e:Nat}{m:aK}{r:List Nat}{hs:List (List Nat)}
include h ho
theorem Gi (n:Nat)(y:bE M x r)(hm:aB m)(hr:bg m r):ah P (n+10) 129 [.fn (aj M.length),m.d,x] (M++[[.int 40]])=.ok .non (M++[[.int 40,m.d,ax r,.cell (M.length+1)],[]]):=by
 have j:bE (M++[[.int 40]]) x r:=y.sub Sub.app;refine aq (ay ho.init rfl ?_);refine bY (ρ':=[some (.fn (aj M.length)),some m.d,some x]) ?_ ?_
 ·show qp _ _ (ah P (n+9) 18 [m.d,x] (M++[[.int 40]]))=_;rw[rO h.toHasM0 n j hm hr];rfl
 refine oz (es:=[]) (ag rfl) (ag rfl) `s `d ?_
 have e1:(M++[[D.int 40]]).set M.length (.int 40::([]++[m.d]))=M++[[.int 40,m.d]]:=`s
 rw[e1];have u:bE (M++[[.int 40,m.d]]) x r:=y.sub Sub.app;have B:aL (.list false) #[aa 2] [some (.fn (aj M.length)),some m.d,some x] (M++[[.int 40,m.d]])=.ok (ax r) (M++[[.int 40,m.d]]):=by
  refine aq ?_;rw[dj];show ae (dB (.list false) [x] _) _;rw[u.list,cn];exact{aH (by have:=hr.1;simp;omega),rfl,rfl}
 refine oz (es:=[m.d]) B (ag rfl) `s (show _=some 1 by decide) ?_
 have e2:(M++[[D.int 40,m.d]]).set M.length (.int 40::([m.d]++[ax r]))=M++[[.int 40,m.d,ax r]]:=`s
 rw[e2];refine oz (es:=[m.d,ax r]) (z:=.cell (M.length+1)) (M':=M++[[.int 40,m.d,ax r]]++[[]]) ?_ (ag rfl) `s (show _=some 2 by decide) ?_
 ·show(if 0<=sz then(if true=true then Res.ok (D.cell (M++[[.int 40,m.d,ax r]]).length) (M++[[.int 40,m.d,ax r]]++[[]]) else Res.ok (.lst []) (M++[[.int 40,m.d,ax r]])) else Res.bad)=_;rw[if_pos (RU _)];simp
 ·show D.non=.non/\_=_;simp
include ha
theorem v7 (n:Nat)(hm:aB m)(hr:bg m r)(s:bj M k e m r hs):ah P (n+11) 132 [.fn (aj k)] M=.ok (jr m r) (M++(aU m).map λs=>(du m r s).map ak):=by
 refine aq (ay ho.beh rfl ?_);refine bB ?_;rw[aZ (af (dz (i:=0) (ag rfl) s.ob `d rfl) (af (dz (i:=1) (ag rfl) s.ob `d rfl) rfl)),zM h ha.h15 ha.h46 n hm hr]
 exact⟨rfl,rfl⟩
end
section
variable{P:Nat->Option Df}(h:HasM P)(ho:HasO P)(ha:pe P){M:Mem}{k e:Nat}{m:aK}{r:List Nat}{hs:List (List Nat)}
include h ho
theorem Gf (n:Nat)(hr:r.length<=40)(s:bj M k e m r hs):ah P (n+1) 130 [.fn (aj k)] M=.ok (.cell M.length) (M++[r.map nD]):=by
 refine aq (ay ho.row rfl ?_);refine bB ?_;rw[mO (af (dz (i:=1) (ag rfl) s.ob `d rfl) rfl)]
 exact(bE.l).list.mpr (ki.mpr {aH `o,rfl,rfl})
theorem B6 (n:Nat)(hr:bg m r)(s:bj M k e m r hs):ah P (n+2) 131 [.fn (aj k)] M=.ok (nD (cD m r)) M:=by
 refine aq (ay ho.cost rfl ?_);refine eI ((aZ (af (dz (i:=0) (ag rfl) s.ob `d rfl) (af (dz (i:=1) (ag rfl) s.ob `d rfl) rfl))).trans (ma h.toHasM0 ho.summed n .l (QH hr.1 `d) hr.2)) ⟨rfl,rfl⟩
include ha
theorem v8 (n:Nat)(hm:aB m)(hr:bg m r)(u:bg m r')(s:bj M k e m r hs):ae (ah P (n+13) 137 [.fn (aj k),ax r'] M) λd M'=>d=fO (b9 m r r')/\bj M' k e m r' hs/\fW [k] M M':=by
 refine ay ho.give rfl ?_;have q:=zJ h ha n (M:=M) hm hr u;refine Iq (kd:=λd M'=>d=fO (b9 m r r')/\Sub M M') ?_ ?_
 ·rw[Be (af (dz (i:=0) (ag rfl) s.ob `d rfl) (af (dz (i:=1) (ag rfl) s.ob `d rfl) (af (ag rfl) rfl)))]
  exact q
 ·rintro x y ⟨rfl,j⟩;refine Gz (ag rfl) (ag rfl) (j.get s.ob) `d (show 1<3 by decide) ?_
  refine bB ?_;rw[ag rfl];refine{rfl,{?_,?_},(fW.of j).trans (fW.set `s)}
  ·rw[QI (uD (j.get s.ob))];rfl
  ·rw[Qv (RF s.ne)];exact j.get s.er
theorem rP (n:Nat){r':List Nat}(hm:aB m)(hr:bg m r)(u:bg m r')(hz:hs.length<=1000)(s:bj M k e m r hs):ae (ah P (n+14) 136 [.fn (aj k),ax r'] M) λd M'=>d=fO (b9 m r r')/\bj M' k e m r' (hs++[r])/\fW [k,e] M M':=by
 refine ay ho.change rfl ?_;refine L8 (dz (i:=2) (ag rfl) s.ob `d rfl) (dz (i:=1) (ag rfl) s.ob `d rfl) s.er (QL (by simp;omega:_<2000) (aH `d)) ?_
 have s1:bj (M.set e (hs.map ax++[ax r])) k e m r (hs++[r]):=by
  refine{?_,?_}
  ·rw[Qv s.ne];exact s.ob
  ·rw[QI (uD s.er)];simp
 refine bB ?_;rw[eF (ag rfl) s1.ob (af (ag rfl) rfl)];refine aM (v8 h ho ha n hm hr u s1) ?_;rintro d M' ⟨rfl,s2,k2⟩;exact{rfl,s2,(fW.set `s).trans {k2.len,λj y hn=>k2.at' j y λz=>hn (by simp at z;simp[z])}}
theorem Gg (n:Nat)(hm:aB m)(hr:bg m r)(F:p<=r.length)(hl:r.length<40)(hi:i<m.deeds.length)(hz:hs.length<=1000)(s:bj M k e m r hs) :
 ae (ah P (n+15) 133 [.fn (aj k),nD p,nD i] M) λd M'=>d=fO (b9 m r (r.take p++[i]++r.drop p))/\bj M' k e m (r.take p++[i]++r.drop p) (hs++[r])/\fW [k,e] M M':=by
 refine ay ho.put rfl ?_;show ae (iW (ah P (n+14)) [some (.fn (aj k)),some (nD p),some (nD i)] M) _;have B:bR "machine" (aa 0) [some (.fn (aj k)),some (nD p),some (nD i)] M=.ok m.d M:=dz (i:=0) (ag rfl) s.ob `d rfl
 have fs:bR "standing" (aa 0) [some (.fn (aj k)),some (nD p),some (nD i)] M=.ok (ax r) M:=dz (i:=1) (ag rfl) s.ob `d rfl
 have fl:aL .len #[bR "standing" (aa 0)] [some (.fn (aj k)),some (nD p),some (nD i)] M=.ok (.int r.length) M:=by
  rw[mO (af fs rfl)];exact aq ((bE.l).len.mpr ⟨rfl,rfl⟩)
 refine bp (ku (b:=true) (b5 ?_)) (bp (ku (b:=true) (b5 ?_)) (bp (b5 (g6 fl rfl ?_)) ?_))
 ·rw[aZ (af (ag rfl) (af rfl (af fl rfl))),dP h.toHasM0 (n+13)];have a:decide ((0:Int)<=(p:Int))=true:=decide_eq_true `a
  have b:decide ((p:Int)<=(r.length:Int))=true:=decide_eq_true `a
  rw[a,b];rfl
 ·rw[aZ (af B (af (ag rfl) rfl)),wa h.toHasM0 (n+12) hi]
 ·show some (decide ((40:Int)<=(r.length:Int)))=_;rw[decide_eq_false `a]
 ·refine bB ?_;have e1:=kT (hi:=aa 1) fs (ag rfl) `o
  have e2:=m9 (lo:=aa 1) fs (ag rfl) `o
  have y:=iD (iD e1 (fS (s:=#[aa 2]) (af (ag rfl) rfl) `s) `o) e2 `o
  rw[eF (ag rfl) s.ob (af y rfl)];have er:D.lst ((r.map nD).take p++[nD i]++(r.map nD).drop p)=ax (r.take p++[i]++r.drop p):=by simp[ax,SJ,List.map_drop]
  rw[er];have u:bg m (r.take p++[i]++r.drop p):=by
   refine{by simp;omega,λj E=>?_}
   rcases QR.mp E with z|z
   ·rcases QR.mp z with z|z
    ·exact hr.2 j (Rz z)
    ·simp at z;omega
   ·exact hr.2 j (Sx z)
  exact rP h ho ha n hm hr u hz s
theorem Gh (n:Nat)(hm:aB m)(hr:bg m r)(J:p<r.length)(hz:hs.length<=1000)(s:bj M k e m r hs) :
 ae (ah P (n+15) 134 [.fn (aj k),nD p] M) λd M'=>d=fO (b9 m r (r.take p++r.drop (p+1)))/\bj M' k e m (r.take p++r.drop (p+1)) (hs++[r])/\fW [k,e] M M':=by
 refine ay ho.out rfl ?_;show ae (lS (ah P (n+14)) [some (.fn (aj k)),some (nD p)] M) _;have I:=hr.1;have fs:bR "standing" (aa 0) [some (.fn (aj k)),some (nD p)] M=.ok (ax r) M:=dz (i:=1) (ag rfl) s.ob `d rfl
 have fl:aL .len #[bR "standing" (aa 0)] [some (.fn (aj k)),some (nD p)] M=.ok (.int r.length) M:=by
  rw[mO (af fs rfl)];exact aq ((bE.l).len.mpr ⟨rfl,rfl⟩)
 have u:au false .sub (aL .len #[bR "standing" (aa 0)]) (gI 1) [some (.fn (aj k)),some (nD p)] M=.ok (.int (r.length-1)) M:=by
  unfold au;rw[fl];rfl
 refine bp (ku (b:=true) (b5 ?_)) ?_
 ·rw[aZ (af (ag rfl) (af rfl (af u rfl))),dP h.toHasM0 (n+13)];have a:decide ((0:Int)<=(p:Int))=true:=decide_eq_true `a
  have b:decide ((p:Int)<=(r.length:Int)-1)=true:=decide_eq_true `a
  rw[a,b];rfl
 ·refine bB ?_;have e1:=kT (hi:=aa 1) fs (ag rfl) `o
  have F:au false .add (aa 1) (gI 1) [some (.fn (aj k)),some (nD p)] M=.ok (.int ((p+1:Nat):Int)) M:=fc (x:=(p:Int)) (y:=1) (ag rfl) rfl;have e2:=m9 fs F `o
  have E:=iD e1 e2 `o
  rw[eF (ag rfl) s.ob (af E rfl)];have er:D.lst ((r.map nD).take p++(r.map nD).drop (p+1))=ax (r.take p++r.drop (p+1)):=by simp[ax,SJ,List.map_drop]
  rw[er];have B:bg m (r.take p++r.drop (p+1)):=by
   refine{by simp;omega,λj H=>?_}
   rcases QR.mp H with z|z
   ·exact hr.2 j (Rz z)
   ·exact hr.2 j (Sx z)
  exact rP h ho ha n hm hr B hz s
theorem B7 (n:Nat)(hm:aB m)(hr:bg m r)(hr':bg m r')(s:bj M k e m r (hs++[r'])) :
 ae (ah P (n+14) 135 [.fn (aj k)] M) λd M'=>d=fO (b9 m r r')/\bj M' k e m r' hs/\fW [k,e] M M':=by
 refine ay ho.back rfl ?_;show ae (j7 (ah P (n+13)) [some (.fn (aj k))] M) _;have fe:bR "earlier" (aa 0) [some (.fn (aj k))] M=.ok (.cell e) M:=dz (i:=2) (ag rfl) s.ob `d rfl
 have er:=s.er;rw[QP] at er;refine bp (ku (b:=true) ?_) (bB ?_)
 ·unfold ao;rw[fe];show bS M ((M[e]?).map λds=>!ds.isEmpty)=_;rw[er];cases hs<;>rfl
 ·have s1:bj (M.set e (hs.map ax)) k e m r hs:=by
   refine{?_,?_}
   ·rw[Qv s.ne];exact s.ob
   ·rw[QI (uD s.er)]
  have ea:#[qT (bR "earlier" (aa 0))] [some (.fn (aj k))] M=.ok [ax r'] (M.set e (hs.map ax)):=by
   unfold c6;rw[pop_at fe er];rfl
  rw[eF (ag rfl) s.ob ea];refine aM (v8 h ho ha n hm hr hr' s1) ?_;rintro d M' ⟨rfl,s2,k2⟩;exact{rfl,s2,(fW.set `s).trans {k2.len,λj hj hn=>k2.at' j hj λz=>hn (by simp at z;simp[z])}}
end
structure HasC0 (P:Nat->Option Df):Prop where
 change:P 138=some {3,7,lZ}
 do_:P 139=some {2,2,fw}
structure HasC (P:Nat->Option Df):Prop extends HasC0 P where
 price:P 89=some {2,2,jv}
 parted:P 140=some {3,6,gg}
structure HasE0 (P:Nat->Option Df):Prop extends HasC0 P where
 orders:P 141=some {0,0,sR}
structure P4 (P:Nat->Option Df):Prop extends HasE0 P where
 price:P 89=some {2,2,jv}
 parted:P 140=some {3,6,gg}
 right:P 142=some {4,6,qj}
instance coeHasE0 {P:Nat->Option Df}:Coe (HasE0 P) (HasC0 P):=⟨HasE0.toHasC0⟩
instance coeHasE {P:Nat->Option Df}:Coe (P4 P) (HasC P):={λh=>⟨h.toHasC0,h.price,h.parted⟩}
def Mj (m:aK)(hs:List (List Nat))(r:List Nat)(j:List (List Nat))(told:D):Prop:=
 (∃u r0,hs=u++[r0]/\j=hs/\told=.tup [])
 \/(∃a,a<r.length/\j=hs++[r]++[r.take a++r.drop (a+1)]/\told=.tup [nD a])
 \/∃a i,a<=r.length/\r.length<40/\i<m.deeds.length/\j=hs++[r]++[r.take a++[i]++r.drop a]/\told=.tup [nD a,nD i]
def C9:bO (.lst (xs++[y])) (.int (-1)) M=some y:=by
 show(bT (xs++[y]).length (-1)).bind (λj=>(xs++[y])[j]?)=_;have:bT (xs++[y]).length (-1)=some xs.length:=by
  unfold bT;rw[if_neg `d,if_pos `o]
  simp;omega
 rw[this];simp
section
variable{Z:Env}{M:Mem}{a:GE}
def dw:bH Z M=.ok [] M:=rfl
def wH (e:a Z M=.ok (.lst (xs++[y])) M):aw a (cH (gI 1)) Z M=.ok y M:=bt e rfl C9
def wF (e:a Z M=.ok (.lst xs) M):aL .len #[a] Z M=.ok (nD xs.length) M:=by
 rw[mO (af e rfl)];rfl
def gq (es:s Z M=.ok xs M)(hl:xs.length<=100):bW s Z M=.ok (.tup xs) M:=by
 unfold bW;rw[es];show(if xs.length<=sz then Res.ok (D.tup xs) M else .bad)=_;rw[if_pos (aH `a)]
end
section
variable{P:Nat->Option Df}(h:HasP0 P)(hq:HasC0 P){M:Mem}{m:aK}
include h hq
theorem xC (n:Nat)(hm:aB m)(hr:bg m r)(hl:hs.length<=50)(U:aJ M p B)(hB:B<=700000):ae (ah P (n+3) 138 [.cell p,m.d,.lst ((hs++[r]).map ax)] M) λd M'=>∃E told,d=.tup [.lst (E.map ax),told]/\Mj m hs r E told/\aJ M' p (B+3)/\aX p M M':=by
 have X:=hr.1;have d6:=hm.d6;refine ay hq.change rfl ?_;refine eC h n rfl rfl U `a `d `d λway M1 _ q1 k1=>?_
 rw[QP];refine bY (cg (wH (ag rfl))) ?_;have O:∀{M:Mem}{x y:Option D},aL .len #[aa 4] [some (.cell p),some m.d,some (.lst (hs.map ax++[ax r])),some (nD way),some (ax r),x,y] M=.ok (nD r.length) M:=λ{M x y}=>by
  rw[wF (ag rfl),Qx]
 refine eC h n (many:=r.length+1) rfl (nV O rfl) q1 `a `a `a λat_ M2 S q2 k2=>?_
 refine eC h n rfl (wG (bt (ag rfl) rfl Ay)) q2 `a hm.d1 `a λi u hi Q W=>?_
 have kk:=(k1.trans k2).trans W;show ae (aS _ _ [some (.cell p),some m.d,some (.lst (hs.map ax++[ax r])),some (nD way),some (ax r),some (nD at_),some (nD i)] u) _;have ll:aL .len #[aa 2] [some (.cell p),some m.d,some (.lst (hs.map ax++[ax r])),some (nD way),some (ax r),some (nD at_),some (nD i)] u=.ok (nD (hs.length+1)) u:=by
  rw[wF (ag rfl)];simp
 refine bN (kF (f6 rfl) (b5 (g6 ll rfl rfl))) (λF=>?_) λ_=>?_
 ·rw[Qw] at F;have h1:1<=hs.length:=by have:=of_decide_eq_true F.2;omega
  obtain⟨H,r0,J⟩:∃H r0,hs=H++[r0]:={hs.dropLast,hs.getLast (λz=>by rw[z] at h1;simp at h1),(List.dropLast_concat_getLast _).symm}
  refine bB ?_;have R:cx false false true (aa 2) gN (cH (gI 1)) [some (.cell p),some m.d,some (.lst (hs.map ax++[ax r])),some (nD way),some (ax r),some (nD at_),some (nD i)] u=.ok (.lst (hs.map ax)) u:=by
   refine aq ?_;rw[lG,ag rfl];refine{rfl,rfl,?_};have e2:aR (hs.map ax++[ax r]).length (hs.map ax++[ax r]).length (.int (-1))=some hs.length:=by
    show some _=_;rw[if_pos `d];congr 1;simp;omega
   show ae (match aR (hs.map ax++[ax r]).length 0 D.non,aR (hs.map ax++[ax r]).length (hs.map ax++[ax r]).length (.int (-1)) with|some l,some h=>ba false (cut (hs.map ax++[ax r]) l h) u|_,_=>.bad) _
   rw[e2];show ae (ba false (cut (hs.map ax++[ax r]) 0 hs.length) u) _;have I:cut (hs.map ax++[ax r]) 0 hs.length=hs.map ax:=by
    unfold cut;simp
   rw[I,cn];exact{aH `o,rfl,rfl}
  rw[gq (af R (af (gq rfl `s) rfl)) `s]
  exact{hs,_,rfl,.inl ⟨H,r0,J,rfl,rfl⟩,Q,kk}
 refine bN (kF (Ew (f6 rfl) (b5 (g6 (w:=((r.length:Int)==40)) O rfl rfl))) (b5 (g6 (ag rfl) rfl (Bf (r:=[]))))) (λF=>?_) λF=>?_
 ·rw[Qw] at F;have ne:r≠[]:=by have:=F.2;simpa using this
  have Y:=List.length_pos_iff.mpr ne;have lt:=Nat.mod_lt at_ Y;refine bY (cg (x:=nD (at_ % r.length)) ?_) ?_
  ·exact jj (x:=(at_:Int)) (ag rfl) O `a
  ·show ae (aS _ _ [some (.cell p),some m.d,some (.lst (hs.map ax++[ax r])),some (nD way),some (ax r),some (nD (at_ % r.length)),some (nD i)] u) _;generalize at_ % r.length=v at lt;refine bB ?_;have e1:=kT (Z:=[some (.cell p),some m.d,some (.lst (hs.map ax++[ax r])),some (nD way),some (ax r),some (nD v),some (nD i)]) (M:=u) (a:=aa 4) (hi:=aa 5) (ag rfl) (ag rfl) `o
   have e2:=m9 (Z:=[some (.cell p),some m.d,some (.lst (hs.map ax++[ax r])),some (nD way),some (ax r),some (nD v),some (nD i)]) (M:=u) (a:=aa 4) (lo:=au false .add (aa 5) (gI 1)) (ag rfl) (fc (x:=(v:Int)) (y:=1) (ag rfl) rfl) `o
   have I:=iD (a:=aa 2) (ag (x:=.lst (hs.map ax++[ax r])) rfl) (fS (af (iD e1 e2 `o) dw) `s) `o
   rw[gq (af I (af (gq (s:=#[aa 5]) (af (ag (x:=nD v) rfl) rfl) `s) rfl)) `s]
   refine{hs++[r]++[r.take v++r.drop (v+1)],_,?_,.inr (.inl ⟨v,lt,rfl,rfl⟩),Q,kk};simp[ax,SJ,List.map_drop]
 ·have L:r.length<40:=by
   rcases Sa r.length 40 with z|z
   ·exact z
   ·have e:r.length=40:=`a
    have e2:r≠[]:=λy=>by rw[y] at e;simp at e
    rw[e] at F;simp[e2] at F
  refine bB ?_;have e1:=kT (Z:=[some (.cell p),some m.d,some (.lst (hs.map ax++[ax r])),some (nD way),some (ax r),some (nD at_),some (nD i)]) (M:=u) (a:=aa 4) (hi:=aa 5) (xs:=r.map nD) (j:=at_) (ag rfl) (ag rfl) `o
  have e2:=m9 (Z:=[some (.cell p),some m.d,some (.lst (hs.map ax++[ax r])),some (nD way),some (ax r),some (nD at_),some (nD i)]) (M:=u) (a:=aa 4) (lo:=aa 5) (xs:=r.map nD) (j:=at_) (ag rfl) (ag rfl) `o
  have J:=fS (Z:=[some (.cell p),some m.d,some (.lst (hs.map ax++[ax r])),some (nD way),some (ax r),some (nD at_),some (nD i)]) (M:=u) (s:=#[aa 6]) (xs:=[nD i]) (af (ag rfl) rfl) `s
  have I:=iD (a:=aa 2) (ag (x:=.lst (hs.map ax++[ax r])) rfl) (fS (af (iD (iD e1 J `o) e2 `o) dw) `s) `o
  rw[gq (af I (af (gq (s:=#[aa 5,aa 6]) (af (ag (x:=nD at_) rfl) (af (ag (x:=nD i) rfl) rfl)) `s) rfl)) `s]
  refine{hs++[r]++[r.take at_++[i]++r.drop at_],_,?_,.inr (.inr {at_,i,`a,L,hi,rfl,rfl}),Q,kk}
  simp[ax,SJ,List.map_drop]
end
section
variable{P:Nat->Option Df}(hb:HasS P)(hq:HasC P)(he:P 44=some {2,5,e9}){M:Mem}
include hb hq he
theorem xB (n:Nat)(hm:aB m)(h1:bg m a)(h2:bg m b):ae (ah P (n+3) 140 [m.d,.lst (a.map nD),.lst (b.map nD)] M) λd M'=>d=fO (b9 m a b)/\Sub M M':=by
 have I:=mf hb.toHasB (n+1) (M:=M) hm;refine ay hq.parted rfl ?_;simp[gg,I];refine aM (oy hb.toHasB he n hm h1.2) λd R ⟨y,F⟩=>?_;subst y;refine aM (oy hb.toHasB he n hm h2.2) λd S ⟨y,H⟩=>?_;subst y;refine{{⟨rfl,rfl⟩,rfl},?_};refine wW (ds:=(aU m).map λs=>.tup [ak s,ak (bu m a s),ak (bu m b s)]) (λi v M'=>(∀t∈(aU m).take i,bu m a t=bu m b t)/\Sub M M'/\∃J L B,v=[some m.d,some (.lst (a.map nD)),some (.lst (b.map nD)),J,L,B]) (λd M'=>d=fO (b9 m a b)/\Sub M M') ?_ ?_ {`s,F.trans H,none,none,none,rfl} ?_ ?_ ?_
 ·rintro i v M' _;simp[kI,bL,LD.ends,i9,R0]
 ·rintro d M' _;simp[kI,bL,LD.ends,i9,R0]
 ·rintro i d v M' hd ⟨u,j,B,O,Q,rfl⟩;rw[QX] at hd;cases e:(aU m)[i]? with
  |none=>rw[e] at hd;cases hd
  | some s=>
    rw[e] at hd;cases Qz hd;refine{_,rfl,?_};by_cases c:bu m a s=bu m b s
    ·simp[lL,c];refine{?_,j};intro t E;rw[RK,e] at E;rcases QR.mp E with z|z
     ·exact u t z
     ·simp at z;subst z;exact c
    ·simp[lL,c];exact{by rw[rY e u c];rfl,j}
 ·rintro v M' ⟨u,j,B,O,Q,rfl⟩;simp at u ⊢;exact{by rw[rX (by simpa[Ru] using u)];rfl,j}
 ·rintro d M' ⟨rfl,j⟩;simp[j]
theorem vI (n:Nat)(hm:aB m):ah P (n+2) 40 [fO (b9 m a b),fO (b9 m a b)] M=.ok (.bl true) M:=by
 cases e:b9 m a b with
 | none=>
   refine aq (ay hb.same rfl ?_);show ae (d5 (ah P (n+1)) [some .non,some .non] M) _;exact qQ rfl rfl ⟨rfl,rfl⟩
 | some s=>
   have:=i7 s (Sr e);have p2:=hm.p2;exact nX hb.toHasS0 n (by rw[this.1];omega)
end
def Cg (e1:P f=some d)(e2:P g=some d):ah P (n+1) f ds M=ah P (n+1) g ds M:=by
 show(match P f with|none=>Res.bad|some d=>fq (ah P n) d ds M)=(match P g with|none=>Res.bad|some d=>fq (ah P n) d ds M)
 rw[e1,e2]
section
variable{P:Nat->Option Df}(h:HasM P)(ho:HasO P)(hq:HasC P){M:Mem}{m:aK}{r:List Nat}
include h ho hq
theorem zK (n:Nat)(hr:bg m r):ah P (n+1) 89 [m.d,ax r] M=.ok (nD (cD m r)) M:=by
 rw[Cg hq.price ho.summed];exact ma h.toHasM0 ho.summed n .l (QH hr.1 `d) hr.2
end
def tQ (h:HasS0 P)(n:Nat)(hm:aB m)(hr:∀i∈r,i<m.deeds.length):ah P (n+3) 40 [.tup ((ends m r).map ak),.tup ((ends m r).map ak)] M=.ok (.bl true) M:=by
 have bl:=ib hm;have p2:=hm.p2;refine rN h (n+2) (aH (by simp[LD.ends];omega)) λd hd=>?_
 obtain⟨s,hs,rfl⟩:=QF.mp hd;obtain⟨b,hb,rfl⟩:=QF.mp hs;have:=nK hm hr (i7 b hb);exact nX h n (by rw[this.1];omega)
section
variable{P:Nat->Option Df}(h:HasM P)(ho:HasO P)(ha:pe P)(hq:HasC0 P){M:Mem}{k e:Nat}{m:aK}{r:List Nat}{hs:List (List Nat)}
include h ho ha hq
theorem Jq (n:Nat)(hm:aB m)(hr:bg m r)(hh:∀x∈hs,bg m x)(hz:hs.length<=1000)(c:Mj m hs r later told)(s:bj M k e m r hs) :
 ∃hs' r',later=hs'++[r']/\bg m r'/\(∀x∈hs',bg m x)/\hs'.length<=hs.length+1/\ae (ah P (n+16) 139 [.fn (aj k),told] M) λd M'=>d=fO (b9 m r r')/\bj M' k e m r' hs'/\fW [k,e] M M':=by
 rcases c with⟨H,r0,rfl,rfl,rfl⟩|⟨a,u,rfl,rfl⟩|⟨a,i,u,E,I,rfl,rfl⟩
 ·have y:=hh r0 `s
  refine{H,r0,rfl,y,λx B=>hh x (by simp[B]),by simp;omega,?_}
  refine ay hq.do_ rfl ?_;show ae (fw (ah P (n+15)) [some (.fn (aj k)),some (.tup [])] M) _;unfold fw;refine bp (b5 (g6 (lj rfl) rfl rfl)) (bB ?_);rw[yv,b5 (g6 (ag rfl) (gq rfl `s) (nP rfl rfl rfl))]
  show ae (cy _ _ _ _ _ _ _) _;rw[eF (ag rfl) s.ob dw];exact B7 h ho ha (n+1) hm hr y s
 ·have v:bg m (r.take a++r.drop (a+1)):=by
   have:=hr.1;refine{by simp;omega,λj F=>?_}
   rcases QR.mp F with z|z
   ·exact hr.2 j (Rz z)
   ·exact hr.2 j (Sx z)
  refine{hs++[r],_,rfl,v,λx B=>(QR.mp B).elim (hh x) λz=>by simp at z;subst z;exact hr,`s,?_}
  refine ay hq.do_ rfl ?_;show ae (fw (ah P (n+15)) [some (.fn (aj k)),some (.tup [nD a])] M) _;unfold fw;refine bp (b5 (g6 (lj rfl) rfl rfl)) (bB ?_);rw[yv,b5 (g6 (ag rfl) (gq rfl `s) (nP rfl rfl rfl))]
  show ae (cy _ _ _ _ _ _ _) _;rw[eF (ag rfl) s.ob (af (bt (ag rfl) rfl rfl) dw)];exact Gh h ho ha n hm hr u hz s
 ·have v:bg m (r.take a++[i]++r.drop a):=by
   refine{by simp;omega,λj F=>?_}
   rcases QR.mp F with z|z
   ·rcases QR.mp z with z|z
    ·exact hr.2 j (Rz z)
    ·simp at z;omega
   ·exact hr.2 j (Sx z)
  refine{hs++[r],_,rfl,v,λx B=>(QR.mp B).elim (hh x) λz=>by simp at z;subst z;exact hr,`s,?_}
  refine ay hq.do_ rfl ?_;unfold fw;refine uM (b5 (g6 (lj rfl) rfl rfl)) (bB ?_);rw[eF (ag rfl) s.ob (af (bt (ag rfl) rfl rfl) (af (bt (ag rfl) rfl rfl) dw))];exact Gg h ho ha n hm hr u E I hz s
end
def aJ.of (h:aJ M p B)(e:∀j,j<=p->M'[j]?=M[j]?):aJ M' p B:=by
 obtain⟨c,u,a,s,e1,e2,hc,q⟩:=h.ex;exact{c,u,a,s,(e p (QA _)).trans e1,(e c (Sk hc)).trans e2,hc,q}
def Iv (h:ae (a Z M) kd)(hk:∀x M',kd x M'->∃ρ1,bU t x Z=some ρ1/\ae (rest ρ1 M') kf):ae (aS (az t a) rest Z M) kf:=by
 obtain⟨x,M',e,q⟩:=d8.mp h;obtain⟨ρ1,e1,j⟩:=hk x M' q;simp only[aF];unfold az;rw[e];show ae ((bS M' (bU t x Z)).bind _) _;rw[e1];exact j
def oM (e:Z[j]?.getD none=some (.lst ((l++[x]).map ax))):aw (aa j) (cH (gI 1)) Z M=.ok (ax x) M:=by
 rw[QP] at e;exact wH (ag e)
abbrev bb:=List (List Nat)
def bD (b:bb):D:=.tup (b.map ak)
def bc (m:aK)(i:Nat)(b:bb):bb:=b.map (bK (b3 m i))
def cst (m:aK)(i:Nat):Nat:=(b3 m i).cost
inductive jA (m:aK):Nat->bb->Prop
 |start:jA m 0 (aU m)
 |step {q:Nat}{b:bb}{i:Nat}:jA m q b->i<m.deeds.length->jA m (q+cst m i) (bc m i b)
def bq (m:aK)(q:Nat)(b:bb):Prop:=jA m q b/\∀q'<q,¬ jA m q' b
section
variable{m:aK}{q q' p:Nat}{b:bb}
def g5 (hm:aB m)(hi:i<m.deeds.length):1<=cst m i/\cst m i<=3:=xg (fD hm hi)
def wc (h:jA m q b):(q=0/\b=aU m)\/∃i j,i<m.deeds.length/\cst m i<=q/\jA m (q-cst m i) j/\b=bc m i j:=by
 cases h with
 |start=>exact .inl ⟨rfl,rfl⟩
 | @step q b i h u=>exact .inr {i,b,u,Nat.le_add_left _ _,by rw[Nat.add_sub_cancel];exact h,rfl}
def zX (hm:aB m)(h:jA m q b):b.length=(aU m).length/\∀s∈b,dg m s:=by
 induction h with
 |start=>exact⟨rfl,i7⟩
 | step _ u j=>
   refine{by unfold bc;rw[Qx];exact j.1,λs hs=>?_}
   obtain⟨t,v,rfl⟩:=QF.mp hs;exact sj (fD hm u) (j.2 t v)
def jM:∀{q:Nat},jA m q b->∃q',q'<=q/\bq m q' b:=by
 intro q;induction q using Nat.strongRecOn with
 | ind q j=>
   intro h;by_cases z:∃q',q'<q/\jA m q' b
   ·obtain⟨q',h1,h2⟩:=z;obtain⟨r,h3,h4⟩:=j q' h1 h2;exact{r,QH h3 (Sk h1),h4}
   ·exact{q,QA _,h,λq' h1 h2=>z ⟨q',h1,h2⟩}
def pO (h:bq m q b)(j:bq m q' b):q=q':=by
 rcases Nat.lt_trichotomy q q' with z|z|z
 ·exact absurd h.1 (j.2 q z)
 ·exact z
 ·exact absurd j.1 (h.2 q' z)
def gR (hm:aB m):bq m 0 b↔b=aU m:=by
 constructor
 ·intro h;rcases wc h.1 with⟨_,e⟩|⟨i,u,j,v,_⟩
  ·exact e
  ·have:=(g5 hm j).1;omega
 ·rintro rfl;exact{.start,λq' h=>absurd h (Sh _)}
def gU (hm:aB m)(E:0<p):bq m p b↔(∃i j,i<m.deeds.length/\cst m i<=p/\bq m (p-cst m i) j/\b=bc m i j)/\∀q<p,¬ bq m q b:=by
 constructor
 ·intro h;refine{?_,λq y z=>h.2 q y z.1};rcases wc h.1 with⟨e,_⟩|⟨i,j,u,v,h1,rfl⟩
  ·omega
  ·refine{i,j,u,v,?_,rfl};obtain⟨r,hr,hl⟩:=jM h1;have h2:¬ r+cst m i<p:=λz=>h.2 _ z (.step hl.1 u);have e:r=p-cst m i:=`a
   rw[<- e];exact hl
 ·rintro⟨⟨i,j,u,v,h1,rfl⟩,h2⟩;refine{by have:=jA.step h1.1 u;rwa [Nat.sub_add_cancel v] at this,λq' B z=>?_}
  obtain⟨r,hr,hl⟩:=jM z;exact h2 r `a hl
def yd (hm:aB m)(B:0<p)(h:∀q,q<p->p<=q+3->∀b,¬ bq m q b):∀q,p<=q->∀b,¬ bq m q b:=by
 intro q;induction q using Nat.strongRecOn with
 | ind q v=>
   intro E b hl;obtain⟨⟨i,j,u,y,h1,_⟩,_⟩:=(gU hm `a).mp hl
   have c:=g5 hm u;by_cases z:p<=q-cst m i
   ·exact v _ `a z j h1
   ·exact h _ `a `a j h1
def Aq {j u:Type}{f:j->u}:∀{l:List j},(l.map f).Nodup->l.Nodup
 |[],_=>.nil
 | a::l,h=>by
   rw[Ry,RE] at h;exact List.nodup_cons.mpr {λz=>h.1 (Ra z),Aq h.2}
theorem len_sub {v:Type}[DecidableEq v]:∀{l l':List v},l.Nodup->(∀x∈l,x∈l')->l.length<=l'.length
 |[],_,_,_=>RU _
 | a::l,l',h,s=>by
   have j:=s a QS;have h1:=len_sub (RE.mp h).2 λx u=>by
    have ne:x≠a:=λe=>(RE.mp h).1 (by rw[<- e];exact u)
    exact(List.mem_erase_of_ne ne).mpr (s x (QD _ u))
   rw[List.length_erase_of_mem j] at h1;have h2:=List.length_pos_of_mem j;rw[Rx];omega
structure cm (m:aK) (p:Nat) (l:List (bb×Nat)):Prop where
 nd:(l.map (·.1)).Nodup
 sound:∀x∈l,bq m x.2 x.1/\x.2<p
 all:∀q b,q<p->bq m q b->(b,q)∈l
def j9 (m:aK)(p:Nat):Prop:=∃l:List (bb×Nat),(l.map (·.1)).Nodup/\(∀x∈l,bq m x.2 x.1/\x.2<p)/\255<l.length
def cm.mono (h:cm m p l)(u:p<=q)(he:∀k b,p<=k->k<q->¬ bq m k b):cm m q l:=
 {h.nd,λx j=>{(h.sound x j).1,QL (h.sound x j).2 u},λk b hk hl=>by
  by_cases z:k<p
  ·exact h.all k b z hl
  ·exact absurd hl (he k b `a hk)}
end
def oQ:∀s:List Nat,intsOf (s.map nD)=some (s.map λ(n:Nat)=>(n:Int))
 |[]=>rfl
 |a::s=>by show(intsOf (s.map nD)).map _=_;rw[oQ s];rfl
def wJ (s:List Nat):isKey 77 (ak s)=true:=by
 show(intsOf (s.map nD)).isSome=true;rw[oQ];rfl
def AJ:∀b:bb,jN (b.map ak)=some (b.map λs=>s.map λ(n:Nat)=>(n:Int))
 |[]=>rfl
 | s::b=>by
   show((intsOf (s.map nD)).bind λk=>(jN (b.map ak)).map (k::·))=_;rw[oQ,AJ b];rfl
def ny (b:bb):isKey 78 (bD b)=true:=by
 show(jN (b.map ak)).isSome=true;rw[AJ];rfl
def Fp (a b:bb):bZ (bD a) (bD b)=decide (a=b):=Bi a b
section
variable{Z:Env}{M:Mem}{a b:GE}{k:D->Mem->Prop}
def jn {c:Int}(e:M[j]?=some (.int c::es))(h:c=77\/c=78):cJ M (aj j)=some (c,es):=by
 unfold cJ;rw[if_pos (show 5000<=aj j from RJ _ _),show aj j-5000=j from Q7 _ _,e];exact if_pos h
def lg {h:Type}(f g:h->D)(l:List h)(x:D):cV (l.map λy=>.tup [f y,g y]) x=(l.find? λy=>bZ (f y) x).map g:=by
 unfold cV;rw[List.find?_map,Option.map_map];rfl
def uT {x:D}{o:Nat}{y d:D}(h:a Z M=.ok (.fn o) M)(u:b Z M=.ok y M)(e:getD M o y=some d):iu a b Z M=.ok d M:=by
 unfold iu;rw[h];show(b Z M).bind _=_;rw[u];show bS M (getD M o y)=_;rw[e];rfl
end
def f5 (m:aK)(d:aY):List D:=.int 77::(aU m).map λs=>.tup [ak s,ak (bK d s)]
section
variable{P:Nat->Option Df}{M:Mem}{m:aK}{d:aY}{j:Nat}
def oK (e:M[j]?=some (f5 m d))(hm:aB m)(hs:dg m s):getD M (aj j) (ak s)=some (ak (bK d s)):=by
 unfold getD;rw[jn e (.inl rfl)];show(if isKey 77 (ak s)=true then cV ((aU m).map λs=>.tup [ak s,ak (bK d s)]) (ak s) else none)=_;rw[if_pos (wJ s),lg ak λs=>ak (bK d s)];have e2:((aU m).find? λy=>bZ (ak y) (ak s))=some s:=by
  cases h:(aU m).find? λy=>bZ (ak y) (ak s) with
  |none=>exact absurd (Io s) (List.find?_eq_none.mp h s (Dw hm hs))
  | some y=>
    have:=List.find?_some h;rw[qh] at this;rw[of_decide_eq_true this]
 rw[e2];rfl
def Jp (h152:P 152=some {2,2,eT})(n:Nat)(e:M[j]?=some (f5 m d))(hm:aB m)(hl:b.length<=16)(h:∀s∈b,dg m s):ah P (n+1) 152 [.fn (aj j),bD b] M=.ok (bD (b.map (bK d))) M:=by
 refine aq (ay h152 rfl ?_);simp only[eT,aF,eD,dj,cb,iC,dG,kK,bx];refine{_,rfl,rfl,?_};refine gD (λx=>(getD M (aj j) x).getD .non) (aH `o) rfl ?_ ?_
 ·intro x u;obtain⟨s,hs,rfl⟩:=QF.mp u;refine{_,rfl,?_};rw[oK e hm (h s hs)];exact uT (x:=.non) rfl rfl (oK e hm (h s hs))
 ·have e2:(b.map ak).map (λx=>(getD M (aj j) x).getD .non)=(b.map (bK d)).map ak:=by
   rw[RO,RO];refine SR λs hs=>?_;show(getD M (aj j) (ak s)).getD .non=_;rw[oK e hm (h s hs)];rfl
  rw[e2];exact cn.mpr {aH `o,rfl,rfl}
end
theorem wu {u F:Type}{f:u->List F}:∀{l:List u},l.Nodup->(∀a,(f a).Nodup)->(∀a b x,a≠b->x∈f a->x∉f b)->(l.flatMap f).Nodup
 |[],_,_,_=>`s
 | a::l,h,h1,h2=>by
   rw[List.flatMap_cons,Sg];rw[RE] at h;refine{h1 a,wu h.2 h1 h2,λx B y E e=>?_};subst e;obtain⟨b,v,j⟩:=List.mem_flatMap.mp E;exact h2 a b x (λz=>h.1 (z ▸ v)) B j
def wt (s:List Nat):∀{l:List Nat},l.Nodup->(l.map λx=>s++[x]).Nodup
 |[],_=>`s
 | a::l,h=>by
   rw[RE] at h;rw[Ry,RE];refine{λz=>?_,wt s h.2};obtain⟨b,j,e⟩:=QF.mp z;have e:b=a:=by simpa using e
   exact h.1 (e ▸ j)
def vo (w:Nat):∀p,(c7 w p).Nodup
 |0=>by unfold c7;simp
 | p+1=>by
   unfold c7 qX;refine wu (vo w p) (λs=>wt s List.nodup_range) λa b x h u v=>?_;obtain⟨i,_,rfl⟩:=QF.mp u;obtain⟨j,_,e⟩:=QF.mp v;exact h (List.append_inj_left' e rfl).symm
def xT {v:Type}{l:List v}(h:l.Nodup){i j:Nat}{x:v}(u:i<j)(hi:l[i]?=some x)(y:l[j]?=some x):False:=by
 obtain⟨h1,e1⟩:=Qs.mp hi;obtain⟨h2,e2⟩:=Qs.mp y;exact List.pairwise_iff_getElem.mp h i j h1 h2 u (e1.trans e2.symm)
section
variable{Z:Env}{M:Mem}{k:D->Mem->Prop}{kl:List D->Mem->Prop}
def HG {c:Int}(h:ae (w Z M) λw M=>ae (cU (c5 tg g (List.replicate n none++Z)) w [.fn (aj M.length)] (M++[[.int c]])) λacc M=>∃d,acc=[d]/\k d M):ae (kC c n tg w g Z M) k:=by
 refine aV.mpr (aM h λw M h=>aV.mpr (aM h ?_));rintro _ M ⟨d,rfl,h⟩;exact h
def Ln (h1:gk Z M=.ok x M)(h2:gv Z M=.ok y M)(e:cJ M o=some q)(hk:isKey q.1 x=true)(hl:q.2.length<1000000)(h:kl [.fn o] (M.set (o-5000) (.int q.1::putD q.2 x y))):ae (jS gk gv Z [.fn o] M) kl:=by
 unfold jS;rw[h1];show ae ((gv Z M).bind _) kl;rw[h2];show ae (match cJ M o with|some q=>if isKey q.1 x=true/\q.2.length<1000000 then Res.ok [D.fn o] (M.set (o-5000) (.int q.1::putD q.2 x y)) else .bad|none=>.bad) kl
 rw[e];show ae (if isKey q.1 x=true/\q.2.length<1000000 then Res.ok [D.fn o] (M.set (o-5000) (.int q.1::putD q.2 x y)) else .bad) kl;rw[if_pos ⟨hk,hl⟩];exact h
end
def qA (h:cV es x=none):putD es x y=es++[.tup [x,y]]:=by
 unfold putD;rw[h];rfl
section
variable{P:Nat->Option Df}{M:Mem}{m:aK}{d:aY}
def Cf (h:j=M.length):(M++[x]).set j y=M++[y]:=by
 subst h;rw[List.set_append_right _ _ (QA _),SN];rfl
def AA {n:Nat}(B:∀s M,dg m s->ah P (n+2) 24 [d.d,ak s] M=.ok (ak (bK d s)) M)(hm:aB m)(hk:k (.fn (aj M.length)) (M++[f5 m d])) :
 ae (kC 77 1 (.one 0) (cZ (aa 2)) (jS (aa 0) (ai 24 (ah P (n+2)) #[aa 1,aa 0])) [some d.d,y,some (.lst ((aU m).map ak))] M) k:=by
 refine HG ?_;simp only[kK,bx];refine{_,rfl,rfl,?_};have bl:=ib hm;have nd:=vo m.words m.places;refine gi (λi h v=>h=[.fn (aj M.length)]/\v=M++[.int 77::((aU m).take i).map λs=>.tup [ak s,ak (bK d s)]]) (λ_ _ _ _=>rfl) {rfl,`s} ?_ ?_
 ·rintro i x h v hd ⟨rfl,rfl⟩;rw[QX] at hd;cases e:(aU m)[i]? with
  |none=>rw[e] at hd;cases hd
  | some s=>
    rw[e] at hd;have hd:=Qz hd;subst hd;have hs:=i7 s (Q0 e);simp only[c5,aV,gP];refine{_,rfl,?_};have F:(M++[.int 77::((aU m).take i).map λs=>D.tup [ak s,ak (bK d s)]])[M.length]?=some (.int 77::((aU m).take i).map λs=>D.tup [ak s,ak (bK d s)]):=`s
    refine Ln rfl ((aZ (af rfl (af rfl rfl))).trans (B s _ hs)) (jn F (.inl rfl)) (wJ s) `o {rfl,?_}
    have none:cV (((aU m).take i).map λs=>.tup [ak s,ak (bK d s)]) (ak s)=Option.none:=by
     rw[lg ak λs=>ak (bK d s)];rw[SY.mpr];rfl;intro t H;rw[qh];intro z;have z:=of_decide_eq_true z;subst z;obtain⟨j,E⟩:=List.getElem?_of_mem H;have u:j<i:=by
      have:=(Qs.mp E).1;simp at this;omega
     rw[List.getElem?_take_of_lt u] at E;exact xT nd u E e
    rw[qA none];rw[show aj M.length-5000=M.length from Q7 _ _,Cf rfl,RK,e];simp
 ·rintro h v ⟨rfl,rfl⟩;rw[Qx,Ru (QA _)];exact{_,rfl,hk}
end
section
variable{Z:Env}{M:Mem}
def Iu (e:a Z M=.ok x M):dF (.one i) a Z M=.ok (.next (Z.set i (some x))) M:=by
 unfold dF;rw[e];rfl
def lK (e:s Z M=.ok xs M):bI f c s Z M=c f xs M:=by
 unfold bI;rw[e]
end
noncomputable def dU (m:aK)(L:Nat):D:=.lst ((List.range m.deeds.length).map λi=>.tup [nD (cst m i),.fn (aj (L+i))])
def q9 (e:m.deeds[i]?=some d):b3 m i=d:=by
 unfold b3;rw[RY,e];rfl
section
variable{P:Nat->Option Df}{M:Mem}{m:aK}
def Cb (u:HasB0 P)(hr:lU P)(h15:P 15=some {1,6,cf})(h151:P 151=some {1,2,eJ})(n:Nat)(hm:aB m):ah P (n+10) 151 [m.d] M=.ok (dU m M.length) (M++m.deeds.map (f5 m)):=by
 refine aq (ay h151 rfl ?_);refine bY (Iu ((lK (af rfl rfl)).trans (m8 u h15 n hm))) ?_;simp only[aF,eD,iC,kK,iw,bx,eX];refine{_,rfl,_,rfl,rfl,?_};have d6:=hm.d6;refine comp_map (λi h j=>h=(List.range i).map (λi=>.tup [nD (cst m i),.fn (aj (M.length+i))])/\j=M++(m.deeds.take i).map (f5 m)) (aH `o) (λ_ _ _ _=>rfl) {rfl,`s} ?_ ?_
 ·rintro i x h j hd _ ⟨rfl,rfl⟩;rw[QX] at hd;cases e:m.deeds[i]? with
  |none=>rw[e] at hd;cases hd
  | some d=>
    rw[e] at hd;have hd:=Qz hd;subst hd;have v:=(Qs.mp e).1;have hok:=hm.ok d (Q0 e);refine{_,rfl,?_};simp only[iU,cb,iw,bx,sZ,eX,dG];refine{_,rfl,_,rfl,nD d.cost,jR,?_};refine AA (λs M hs=>v9 hr (n+7) hm hok hs) hm {aH (n:=2) `d,?_,?_}
    ·have l:(M++(m.deeds.take i).map (f5 m)).length=M.length+i:=by simp;omega
     rw[l,List.range_succ,QP];have c:cst m i=d.cost:=by unfold cst;rw[q9 e]
     rw[<- c];rfl
    ·rw[RK,e];simp
 ·rintro h j _ ⟨rfl,rfl⟩;rw[Qx,Ru (QA _)];exact cn.mpr {aH `o,rfl,rfl}
end
section
variable{Z ρ':Env}{M M':Mem}{a b d:GE}{t rest:GS}{kf:Fl->Mem->Prop}
def fN (e:t Z M=.ok (.next ρ') M')(h:ae (rest ρ' M') kf):ae (aS t rest Z M) kf:=by
 rw[aF,e];exact h
def A4 (h:a Z M=.ok x M)(j:b Z M=.ok (.fn o) M)(e:inD M o x=some r):lC n a b Z M=.ok (.bl (n != r)) M:=by
 unfold lC;rw[h];show(b Z M).bind _=_;rw[j];show(match inD M o x with|some r=>Res.ok (D.bl (n != r)) M|none=>.bad)=_
 rw[e]
def wZ (h:a Z M=.ok (.fn o) M)(e:cJ M o=some q):lB a Z M=.ok (nD q.2.length) M:=by
 unfold lB;rw[h];show(match cJ M o with|some q=>Res.ok (D.int q.2.length) M|none=>.bad)=_
 rw[e]
def HQ (hd:d Z M=.ok z M)(h:a Z M=.ok (.fn o) M)(j:b Z M=.ok x M)(e:cJ M o=some q)(hk:isKey q.1 x=true)(hl:q.2.length<1000000):ip a b d Z M=.ok (.next Z) (M.set (o-5000) (.int q.1::putD q.2 x z)):=by
 unfold ip;rw[hd];show(a Z M).bind _=_;rw[h];show(b Z M).bind _=_;rw[j];show(match cJ M o with|some q=>if isKey q.1 x=true/\q.2.length<1000000 then Res.ok (Fl.next Z) (M.set (o-5000) (.int q.1::putD q.2 x z)) else .bad|none=>.bad)=_
 rw[e];exact if_pos ⟨hk,hl⟩
def L9 (h:a Z M=.ok (.cell j) M)(hd:d Z M=.ok z M)(e:M[j]?=some ds)(hl:ds.length<sz):d3 a d Z M=.ok (.next Z) (M.set j (ds++[z])):=by
 unfold d3;rw[h];show(d Z M).bind _=_;rw[hd];show(match M[j]? with|some ds=>if ds.length<sz then Res.ok (Fl.next Z) (M.set j (ds++[z])) else .bad|none=>.bad)=_
 rw[e];exact if_pos hl
def AZ {i j:Int}(h1:a Z M=.ok (.int i) M)(h2:b Z M=.ok (.int j) M):ao (aG .gt a b) Z M=.ok (decide (j<i)) M:=by
 refine dY (fX.mpr (g4.mpr ?_));rw[h1,bo,h2,bo];exact{_,rfl,_,rfl,rfl,rfl}
def Nk {i:Int}(ha:a Z M=.ok (.int i) M)(h1:z.length<=1000)(h2:y.length<=1000)(h3:i.natAbs<2^64):sf z y a Z M=.ok (.str (z++(toString i:Str)++y)) M:=by
 unfold sf;rw[ha];exact if_pos ⟨h1,h2,h3⟩
end
abbrev fL:=List (bb×Nat×List Nat)
set_option tactic.hygienic true in
def qV (I:Nat->Env->Mem->Prop)(X:Fl->Mem->Prop)(z:∀fl M,X fl M->∀Z,fl≠.next Z)(B:∀i Z M,I i Z M->w M=some ds)(v:∀fl M,X fl M->w M=some ds)(y:I 0 Z M)
 (hs:∀i d Z M,ds[i]?=some d->I i Z M->∃ρ1,bU t d Z=some ρ1/\ae (gb ρ1 M) λfl M=>(∃ρ',fl=.next ρ'/\I (i+1) ρ' M)\/X fl M) (hk:∀Z M,I ds.length Z M->kf (.next Z) M) (E:∀fl M,X fl M->kf fl M) :
 ae (cU (fY t gb) w (.next Z) M) kf:=by
 refine gi (λi fl M=>(∃Z,fl=.next Z/\I i Z M)\/X fl M) (λi fl M h=>h.elim (λ⟨Z,_,h⟩=>B i Z M h) λh=>v fl M h) (.inl ⟨Z,rfl,y⟩) ?_ ?_
 ·rintro i d fl M hd (⟨Z,rfl,u⟩|j)
  ·obtain⟨ρ1,e,h⟩:=hs i d Z M hd u;simp only[fY,aV,gP,e];exact⟨ρ1,rfl,h⟩
  ·cases fl with
   |next Z=>exact absurd rfl (z _ _ j Z)
   |ret d=>exact .inr j
   |exc x Z=>exact .inr j
 ·rintro fl M (⟨Z,rfl,u⟩|j)
  ·exact hk Z M u
  ·exact E fl M j
structure NW (p:Nat) (E0:fL) (S:bb->Prop) (N:fL):Prop where
 nd:((E0++N).map (·.1)).Nodup
 fr:∀x∈N,S x.1/\x.2.1=p/\x.2.2.length<=p
 al:∀b,S b->b∈(E0++N).map (·.1)
def sJ (p:Nat)(E0:fL)(S:bb->Prop):Prop:=∃N:fL,((E0++N).map (·.1)).Nodup/\(∀x∈N,S x.1/\x.2.1=p)/\255<(E0++N).length
def sJ.mono (h:sJ p E0 S)(hs:∀b,S b->S' b):sJ p E0 S':=let⟨N,h1,h2,h3⟩:=h;{N,h1,λx j=>{hs _ (h2 x j).1,(h2 x j).2},h3}
def NW.old (h:NW p E0 S N)(hs:∀x,S' x↔S x\/x=b)(u:∃e∈E0++N,e.1=b):NW p E0 S' N:=
 {h.nd,λx j=>{(hs _).mpr (.inl (h.fr x j).1),(h.fr x j).2},λc v=>by
  rcases(hs c).mp v with z|z
  ·exact h.al c z
  ·obtain⟨e,he,y⟩:=u;rw[z,<- y];exact Ra he}
def NW.new (h:NW p E0 S N)(hs:∀x,S' x↔S x\/x=b)(v:∀e∈E0++N,e.1≠b)(hr:r.length<=p):NW p E0 S' (N++[(b,p,r)]):=by
 refine{?_,λx j=>?_,λc B=>?_}
 ·rw[<- RA,QP,Sg];refine{h.nd,`s,λx j y u e=>?_}
  obtain⟨z,E,rfl⟩:=QF.mp j;have u:y=b:=by simpa using u
  exact v z E (e.trans u)
 ·rcases QR.mp j with z|z
  ·exact{(hs _).mpr (.inl (h.fr x z).1),(h.fr x z).2}
  ·obtain rfl:=QN.mp z;exact{(hs _).mpr (.inr rfl),rfl,hr}
 ·rw[<- RA,QP];rcases(hs c).mp B with z|z
  ·exact RD _ (h.al c z)
  ·exact Rb _ (by rw[z];exact QN.mpr rfl)
def vF (M:Mem)(fk:Nat)(x:D)(A:List bb):Prop:=x=.lst (A.map bD)\/∃c,x=.cell c/\c≠fk/\M[c]?=some (A.map bD)
def wY:∀{k i:Nat}{d:D},(fj k ds)[i]?=some d->∃x,ds[i]?=some x/\d=.tup [nD (k+i),x]:=by
 induction ds with
 |nil=>intro k i d h;simp[fj] at h
 | cons a ds j=>
   intro k i d h;cases i with
   |zero=>cases h;exact⟨a,rfl,rfl⟩
   | succ i=>
     obtain⟨x,h1,h2⟩:=j h;exact{x,h1,by rw[h2,Sy,Nat.add_comm 1 i]}
def lF:∀{ds:List D}{k:Nat},(fj k ds).length=ds.length
 |[],_=>rfl
 |_::ds,k=>by show(fj (k+1) ds).length+1=ds.length+1;rw[lF]
def i1 (m:aK)(p:Nat)(Ls:Nat->List bb)(i:Nat):List bb:=if cst m i<=p then Ls (p-cst m i) else []
def jF (m:aK)(p:Nat)(Ls:Nat->List bb)(i:Nat)(b:bb):Prop:=∃h,h<i/\b∈(i1 m p Ls h).map (bc m h)
noncomputable def pr (e:bb×Nat×List Nat):bb×Nat:=(e.1,e.2.1)
section
variable{m:aK}{p:Nat}{E0 N:fL}{Ls:Nat->List bb}
def gr (E:fL):(E.map pr).map (·.1)=E.map (·.1):=by rw[RO];rfl
set_option tactic.hygienic true in
def ve (hm:aB m)(u:∀q,q<p->∀b,b∈Ls q↔bq m q b)(b:bb):jF m p Ls m.deeds.length b↔∃i j,i<m.deeds.length/\cst m i<=p/\bq m (p-cst m i) j/\b=bc m i j:=by
 constructor
 ·rintro⟨i,v,h⟩;have c:=g5 hm v;obtain⟨j,y,rfl⟩:=QF.mp h;unfold i1 at y;split at y
  ·next z=>exact{i,j,v,z,(u _ `a j).mp y,rfl}
  ·exact nomatch y
 ·rintro⟨i,j,v,z,hl,rfl⟩;have c:=g5 hm v;refine{i,v,Ra ?_};unfold i1;rw[if_pos z];exact(u _ `a j).mpr hl
def n6 (hm:aB m)(v:0<p)(h:∀q,q<p->∀b,b∈Ls q↔bq m q b)(j:cm m p (E0.map pr))(nd:((E0++N).map (·.1)).Nodup)(B:x∈N)(u:jF m p Ls m.deeds.length x.1):bq m p x.1:=by
 refine(gU hm v).mpr {(ve hm h _).mp u,λq y hl=>?_};have z:=j.all q x.1 y hl;have E:x.1∈E0.map (·.1):=by rw[<- gr];exact Ra z
 rw[QP,Sg] at nd;exact nd.2.2 _ E _ (Ra B) rfl
def Hm (hm:aB m)(E:0<p)(v:∀q,q<p->∀b,b∈Ls q↔bq m q b)(B:cm m p (E0.map pr))(u:NW p E0 (jF m p Ls m.deeds.length) N):cm m (p+1) ((E0++N).map pr)/\∀b,b∈N.map (·.1)↔bq m p b:=by
 have fl:=λx j=>n6 hm E v B u.nd j (u.fr x j).1;have back:∀b,bq m p b->∃x∈N,x.1=b:=λb hl=>by
  have F:=(ve hm v b).mpr ((gU hm E).mp hl).1;obtain⟨x,j,e⟩:=QF.mp (u.al b F);rcases QR.mp j with z|z
  ·have s:=B.sound (pr x) (Ra z);have s1:=e ▸ s.1;have:=pO s1 hl;omega
  ·exact⟨x,z,e⟩
 refine{{by rw[gr];exact u.nd,λy H=>?_,λq b I hl=>?_},λb=>{λh=>?_,λh=>?_}}
 ·obtain⟨x,j,rfl⟩:=QF.mp H;rcases QR.mp j with z|z
  ·have s:=B.sound (pr x) (Ra z);exact{s.1,Sf s.2}
  ·have e:x.2.1=p:=(u.fr x z).2.1;exact{by show bq m x.2.1 x.1;rw[e];exact fl x z,by show x.2.1<p+1;omega}
 ·rcases Sa q p with z|z
  ·rw[QP];exact RD _ (B.all q b z hl)
  ·have:q=p:=`a
   subst this;obtain⟨x,j,rfl⟩:=back b hl;rw[QP];refine Rb _ (QF.mpr {x,j,?_});show(x.1,x.2.1)=_;rw[(u.fr x j).2.1]
 ·obtain⟨x,j,rfl⟩:=QF.mp h;exact fl x j
 ·obtain⟨x,j,rfl⟩:=back b h;exact Ra j
def CF (hm:aB m)(u:0<p)(h:∀q,q<p->∀b,b∈Ls q↔bq m q b)(j:cm m p (E0.map pr))(E:sJ p E0 (jF m p Ls m.deeds.length)):j9 m (p+1):=by
 obtain⟨N,nd,fr,hl⟩:=E;refine{(E0++N).map pr,by rw[gr];exact nd,λy B=>?_,by rw[Qx];exact hl}
 obtain⟨x,v,rfl⟩:=QF.mp B;rcases QR.mp v with z|z
 ·have s:=j.sound (pr x) (Ra z);exact{s.1,Sf s.2}
 ·have e:x.2.1=p:=(fr x z).2;exact{by show bq m x.2.1 x.1;rw[e];exact n6 hm u h j nd z (fr x z).1,by show x.2.1<p+1;omega}
def j9.mono (h:j9 m p)(u:p<=q):j9 m q:=let⟨l,h1,h2,h3⟩:=h;{l,h1,λx j=>{(h2 x j).1,QL (h2 x j).2 u},h3}
end
noncomputable def lsN (Ls:Nat->List bb)(p:Nat)(A:List bb):Nat->List bb:=λq=>if q=p then A else Ls q
set_option tactic.hygienic true in
def yU {c:GT}{b:GS}{y:Fl->Mem->Prop}(I:Nat->Env->Mem->Prop)
 (hs:∀k Z M,I k Z M->ae (c Z M) λv M1=>(v=false->y (.next Z) M1)/\(v=true->∃k',k=k'+1/\ae (b Z M1) λfl j=>(∃ρ',fl=.next ρ'/\I k' ρ' j)\/((∀ρ',fl≠.next ρ')/\y fl j))) :
 ∀(n k:Nat) (Z:Env) (M:Mem),k<n->I k Z M->ae (kc c b n Z M) y:=by
 intro n;induction n with
 |zero=>intro k Z M h;exact absurd h (Sh _)
 | succ n E=>
   intro k Z M h B;unfold kc;refine aV.mpr (aM (hs k Z M B) λv M1 ⟨h1,h2⟩=>?_);cases v with
   |false=>exact h1 rfl
   | true=>
     obtain⟨k',rfl,h3⟩:=h2 rfl;rw[if_pos rfl];refine aV.mpr (aM h3 λfl j h4=>?_);rcases h4 with⟨ρ',rfl,u⟩|⟨u,z⟩
     ·exact E k' ρ' j `a u
     ·cases fl with
      |next ρ'=>exact absurd rfl (u ρ')
      |ret d=>exact z
      |exc x ρ'=>exact z
def oA {c:GT}{b:GS}{Z:Env}{M:Mem}{j:Fl->Mem->Prop}(I:Nat->Env->Mem->Prop)
 (hs:∀k Z M,I k Z M->ae (c Z M) λv M1=>(v=false->j (.next Z) M1)/\(v=true->∃k',k=k'+1/\ae (b Z M1) λfl u=>(∃ρ',fl=.next ρ'/\I k' ρ' u)\/((∀ρ',fl≠.next ρ')/\j fl u))) {k:Nat} (hk:k<100000) (h:I k Z M):ae (iz c b Z M) j:=yU I hs 100000 k Z M hk h
section
variable{M:Mem}{m:aK}{L0 lv fk p:Nat}{E0:fL}{lvs:List D}{Ls:Nat->List bb}{Z:Env}
def KJ {x:D}{A:List bb}(h:vF M fk x A):oq M x=some (!A.isEmpty):=by
 rcases h with rfl|⟨c,rfl,_,e⟩
 ·show some (!(A.map bD).isEmpty)=_;rw[List.isEmpty_map]
 ·show(M[c]?).map (λxs=>!xs.isEmpty)=_;rw[e];show some (!(A.map bD).isEmpty)=_;rw[List.isEmpty_map]
theorem vS {M:Mem}{g:Nat->Bool}:∀{l:List D}{k:Nat},(∀i x,l[i]?=some x->oq M x=some (g (k+i)))->jG M l=some ((List.range l.length).map λi=>g (k+i))
 |[],_,_=>rfl
 | a::l,k,h=>by
   show(oq M a).bind (λb=>(jG M l).map (b::·))=_;have j:=h 0 a rfl;have h1:=vS (l:=l) (k:=k+1) (M:=M) (g:=g) λi x u=>by
    have:=h (i+1) x u;rw[this,Sy,Nat.add_comm 1 i]
   rw[j,h1,Rx,List.range_succ_eq_map,Ry,RO];show some (g (k+0)::_)=_
   congr 2
   refine SR λi _=>?_;show g (k+1+i)=g (k+(i+1));rw[Sy,Nat.add_comm 1 i]
end
section
variable{Z:Env}{M M':Mem}{kf:Fl->Mem->Prop}
def Ir (e:a Z M=.ok x M'):dF (.one i) a Z M=.ok (.next (Z.set i (some x))) M':=by
 unfold dF;rw[e];rfl
def jy (e:a Z M=.ok x M'):az (.one i) a Z M=.ok (.next (Z.set i (some x))) M':=by
 unfold az;rw[e];rfl
def Iw (u:a Z M=.ok (.cell j) M)(h:dS (d Z M) (λz M1=>∃ds,M1[j]?=some ds/\ds.length<sz/\kf (.next Z) (M1.set j (ds++[z]))) (λx M1=>kf (.exc x Z) M1)):ae (ni a d Z M) kf:=by
 unfold ni;rw[u];show ae (qp (λz M=>match M[j]? with|some ds=>if ds.length<sz then Res.ok (Fl.next Z) (M.set j (ds++[z])) else .bad|none=>.bad) Z (d Z M)) kf
 cases e:d Z M with
 |bad=>rw[e] at h;exact h.elim
 |err x M1=>rw[e] at h;exact h
 | ok z M1=>
   rw[e] at h;obtain⟨ds,e1,hl,h⟩:=h;show ae (match M1[j]? with|some ds=>if ds.length<sz then Res.ok (Fl.next Z) (M1.set j (ds++[z])) else .bad|none=>.bad) kf
   rw[e1];show ae (if ds.length<sz then Res.ok (Fl.next Z) (M1.set j (ds++[z])) else .bad) kf
   rw[if_pos hl];exact h
end
noncomputable def oW {α:Type}(k:α->bb)(v:α->D)(E:List α):List D:=.int 78::E.map λe=>.tup [bD (k e),v e]
section
variable{α:Type}{k:α->bb}{v:α->D}{E:List α}{M:Mem}{j:Nat}{b:bb}{x:α}
def qZ:cV (E.map λe=>.tup [bD (k e),v e]) (bD b)=(E.find? λe=>decide (k e=b)).map v:=by
 refine(lg (λe=>bD (k e)) v E (bD b)).trans ?_
 congr 2
 funext x
 exact Fp _ b
def p7 (e:M[j]?=some (oW k v E)):cJ M (aj j)=some (78,E.map λe=>.tup [bD (k e),v e]):=jn e (.inr rfl)
def Nq (e:M[j]?=some (oW k v E)):inD M (aj j) (bD b)=some (E.any λe=>decide (k e=b)):=by
 unfold inD;rw[p7 e];show(if isKey 78 (bD b)=true then some (cV _ (bD b)).isSome else none)=_;rw[if_pos (ny b),qZ,Sw]
 congr 1
 rw[RT,List.find?_isSome,R8]
def LI (hn:∀e∈E,k e≠b):putD (E.map λe=>.tup [bD (k e),v e]) (bD b) z=(E.map λe=>.tup [bD (k e),v e])++[.tup [bD b,z]]:=by
 refine qA ?_;rw[qZ,SY.mpr];rfl;exact λx h e=>hn x h (of_decide_eq_true e)
theorem w5:∀{E:List α},(E.map k).Nodup->∀{x:α},x∈E->(E.find? λe=>decide (k e=k x))=some x
 |[],_,_,h=>nomatch h
 | a::E,nd,x,h=>by
   rw[Ry,RE] at nd;rw[List.find?_cons];by_cases e:k a=k x
   ·rw[decide_eq_true e];rcases Rg.mp h with z|z
    ·rw[z]
    ·exact absurd (by rw[e];exact Ra z) nd.1
   ·rw[decide_eq_false e];rcases Rg.mp h with z|z
    ·exact absurd (by rw[z]) e
    ·exact w5 nd.2 z
def u1 (e:M[j]?=some (oW k v E))(nd:(E.map k).Nodup)(h:x∈E):getD M (aj j) (bD (k x))=some (v x):=by
 unfold getD;rw[p7 e];show(if isKey 78 (bD (k x))=true then cV _ (bD (k x)) else none)=_;rw[if_pos (ny _),qZ,w5 nd h];rfl
def HP {a b d:GE}{x z:D}(hd:d Z M=.ok z M1)(h:a Z M1=.ok (.fn o) M1)(u:b Z M1=.ok x M1)(e:cJ M1 o=some q)(hk:isKey q.1 x=true)(hl:q.2.length<1000000):ip a b d Z M=.ok (.next Z) (M1.set (o-5000) (.int q.1::putD q.2 x z)):=by
 unfold ip;rw[hd];show(a Z M1).bind _=_;rw[h];show(b Z M1).bind _=_;rw[u];show(match cJ M1 o with|some q=>if isKey q.1 x=true/\q.2.length<1000000 then Res.ok (Fl.next Z) (M1.set (o-5000) (.int q.1::putD q.2 x z)) else .bad|none=>.bad)=_
 rw[e];exact if_pos ⟨hk,hl⟩
def Dm {M1:Mem}{a b d:GE}(hd:d Z M=.ok (v x) M1)(h:a Z M1=.ok (.fn (aj j)) M1)(u:b Z M1=.ok (bD (k x)) M1)(e:M1[j]?=some (oW k v E))(hl:E.length<1000000)(hn:∀e∈E,k e≠k x):ip a b d Z M=.ok (.next Z) (M1.set j (oW k v (E++[x]))):=by
 rw[HP hd h u (p7 e) (ny _) (by rw[Qx];exact hl),show aj j-5000=j from Q7 _ _,LI hn]
 unfold oW;rw[QP];rfl
def Ma (h:(true != E.any λe=>decide (k e=b))=true):∀e∈E,k e≠b:=λe he z=>by
 rw[show(E.any λe=>decide (k e=b))=true from R8.mpr {e,he,decide_eq_true z}] at h;cases h
def Iy (h:(true != E.any λe=>decide (k e=b))=false):∃e∈E,k e=b:=by
 cases z:(E.any λe=>decide (k e=b)) with
 | true=>
   obtain⟨e,he,y⟩:=R8.mp z;exact{e,he,of_decide_eq_true y}
 |false=>rw[z] at h;cases h
end
def eV (m:aK)(r:List Nat)(b:bb)(q:Nat):Prop:=(∀i∈r,i<m.deeds.length)/\ends m r=b/\cD m r=q
section
variable{m:aK}{r:List Nat}{b:bb}{q i:Nat}
def eV.nil:eV m [] (aU m) 0:={(λ_ h=>nomatch h),List.map_id _,rfl}
def eV.snoc (h:eV m r b q)(hi:i<m.deeds.length):eV m (r++[i]) (bc m i b) (q+cst m i):=by
 refine{λk hk=>?_,?_,?_}
 ·rcases QR.mp hk with z|z
  ·exact h.1 k z
  ·rw[QN.mp z];exact hi
 ·rw[<- h.2.1];unfold ends bc;rw[RO];exact SR λs _=>oV r [i] s
 ·rw[<- h.2.2];show((r++[i]).map _).sum=_;rw[QP,List.sum_append];rfl
def u9 (hm:aB m):∀r:List Nat,(∀i∈r,i<m.deeds.length)->r.length<=cD m r
 |[],_=>RU _
 | a::r,h=>by
   have c:=(g5 hm (h a QS)).1;have t:=u9 hm r λi u=>h i (QD _ u);show r.length+1<=cst m a+cD m r;omega
def eV.len (hm:aB m)(h:eV m r b q):r.length<=q:=h.2.2 ▸ u9 hm r h.1
def eV.rch (h:eV m r b q):jA m q b:=by
 obtain⟨h1,rfl,rfl⟩:=h
 suffices z:∀(u:List Nat),(∀i∈u,i<m.deeds.length)->∀(b:bb) (q:Nat),jA m q b->jA m (q+cD m u) (b.map (bu m u)) by
  have:=z r h1 (aU m) 0 .start;rw[Nat.zero_add] at this;exact this
 intro u;induction u with
 |nil=>intro _ b q h;rw[show b.map (bu m [])=b from List.map_id b];exact h
 | cons a u B=>
   intro h1 b q h;have:=B (λi y=>h1 i (QD _ y)) _ _ (h.step (h1 a QS));rw[show cD m (a::u)=cst m a+cD m u from rfl,<- Sy];rw[show b.map (bu m (a::u))=(bc m a b).map (bu m u) from by unfold bc;rw[RO];rfl]
   exact this
end
abbrev F3:=List (bb×Nat×Nat)
noncomputable def vC (e:bb×Nat×Nat):D:=.tup [nD e.2.1,.cell e.2.2]
def lD (E:F3):List D:=oW (·.1) vC E
def un (E:F3):fL:=E.map λe=>(e.1,e.2.1,[])
def qr (E:F3):(un E).map (·.1)=E.map (·.1):=by unfold un;rw[RO];rfl
def l9 (E N:F3):un (E++N)=un E++un N:=QP
def IT (E:F3):(un E).length=E.length:=Qx _
def y3:(∃e∈un E,e.1=b)↔∃e∈E,e.1=b:=by
 constructor
 ·rintro⟨x,h,rfl⟩;obtain⟨e,he,rfl⟩:=QF.mp h;exact⟨e,he,rfl⟩
 ·rintro⟨e,he,rfl⟩;exact{_,Ra he,rfl}
structure ka (B0:Nat) (M0 M:Mem) (m:aK) (lv fk:Nat) (E:F3) (L:List bb):Prop where
 f:M[fk]?=some (lD E)
 fl:fk<M0.length
 ll:lv<M0.length
 lo:B0<=M0.length
 l:M[M0.length]?=some (L.map bD)
 r:∀e∈E,(∃r,M[e.2.2]?=some (r.map nD)/\eV m r e.1 e.2.1)/\e.2.2≠fk/\e.2.2≠M0.length/\e.2.2≠lv/\B0<=e.2.2
 k:aX fk M0 M
 nd:(E.map (·.1)).Nodup
def uw (c:Call):GS:=#v[az (.one 10) (ai 152 c #[aa 7,aa 9]),aN (ao (lC true (aa 10) (aa 2))) #v[ip (aa 2) (aa 10) (bW #[aa 3,au true .add (aw (iu (aa 2) (aa 9)) (gI 1)) (aT false #[aa 5])]),d3 (aa 4) (aa 10),aN (ao (aG .gt (lB (aa 2)) (gI 255))) #v[dQ 8 #[sf "rows have more than " " behaviours" (gI 255)]] aE] aE]
def fu {M:Mem}(e:M[k]?=some x):k<M.length:=(Qs.mp e).1
def dA (h:a Z M=.ok x M1)(es:s Z M1=.ok xs M2):c6 a s Z M=.ok (x::xs) M2:=by
 unfold c6;rw[h];show(s Z M1).bind _=_;rw[es];rfl
def Im (h:a Z M=.ok x M)(j:b Z M=.ok y M):au k o a b Z M=fP k o x y M:=by
 unfold au;rw[h];show(b Z M).bind _=_;rw[j];rfl
def zp (e:s Z M=.ok xs M1)(hl:xs.length<=100):bW s Z M=.ok (.tup xs) M1:=by
 unfold bW;rw[e];exact if_pos (aH `a)
section
variable{P:Nat->Option Df}{M0 M:Mem}{m:aK}{lk lv fk p i B0:Nat}{E:F3}{L:List bb}{b:bb}{x0 x1 x6 x8 x10:Option D}
def LY (h152:P 152=some {2,2,eT})(n:Nat)(hm:aB m)(hE:E.length<=255)(s:ka B0 M0 M m lv fk E L)(hL:L.length<=255)(Y:M[lk]?=some (f5 m (b3 m i)))(hp:p<=900)(hi:i<m.deeds.length)
 (hl:b.length<=16) (hb:∀s∈b,dg m s) (O:∃e∈E,e.1=b/\e.2.1+cst m i=p) :
 ae (uw (ah P (n+1)) [x0,x1,some (.fn (aj fk)),some (nD p),some (.cell M0.length),some (nD i),x6,some (.fn (aj lk)),x8,some (bD b),x10] M) λfl M'=>
  ((∃e∈E,e.1=bc m i b)/\M'=M/\fl=.next [x0,x1,some (.fn (aj fk)),some (nD p),some (.cell M0.length),some (nD i),x6,some (.fn (aj lk)),x8,some (bD b),some (bD (bc m i b))])\/
  ((∀ e ∈ E,e.1 ≠ bc m i b) /\ ∃ c,ka B0 M0 M' m lv fk (E++[(bc m i b,p,c)]) (L++[bc m i b]) /\
    ((E.length < 255 /\ fl = .next [x0,x1,some (.fn (aj fk)),some (nD p),some (.cell M0.length),some (nD i),x6,some (.fn (aj lk)),x8,some (bD b),some (bD (bc m i b))]) \/
     (E.length=255/\∃Z,fl=.exc (.exc 8 none) Z))):=by
 refine bY (cg (x:=bD (bc m i b)) ((aZ (af rfl (af rfl rfl))).trans (Jp h152 n Y hm hl hb))) ?_;refine bN (b5 (A4 rfl rfl (Nq s.f))) (λI=>?_) λI=>.inl {Iy I,rfl,rfl};have B:=Ma I;obtain⟨e,he,S,ep⟩:=O;obtain⟨⟨r,er,ro⟩,_⟩:=s.r e he;have hr:=ro.len hm;have u:=fu s.l;have U:=u1 s.f s.nd he;rw[S] at U;have e1:(M++[(r++[i]).map nD])[fk]?=some (lD E):=by rw[QB (fu s.f)];exact s.f
 have ev:bW #[aa 3,au true .add (aw (iu (aa 2) (aa 9)) (gI 1)) (aT false #[aa 5])] [x0,x1,some (.fn (aj fk)),some (nD p),some (.cell M0.length),some (nD i),x6,some (.fn (aj lk)),x8,some (bD b),some (bD (bc m i b))] M=.ok (vC (bc m i b,p,M.length)) (M++[(r++[i]).map nD]):=by
  refine zp (dA rfl (dA ?_ rfl)) (Q9 rfl);refine(Im (bt (uT (x:=.non) rfl rfl U) rfl rfl) (fS (af rfl rfl) (Q9 rfl))).trans ?_;show(match M[e.2.2]?,(some [nD i]:Option (List D)) with|some x,some y=>ba true (x++y) M|_,_=>.bad)=_
  rw[er];show(if (r.map nD++[nD i]).length<=sz then _ else _)=_;rw[if_pos (aH `o),QP];rfl
 refine fN (M':=(M++[(r++[i]).map nD]).set fk (lD (E++[(bc m i b,p,M.length)]))) (Dm ev rfl rfl e1 `a B) ?_
 have W:=Q1 s.fl;have F:((M++[(r++[i]).map nD]).set fk (lD (E++[(bc m i b,p,M.length)])))[M0.length]?=some (L.map bD):=by rw[Qv W,QB u];exact s.l
 refine fN (L9 rfl rfl F (by rw[Qx];exact RW hL `d)) ?_
 generalize v:((M++[(r++[i]).map nD]).set fk (lD (E++[(bc m i b,p,M.length)]))).set M0.length (L.map bD++[bD (bc m i b)])=M';have old:∀{j:Nat}{x:List D},j≠fk->j≠M0.length->M[j]?=some x->M'[j]?=some x:=λ{j x} h1 h2 e=>by
  rw[<- v,Qv (RF h2),Qv (RF h1),QB (fu e)];exact e
 have s2:ka B0 M0 M' m lv fk (E++[(bc m i b,p,M.length)]) (L++[bc m i b]):=by
  refine{?_,s.fl,s.ll,s.lo,?_,λX J=>?_,{?_,λj hj n=>?_},?_}
  ·rw[<- v,Qv (RF W),QI (by simp;exact Sf (fu s.f))]
  ·rw[<- v,QI `o,QP];rfl
  ·rcases QR.mp J with z|z
   ·obtain⟨⟨r',H,R⟩,k1,k2,k3⟩:=s.r X z;exact{{r',old k1 k2 H,R},k1,k2,k3}
   ·obtain rfl:=QN.mp z;refine{{r++[i],?_,?_},Rn (fu s.f),Rn u,Rn (Nat.lt_trans s.ll u),QH s.lo (Sk u)}
    ·rw[<- v,Qv (Q1 u),Qv (Q1 (fu s.f))];simp
    ·have:=ro.snoc hi;rw[ep,S] at this;exact this
  ·rw[<- v];have:=s.k.len;simp;omega
  ·rw[<- v,Qv `a,Qv (RF n),QB `a];exact s.k.at' j hj n
  ·rw[QP,Sg];exact{s.nd,`s,λx hx y Q z=>by
    obtain⟨w,hw,rfl⟩:=QF.mp hx;have Q:y=bc m i b:=by simpa using Q
    exact B w hw (z.trans Q)}
 refine bN (AZ (wZ rfl (p7 s2.f)) rfl) (λh=>?_) λh=>?_
 ·have h:=of_decide_eq_true h;simp only[aF,Ci];refine cb.mpr ?_;rw[Nk rfl `d `d `d,bo]
  refine{aH `d,.inr {B,_,s2,.inr {?_,_,rfl}}}
  simp at h;omega
 ·have h:=of_decide_eq_false h;refine .inr {B,_,s2,.inl {?_,rfl}};simp at h;omega
end
section
variable{P:Nat->Option Df}{M0 M:Mem}{m:aK}{lk lv fk p i B0:Nat}{E0:F3}{A:List bb}{x8:D}{S:bb->Prop}{x0 x1 x6 x9 x10:Option D}
def wB (h:vF M0 fk x8 A)(k:aX fk M0 M):bL M x8=some (A.map bD):=by
 rcases h with rfl|⟨c,rfl,j,e⟩
 ·rfl
 ·exact k.get e j
def Hu (h152:P 152=some {2,2,eT})(n:Nat)(hm:aB m)(hi:i<m.deeds.length)(ek:M0[lk]?=some (f5 m (b3 m i)))(hk:lk≠fk)(R:vF M0 fk x8 A)(U:∀b∈A,∃e∈E0,e.1=b/\e.2.1+cst m i=p)(hok:∀b∈A,b.length<=16/\∀s∈b,dg m s)(hp:p<=900)
 (s:ka B0 M0 M m lv fk (E0++N) (N.map (·.1))) (h:NW p (un E0) S (un N)) (hl:(E0++N).length<=255)
 (k1:∀M' u J v,ka B0 M0 M' m lv fk (E0++u) (u.map (·.1))->NW p (un E0) (λb=>S b\/b∈A.map (bc m i)) (un u)->(E0++u).length<=255->kf (.next [x0,x1,some (.fn (aj fk)),some (nD p),some (.cell M0.length),some (nD i),x6,some (.fn (aj lk)),some x8,J,v]) M')
 (k2:∀Z M',aX fk M0 M'->sJ p (un E0) (λb=>S b\/b∈A.map (bc m i))->kf (.exc (.exc 8 none) Z) M') :
 ae (cM (.one 9) (cZ (aa 8)) (uw (ah P (n+1))) [x0,x1,some (.fn (aj fk)),some (nD p),some (.cell M0.length),some (nD i),x6,some (.fn (aj lk)),some x8,x9,x10] M) kf:=by
 simp only[gK,kK,bx];refine{_,rfl,by rcases R with rfl|⟨c,rfl,_⟩<;>rfl,?_}
 refine qV (ds:=A.map bD) (λj Z M'=>∃u J v,ka B0 M0 M' m lv fk (E0++u) (u.map (·.1))/\NW p (un E0) (λb=>S b\/b∈(A.take j).map (bc m i)) (un u)/\(E0++u).length<=255/\Z=[x0,x1,some (.fn (aj fk)),some (nD p),some (.cell M0.length),some (nD i),x6,some (.fn (aj lk)),some x8,J,v])
  (λfl M'=>(∃Z,fl=.exc (.exc 8 none) Z)/\aX fk M0 M'/\sJ p (un E0) (λb=>S b\/b∈A.map (bc m i))) ?_ ?_ ?_ {N,x9,x10,s,?_,hl,rfl} ?_ ?_ ?_
 ·rintro fl M' ⟨⟨Z,rfl⟩,_⟩ ρ' z;cases z
 ·rintro j Z M' ⟨u,_,_,I,_⟩;exact wB R I.k
 ·rintro fl M' ⟨_,k,_⟩;exact wB R k
 ·exact{h.nd,λx F=>{.inl (h.fr x F).1,(h.fr x F).2},λb L=>L.elim (h.al b) λz=>by simp at z}
 ·rintro j x Z M' hd ⟨u,J,v,I,Q,B,rfl⟩;rw[QX] at hd;cases e:A[j]? with
  |none=>rw[e] at hd;cases hd
  | some b=>
    rw[e] at hd;have hd:=Qz hd;subst hd;have L:=Q0 e;refine{_,rfl,?_};obtain⟨e0,W,eb,ep⟩:=U b L;have H:∀x,(S x\/x∈(A.take (j+1)).map (bc m i))↔((S x\/x∈(A.take j).map (bc m i))\/x=bc m i b):=λx=>by
     rw[RK,e];simp[or_assoc]
    have O:∀x,(S x\/x∈(A.take (j+1)).map (bc m i))->(S x\/x∈A.map (bc m i)):=λx F=>F.imp id λz=>by
     obtain⟨y,hy,rfl⟩:=QF.mp z;exact Ra (Rz hy)
    refine aM (LY h152 n hm B I (by rw[Qx];simp at B;omega) (I.k.get ek hk) hp hi (hok b L).1 (hok b L).2 {e0,RD _ W,eb,ep}) ?_
    rintro fl M' (⟨hin,rfl,rfl⟩|⟨hno,c,s2,hh⟩)
    ·exact .inl {_,rfl,u,_,_,I,Q.old H (by rw[<- l9];exact y3.mpr hin),B,rfl}
    ·have E:=Q.new H (r:=[]) (λx F z=>by
      rw[<- l9] at F;obtain⟨e2,X,z2⟩:=y3.mp ⟨x,F,z⟩;exact hno e2 X z2) (RU _)
     rw[show un u++[(bc m i b,p,[])]=un (u++[(bc m i b,p,c)]) from(l9 u [(bc m i b,p,c)]).symm] at E;rw[RA,show u.map (·.1)++[bc m i b]=(u++[(bc m i b,p,c)]).map (·.1) from by rw[QP];rfl] at s2
     rcases hh with⟨hlt,rfl⟩|⟨Y,Z,rfl⟩
     ·exact .inl {_,rfl,_,_,_,s2,E,by simp at hlt ⊢;omega,rfl}
     ·exact .inr {{_,rfl},s2.k,_,E.nd,λx F=>{O _ (E.fr x F).1,(E.fr x F).2.1},by rw[<- l9,IT];simp at Y ⊢;omega}
 ·rintro Z M' ⟨u,J,v,I,Q,B,rfl⟩;rw[Qx,Ru (QA _)] at Q;exact k1 M' u J v I Q B
 ·rintro fl M' ⟨⟨Z,rfl⟩,k,ov⟩;exact k2 Z M' k ov
end
structure lT (B0:Nat) (M:Mem) (m:aK) (L0 lv fk:Nat) (E:F3) (lvs:List D) (p:Nat) (Ls:Nat->List bb):Prop where
 f:M[fk]?=some (lD E)
 l:M[lv]?=some lvs
 ne:lv≠fk
 len:lvs.length=p
 lvl:∀q x,lvs[q]?=some x->vF M fk x (Ls q)
 led:∀i,i<m.deeds.length->M[L0+i]?=some (f5 m (b3 m i))/\L0+i≠fk/\L0+i≠lv
 lvn:∀(q c:Nat),lvs[q]?=some (D.cell c)->c≠lv
 row:∀e∈E,(∃r,M[e.2.2]?=some (r.map nD)/\eV m r e.1 e.2.1)/\e.2.2≠fk/\e.2.2≠lv/\B0<=e.2.2
 lo:B0<=fk
 lss:∀q,q<p->∀b,b∈Ls q↔bq m q b
 all:cm m p ((un E).map pr)
 few:E.length<=255
def Ez (c:Call):GS:=#v[az (.one 8) (eP (ao (aG .le (aa 6) (aa 3))) (aw (aa 1) (au false .sub (aa 3) (aa 6))) (aT false bH)),cM (.one 9) (cZ (aa 8)) (uw c)]
section
variable{P:Nat->Option Df}{M:Mem}{m:aK}{L0 lv fk p B0:Nat}{E0:F3}{lvs:List D}{Ls:Nat->List bb}
set_option tactic.hygienic true in
def B9 (hbn:∀c,bn c=#v[az (.one 3) (aL .len #[aa 1]),az (.one 4) (aT true bH),cM (.two 5 [6,7]) (gZ (aa 0)) (Ez c),aI (aa 4)])(h152:P 152=some {2,2,eT})(hnx:P nx=some {3,11,bn})(n:Nat)(hm:aB m)(hp:p<=900)(s:lT B0 M m L0 lv fk E0 lvs p Ls) :
 dS (ah P (n+2) nx [dU m L0,.cell lv,.fn (aj fk)] M) (λd M'=>d=.cell M.length/\∃N,ka B0 M M' m lv fk (E0++N) (N.map (·.1))/\NW p (un E0) (jF m p Ls m.deeds.length) (un N)/\(E0++N).length<=255)
  (λx M'=>x=.exc 8 none/\sJ p (un E0) (jF m p Ls m.deeds.length)/\aX fk M M'):=by
 refine lJ hnx rfl ?_;show ae (bn (ah P (n+1)) [some (dU m L0),some (.cell lv),some (.fn (aj fk)),none,none,none,none,none,none,none,none] M) _;rw[hbn];have hf:=fu s.f;have hlv:=fu s.l;have W:(E0.map (·.1)).Nodup:=by have:=s.all.nd;rw[gr,qr] at this;exact this
 have el:aL .len #[aa 1] [some (dU m L0),some (.cell lv),some (.fn (aj fk)),none,none,none,none,none,none,none,none] M=.ok (nD p) M:=by
  refine aq (dj.mpr ?_);rw[af rfl rfl,bo];show ae (match M[lv]? with|some xs=>Res.ok (D.int xs.length) M|none=>.bad) _
  rw[s.l];exact{by show D.int (lvs.length:Int)=_;rw[s.len],rfl}
 refine bY (cg el) ?_;refine fN rfl ?_;rw[aF];simp only[gK,yZ,bx];refine{_,rfl,rfl,?_};have start:ka B0 M (M++[[]]) m lv fk (E0++[]) []:=by
  rw[Q8];refine{by rw[QB hf];exact s.f,hf,hlv,QH s.lo (Sk hf),`s,λe he=>?_,aX.app,W}
  obtain⟨⟨r,er,ro⟩,h1,h2⟩:=s.row e he;have:=fu er;exact{{r,by rw[QB this];exact er,ro},h1,Q1 this,h2}
 have F:∀q,q<p->∀b∈Ls q,(∃e∈E0,e.1=b/\e.2.1=q)/\b.length<=16/\∀s∈b,dg m s:=λq Q b u=>by
  have lb:=(s.lss q Q b).mp u;have ok:=zX hm lb.1;refine{?_,by rw[ok.1];exact ib hm,ok.2}
  have:=s.all.all q b Q lb;unfold un at this;rw[RO] at this;obtain⟨e,he,z⟩:=QF.mp this;cases z;exact⟨e,he,rfl,rfl⟩
 refine qV (λi H M'=>∃N y5 y6 y7 X Y B,ka B0 M M' m lv fk (E0++N) (N.map (·.1))/\NW p (un E0) (jF m p Ls i) (un N)/\(E0++N).length<=255/\H=[some (dU m L0),some (.cell lv),some (.fn (aj fk)),some (nD p),some (.cell M.length),y5,y6,y7,X,Y,B])
  (λfl M'=>(∃H,fl=.exc (.exc 8 none) H)/\aX fk M M'/\sJ p (un E0) (jF m p Ls m.deeds.length)) ?_ (λ_ _ _ _=>rfl) (λ_ _ _=>rfl) {[],none,none,none,none,none,none,start,?_,?_,rfl} ?_ ?_ ?_
 ·rintro fl M' ⟨⟨H,rfl⟩,_⟩ ρ' z;cases z
 ·exact{by rw[show un []=[] from rfl,Q8,qr];exact W,(λx I=>nomatch I),λb ⟨i,O,_⟩=>absurd O (Sh _)}
 ·rw[Q8];exact s.few
 ·rintro i x H M' I ⟨N,y5,y6,y7,X,Y,B,s',nw,hl,rfl⟩;obtain⟨x2,J,rfl⟩:=wY I;rw[QX] at J;have O:i<m.deeds.length:=by
   have:=(Qs.mp I).1;rw[lF] at this;simpa using this
  rw[SU O] at J;cases J;rw[Nat.zero_add];refine{_,rfl,?_};obtain⟨hk1,hk2,_⟩:=s.led i O;have cok:=g5 hm O;have v:∀b,(jF m p Ls i b\/b∈(i1 m p Ls i).map (bc m i))↔jF m p Ls (i+1) b:=λb=>by
   constructor
   ·rintro(⟨j,hj,h⟩|h)
    ·exact{j,Sf hj,h}
    ·exact{i,Nat.lt_succ_self _,h}
   ·rintro⟨j,hj,h⟩;rcases Sa j i with z|z
    ·exact .inl ⟨j,z,h⟩
    ·have:j=i:=`a
     subst this;exact .inr h
  have hx8:∃x8,eP (ao (aG .le (aa 6) (aa 3))) (aw (aa 1) (au false .sub (aa 3) (aa 6))) (aT false bH) [some (dU m L0),some (.cell lv),some (.fn (aj fk)),some (nD p),some (.cell M.length),some (nD i),some (nD (cst m i)),some (.fn (aj (L0+i))),X,Y,B] M'=.ok x8 M'/\vF M fk x8 (i1 m p Ls i):=by
   have U:ao (aG .le (aa 6) (aa 3)) [some (dU m L0),some (.cell lv),some (.fn (aj fk)),some (nD p),some (.cell M.length),some (nD i),some (nD (cst m i)),some (.fn (aj (L0+i))),X,Y,B] M'=.ok (decide ((cst m i:Int)<=(p:Int))) M':=by
    exact dY (fX.mpr (g4.mpr (bx.mpr {_,rfl,bx.mpr {_,rfl,_,rfl,_,rfl,rfl,rfl}})))
   by_cases L:cst m i<=p
   ·have Q:p-cst m i<lvs.length:=by rw[s.len];omega
    refine{lvs[p-cst m i],eG U (λ_=>?_) (λz=>absurd `a (of_decide_eq_false z)),?_}
    ·refine bt (y:=nD (p-cst m i)) rfl ?_ ?_
     ·refine aq (jU.mpr (bx.mpr {_,rfl,bx.mpr {_,rfl,Jn.mpr {?_,rfl}}}))
      congr 1;omega
     ·show(M'[lv]?).bind _=_;rw[s'.k.get s.l s.ne];show((bT lvs.length ((p-cst m i:Nat):Int)).bind λj=>lvs[j]?)=_;rw[dW Q];exact QM Q
    ·have:=s.lvl _ _ (QM Q);unfold i1;rw[if_pos L];exact this
   ·refine{.lst [],eG U (λz=>absurd (of_decide_eq_true z) `a) (λ_=>fS rfl `d),?_}
    unfold i1;rw[if_neg L];exact .inl rfl
  obtain⟨x8,e8,l8⟩:=hx8;refine bY (cg e8) ?_;rw[aF];have R:∀b∈i1 m p Ls i,cst m i<=p/\b∈Ls (p-cst m i):=λb u=>by
   unfold i1 at u;split at u
   ·next L=>exact⟨L,u⟩
   ·exact nomatch u
  refine Hu h152 n hm O hk1 hk2 l8 (λb u=>?_) (λb u=>?_) hp s' nw hl (λM2 N' z9 z10 s2 E hl'=>?_) λH M2 k2 ov=>?_
  ·obtain⟨L,h2⟩:=R b u;obtain⟨e,he,eb,eq⟩:=(F _ `a b h2).1
   exact{e,he,eb,`a}
  ·obtain⟨L,h2⟩:=R b u;exact(F _ `a b h2).2
  ·refine .inl {_,rfl,N',_,_,_,_,_,_,s2,?_,hl',rfl};exact{E.nd,λx I=>{(v _).mp (E.fr x I).1,(E.fr x I).2},λb u=>E.al b ((v b).mpr u)}
  ·refine .inr {{_,rfl},k2,ov.mono λb u=>?_};obtain⟨j,hj,h⟩:=(v b).mp u;exact{j,`a,h}
 ·rintro H M' ⟨N,y5,y6,y7,X,Y,B,s',nw,hl,rfl⟩;rw[lF,Qx,RV] at nw;exact b7.mpr (eI rfl ⟨rfl,N,s',nw,hl⟩)
 ·rintro fl M' ⟨⟨H,rfl⟩,k,ov⟩;exact⟨rfl,ov,k⟩
end
section
variable{M M':Mem}{m:aK}{L0 lv fk p B0:Nat}{E0 N:F3}{lvs:List D}{Ls:Nat->List bb}{Z:Env}
set_option tactic.hygienic true in
def lT.next (hm:aB m)(H:0<p)(s:lT B0 M m L0 lv fk E0 lvs p Ls)(h:ka B0 M M' m lv fk (E0++N) (N.map (·.1)))(L:NW p (un E0) (jF m p Ls m.deeds.length) (un N))(hl:(E0++N).length<=255) :
 lT B0 (M'.set lv (lvs++[.cell M.length])) m L0 lv fk (E0++N) (lvs++[.cell M.length]) (p+1) (lsN Ls p (N.map (·.1))):=by
 obtain⟨h1,h2⟩:=Hm hm H s.lss s.all L;rw[qr] at h2;rw[<- l9] at h1;have I:=QL h.ll h.k.len;have old:∀{c:Nat}{x:List D},c≠fk->c≠lv->M[c]?=some x->(M'.set lv (lvs++[.cell M.length]))[c]?=some x:=λn1 n2 e=>by
  rw[Qv (RF n2)];exact h.k.get e n1
 refine{?_,QI I,s.ne,by simp[s.len],λq x j=>?_,λi F=>?_,λq c u=>?_,λe he=>?_,s.lo,λq v b=>?_,h1,hl}
 ·rw[Qv s.ne];exact h.f
 ·rcases Sa q p with z|z
  ·rw[QB (by rw[s.len];exact z)] at j
   unfold lsN;rw[if_neg `a]
   rcases s.lvl q x j with y|⟨c,y,n1,e⟩
   ·exact .inl y
   ·exact .inr {c,y,n1,old n1 (s.lvn q c (y ▸ j)) e}
  ·have v:q=p:=by
    have:=(Qs.mp j).1;simp[s.len] at this;omega
   subst v;rw[QV (by rw[s.len];exact QA _),s.len,SN] at j
   cases j;unfold lsN;rw[if_pos rfl];refine .inr {_,rfl,Rn h.fl,?_};rw[Qv (Q1 h.ll)];exact h.l
 ·obtain⟨e1,e2,B⟩:=s.led i F;exact{old e2 B e1,e2,B}
 ·rcases Sa q p with z|z
  ·rw[QB (by rw[s.len];exact z)] at u
   exact s.lvn q c u
  ·have v:q=p:=by
    have:=(Qs.mp u).1;simp[s.len] at this;omega
   subst v;rw[QV (by rw[s.len];exact QA _),s.len,SN] at u
   cases u;exact Rn h.ll
 ·obtain⟨⟨r,er,ro⟩,n1,_,E,J⟩:=h.r e he;exact{{r,by rw[Qv (RF E)];exact er,ro},n1,E,J}
 ·unfold lsN;split
  ·next z=>rw[z];exact h2 b
  ·next z=>exact s.lss q `a b
def Bn (s:lT B0 M m L0 lv fk E0 lvs p Ls)(F:p<=900)(hi:Z[i]?.getD none=some (.cell lv)):∃b:Bool,ao (qU (cx false true false (aa i) (cH (gI 3)) gN)) Z M=.ok b M/\(b=false->∀q,q<p->p<=q+3->Ls q=[])/\(b=true->∃q,q<p/\p<=q+3/\Ls q≠[]):=by
 have y:cx false true false (aa i) (cH (gI 3)) gN Z M=.ok (.lst (lvs.drop (p-3))) M:=by
  refine aq (lG.mpr (bx.mpr {_,hi,sZ.mpr (eX.mpr {3,rfl,eX.mpr {rfl,rfl,?_}})}));show ae (match M[lv]? with|some xs=>(match aR xs.length 0 (.int (-3)),aR xs.length xs.length .non with|some l,some h=>ba false (cut xs l h) M|_,_=>.bad)|none=>.bad) _
  rw[s.l];show ae (ba false (cut lvs (-3+(lvs.length:Int)).toNat lvs.length) M) _;have hl:=s.len;have e1:(-3+(lvs.length:Int)).toNat=p-3:=`a
  have e2:cut lvs (p-3) lvs.length=lvs.drop (p-3):=by
   exact Ru `s
  rw[e1,e2];exact cn.mpr {aH `o,rfl,rfl}
 refine{((List.range (lvs.drop (p-3)).length).map λj=>!(Ls (p-3+j)).isEmpty).any id,?_,λh q H E=>?_,λh=>?_}
 ·refine b5 ?_;unfold qU;rw[y];show(match jG M (lvs.drop (p-3)) with|some bs=>Res.ok (D.bl (bs.any id)) M|none=>.bad)=_
  rw[vS (g:=λq=>!(Ls q).isEmpty) λj x u=>?_];rw[List.getElem?_drop] at u;exact KJ (s.lvl _ x u)
 ·have z:=List.any_eq_false.mp h;have h1:=z (!(Ls q).isEmpty) (QF.mpr {q-(p-3),?_,?_})
  ·cases e:(Ls q) with
   |nil=>rfl
   |cons a l=>rw[e] at h1;exact absurd rfl h1
  ·rw[So,List.length_drop,s.len];omega
  ·rw[show p-3+(q-(p-3))=q by omega]
 ·obtain⟨x,u,v⟩:=R8.mp h;obtain⟨j,B,rfl⟩:=QF.mp u;rw[So,List.length_drop,s.len] at B;refine{p-3+j,`a,`a,λz=>?_}
  rw[z] at v;cases v
def NO {c:Int}(h:c=77\/c=78)(h1:gk Z (M++[[D.int c]])=.ok x (M++[[D.int c]]))(h2:gv Z (M++[[D.int c]])=.ok y (M++[D.int c]::X))(hk:isKey c x=true):wR c gk gv Z M=.ok (.fn (aj M.length)) (M++[D.int c,D.tup [x,y]]::X):=by
 unfold wR;rw[h1];show(gv Z (M++[[D.int c]])).bind _=_;rw[h2];have e:cJ (M++[D.int c]::X) (aj M.length)=some (c,[]):=jn `s h
 show(match cJ (M++[D.int c]::X) (aj M.length) with|some q=>if isKey q.1 x=true/\q.2.length<1000000 then Res.ok (D.fn (aj M.length)) ((M++[D.int c]::X).set (aj M.length-5000) (.int q.1::putD q.2 x y)) else .bad|none=>.bad)=_
 rw[e];show(if isKey c x=true/\0<1000000 then Res.ok (D.fn (aj M.length)) ((M++[D.int c]::X).set (aj M.length-5000) (.int c::putD [] x y)) else .bad)=_;rw[if_pos {hk,`d},show aj M.length-5000=M.length from Q7 _ _,List.set_append_right _ _ (QA _),SN]
 rfl
end
noncomputable def sH:Option Nat->D
 |none=>.non
 |some b=>nD b
def AllIn (m:aK):Option Nat->List (bb×Nat)->Prop
 |some b,A=>cm m (b+1) A
 |none,A=>∃p,cm m p A/\∀q,p<=q->∀b,¬ bq m q b
def eL (m:aK):Option Nat->Prop
 |some b=>j9 m (b+1)
 |none=>∃p,j9 m p
def vD (m:aK)(h:Nat)(M:Mem)(E:F3):Prop:=∀e∈E,(∃r,M[e.2.2]?=some (r.map nD)/\eV m r e.1 e.2.1)/\h<=e.2.2
section
variable{P:Nat->Option Df}{M:Mem}{m:aK}{bd:Option Nat}
set_option tactic.hygienic true in
def zH (hbn:∀c,bn c=#v[az (.one 3) (aL .len #[aa 1]),az (.one 4) (aT true bH),cM (.two 5 [6,7]) (gZ (aa 0)) (Ez c),aI (aa 4)])
 (hbr:∀c,br c=#v[dF (.one 2) (bI 151 c #[aa 0]),az (.one 3) (aL .tuple #[ai 15 c #[aa 0]]),az (.one 4) (wR 78 (aa 3) (bW #[gI 0,aT true bH])),az (.one 5) (aT true #[aT false #[aa 3]]),iz (dI (ao (qU (cx false true false (aa 5) (cH (gI 3)) gN))) (fJ (ao (aG .isN (aa 1) gN)) (ao (aG .le (aL .len #[aa 5]) (aa 1))))) #v[ni (aa 5) (bI nx c #[aa 2,aa 5,aa 4])],aI (aa 4)])
 (hb:HasB0 P) (hr:lU P) (h15:P 15=some {1,6,cf}) (h151:P 151=some {1,2,eJ}) (h152:P 152=some {2,2,eT}) (hnx:P nx=some {3,11,bn}) (hrc:P rc=some {2,6,br}) (n:Nat) (hm:aB m) (hbd:∀b,bd=some b->b<=70) :
 dS (ah P (n+11) rc [m.d,sH bd] M) (λd M'=>∃fk E,d=.fn (aj fk)/\M.length<=fk/\M'[fk]?=some (lD E)/\vD m M.length M' E/\AllIn m bd ((un E).map pr)/\E.length<=255/\Sub M M') (λx M'=>x=.exc 8 none/\eL m bd/\Sub M M'):=by
 refine lJ hrc rfl ?_;show ae (br (ah P (n+10)) [some m.d,some (sH bd),none,none,none,none] M) _;rw[hbr];refine fN (Ir ((lK (af rfl rfl)).trans (Cb hb hr h15 h151 n hm))) ?_;have et:aL .tuple #[ai 15 (ah P (n+10)) #[aa 0]] [some m.d,some (sH bd),some (dU m M.length),none,none,none] (M++m.deeds.map (f5 m))=.ok (bD (aU m)) (M++m.deeds.map (f5 m)):=by
  refine aq (dj.mpr ?_);rw[af ((aZ (af rfl rfl)).trans (m8 hb h15 (n+1) hm)) rfl,bo];exact⟨rfl,rfl⟩
 refine fN (jy et) ?_;generalize J:M++m.deeds.map (f5 m)=h;have ev:bW #[gI 0,aT true bH] [some m.d,some (sH bd),some (dU m M.length),some (bD (aU m)),none,none] (h++[[D.int 78]])=.ok (.tup [.int 0,.cell (h.length+1)]) (h++[D.int 78]::[[]]):=by
  refine zp (dA rfl (dA ?_ rfl)) (Q9 rfl);show Res.ok (D.cell (h++[[D.int 78]]).length) ((h++[[D.int 78]])++[[]])=_;rw[Q6,RA];rfl
 refine fN (jy (NO (.inr rfl) rfl ev (ny _))) ?_;generalize y:h++[D.int 78,D.tup [bD (aU m),D.tup [D.int 0,D.cell (h.length+1)]]]::[[]]=v;refine fN rfl ?_;have l1:h.length=M.length+m.deeds.length:=by rw[<- J];simp
 have l2:v.length=h.length+2:=by rw[<- y];simp
 have s1:Sub M (v++[[.lst [bD (aU m)]]]):=by rw[<- y,<- J,RA,RA];exact Sub.app
 have start:lT M.length (v++[[.lst [bD (aU m)]]]) m M.length v.length h.length [(aU m,0,h.length+1)] [.lst [bD (aU m)]] 1 (λ_=>[aU m]):=by
  refine{?_,`s,`a,rfl,λq x S=>?_,λi hi=>?_,λq c hc=>?_,?_,`a,λq hq b=>?_,{by simp[un],λx S=>?_,λq b hq hl=>?_},Q9 rfl}
  ·rw[QB `a,<- y,QV (QA _),SN];rfl
  ·cases q with
   |zero=>cases S;exact .inl rfl
   |succ q=>simp at S
  ·refine{?_,`a,`a}
   rw[QB `a,<- y,QB `a,<- J,QV `a]
   rw[Q7,QX,QM hi];rw[<- q9 (QM hi)];rfl
  ·cases q with
   |zero=>cases hc
   |succ q=>simp at hc
  ·intro e he;obtain rfl:=QN.mp he;refine{{[],?_,eV.nil},by show h.length+1≠h.length;omega,by show h.length+1≠v.length;omega,by show M.length<=h.length+1;omega}
   rw[QB (by show h.length+1<v.length;omega),<- y,QV (by show h.length<=h.length+1;omega)]
   rw[Q7];rfl
  ·have:q=0:=`a
   subst this;rw[gR hm];exact QN
  ·have S:=QN.mp S;subst S;exact{(gR hm).mpr rfl,Nat.zero_lt_one}
  ·have:q=0:=`a
   subst this;rw[(gR hm).mp hl];exact QN.mpr rfl
 rw[aF];refine oA (λk Z M'=>∃p E H Ls g,k=900-p/\1<=p/\(∀b,bd=some b->p<=b+1)/\g<=3/\p+2<=3*E.length+g/\(∀q,q<p->p<=q+g->Ls q=[])/\lT M.length M' m M.length v.length h.length E H p Ls/\Sub M M'/\Z=[some m.d,some (sH bd),some (dU m M.length),some (bD (aU m)),some (.fn (aj h.length)),some (.cell v.length)]) ?_ `a {1,_,_,_,0,rfl,`a,λb _=>`a,`a,Q9 rfl,λq h1 h2=>`a,start,s1,rfl}
 rintro k Z M' ⟨p,E,H,Ls,g,rfl,Q,hp2,hg,hpg,Y,s,u,rfl⟩;have few:=s.few;have hp:p<=800:=`a
 obtain⟨b,e1,F,O⟩:=Bn s `a (Z:=[some m.d,some (sH bd),some (dU m M.length),some (bD (aU m)),some (.fn (aj h.length)),some (.cell v.length)]) (i:=5) rfl
 have el:aL .len #[aa 5] [some m.d,some (sH bd),some (dU m M.length),some (bD (aU m)),some (.fn (aj h.length)),some (.cell v.length)] M'=.ok (nD p) M':=by
  refine aq (dj.mpr ?_);rw[af rfl rfl,bo];show ae (match M'[v.length]? with|some xs=>Res.ok (D.int xs.length) M'|none=>.bad) _
  rw[s.l];exact{by show D.int (H.length:Int)=_;rw[s.len],rfl}
 have e3:∃W:Bool,fJ (ao (aG .isN (aa 1) gN)) (ao (aG .le (aL .len #[aa 5]) (aa 1))) [some m.d,some (sH bd),some (dU m M.length),some (bD (aU m)),some (.fn (aj h.length)),some (.cell v.length)] M'=.ok W M'/\(W=false->∃B,bd=some B/\p=B+1)/\(W=true->∀B,bd=some B->p<=B):=by
  cases bd with
  |none=>exact{true,rfl,(λz=>by cases z),λ_ B z=>by cases z}
  | some B=>
    have hB:=hp2 B rfl;refine{decide ((p:Int)<=(B:Int)),Ew (x:=false) rfl ?_,λz=>{B,rfl,by have:=of_decide_eq_false z;omega},λz B' e=>by cases e;have:=of_decide_eq_true z;omega}
    refine dY (fX.mpr (g4.mpr ?_));rw[el,bo];exact bx.mpr {_,rfl,_,rfl,_,rfl,rfl,rfl}
 obtain⟨W,e4,hno,I⟩:=e3;rw[kF e1 e4,bo];refine{λR=>?_,λR=>?_}
 ·have X:AllIn m bd ((un E).map pr):=by
   have stop:=λhb=>yd hm Q λq' h1 h2 c hl=>by
    have:=(s.lss q' h1 c).mpr hl;rw[F hb q' h1 h2] at this;exact nomatch this
   cases L:W with
   | false=>
     obtain⟨B,rfl,hpB⟩:=hno L;show cm m (B+1) _;rw[<- hpB];exact s.all
   | true=>
     rw[L,Bool.and_true] at R;cases bd with
     |none=>exact{p,s.all,stop R}
     |some B=>exact s.all.mono (by have:=I L B rfl;omega) λq c hq _=>stop R q hq c
  exact b7.mpr (eI rfl {h.length,E,rfl,`a,s.f,λe he=>{(s.row e he).1,(s.row e he).2.2.2},X,few,u})
 ·have hb1:=(RS.mp R).1;have hpb:=I (RS.mp R).2;have hg2:g<=2:=by
   obtain⟨q,h1,h2,h3⟩:=O hb1;rcases Sa g 3 with z|z
   ·omega
   ·exact absurd (Y q h1 `a) h3
  refine{900-(p+1),`a,?_}
  rw[aF];have U:=B9 hbn h152 hnx (n+8) hm `a s
  refine Iw rfl ?_;rw[lK (af rfl (af rfl (af rfl rfl)))];have sN:∀{M3:Mem},aX h.length M' M3->Sub M M3:=λk=>{QH u.len k.len,λj hj=>(k.at' j (QL hj u.len) `a).trans (u.at' j hj)}
  cases e:ah P (n+8+2) nx [dU m M.length,.cell v.length,.fn (aj h.length)] M' with
  |bad=>rw[e] at U;exact U.elim
  | err x M3=>
    rw[e] at U;obtain⟨rfl,ov,kk⟩:=U;refine .inr {(λ_ z=>nomatch z),rfl,?_,sN kk};have mn:=CF hm Q s.lss s.all ov;cases bd with
    |none=>exact{_,mn}
    |some B=>exact mn.mono (by have:=hpb B rfl;omega)
  | ok d M3=>
    rw[e] at U;obtain⟨rfl,N,s',nw,hl⟩:=U;refine{H,s'.k.get s.l s.ne,by rw[s.len];exact RW hp `d,?_}
    have sx:=s.next hm Q s' nw hl
    refine .inl {_,rfl,p+1,E++N,_,_,if N=[] then g+1 else 0,rfl,`a,λB hB=>by have:=hpb B hB;omega,?_,?_,λq h1 h2=>?_,sx,(sN s'.k).setq `a,rfl}
    ·split<;>omega
    ·cases N with
     |nil=>rw[if_pos rfl,Q8];omega
     |cons a N=>rw[if_neg `s,Q6,Rx];omega
    ·unfold lsN;split
     ·next z=>
      cases N with
      |nil=>rfl
      |cons a N=>rw[if_neg `s] at h2;omega
     ·next z=>
      cases N with
      |nil=>rw[if_pos rfl] at h2;exact Y q `a `a
      |cons a N=>rw[if_neg `s] at h2;omega
end
abbrev DF:=List Nat×List Nat
structure Ou where
 place:Nat
 num:Nat
 back:Bool
def Ou.d (s:Ou):D:=.tup [nD s.place,nD s.num,.bl s.back]
def DF.way (r:DF)(b:Bool):DF:=if b then(r.2,r.1) else r
section
variable{P:Nat->Option Df}{M:Mem}{m:aK}{i:Nat}{b:bb}
def xD (v:HasB P)(h158:P 158=some {3,3,da})(n:Nat)(hm:aB m)(hi:i<m.deeds.length)(hl:b.length<=16)(y:∀s∈b,dg m s):ae (ah P (n+2) 158 [m.d,bD b,nD i] M) λd M'=>d=bD (bc m i b)/\Sub M M':=by
 refine ay h158 rfl ?_;unfold da;simp only[aF,eD,dj,cb,iC,dG,kK,bx];refine{_,rfl,rfl,?_};refine comp_map (λj h M'=>h=((b.take j).map (bK (b3 m i))).map ak/\Sub M M') (aH `o) (λ_ _ _ _=>rfl) {rfl,.refl} ?_ ?_
 ·rintro j x h M' hd _ ⟨rfl,sub⟩;rw[QX] at hd;cases e:b[j]? with
  |none=>rw[e] at hd;cases hd
  | some s=>
    rw[e] at hd;have hd:=Qz hd;subst hd;refine{_,rfl,?_};have hs:=y s (Q0 e);have u:aw (aw (aa 1) (gI 2)) (aa 3) [some (ak s),some m.d,some (bD b),some (nD i)] M'=.ok (b3 m i).d M':=bt (bt rfl rfl rfl) rfl (lu hi);show ae (ai 41 (ah P (n+1)) #[aw (aw (aa 1) (gI 2)) (aa 3),aa 0] [some (ak s),some m.d,some (bD b),some (nD i)] M') _;rw[aZ (af u (af rfl rfl)),tV v n hm (fD hm hi) hs,bo];refine{?_,sub.trans Sub.app};rw[RK,e];simp
 ·rintro h M' _ ⟨rfl,sub⟩;rw[Qx,Ru (QA _)];exact cn.mpr {aH `o,rfl,sub}
end
def Bk (m:aK)(W:bb->Nat->Nat->Prop)(Q:Nat->List bb):Prop:=∀i b,b∈Q i↔(i=0/\b=aU m)\/∃h q j,W h q j/\q+cst m j=i/\b=bc m j h
def WE (m:aK)(E:fL)(b:bb)(q j:Nat):Prop:=(b,q)∈E.map pr/\j<m.deeds.length
noncomputable def jJ (Q:Nat->List bb)(i:Nat)(b:bb):Nat->List bb:=λk=>if k=i then Q i++[b] else Q k
section
variable{m:aK}{p:Nat}{E N:fL}{Q:Nat->List bb}{W W':bb->Nat->Nat->Prop}
def Bk.congr (h:Bk m W Q)(e:∀b q j,W b q j↔W' b q j):Bk m W' Q:=λi b=>(h i b).trans (or_congr_right {λ⟨u,q,j,w,r⟩=>{u,q,j,(e _ _ _).mp w,r},λ⟨u,q,j,w,r⟩=>{u,q,j,(e _ _ _).mpr w,r}})
set_option tactic.hygienic true in
def Bk.push (h:Bk m W Q)(b0:bb)(F u:Nat):Bk m (λb q j=>W b q j\/(b=b0/\q=F/\j=u)) (jJ Q (F+cst m u) (bc m u b0)):=λi b=>by
 unfold jJ;constructor
 ·intro B;split at B
  ·next z=>
   subst z;rcases QR.mp B with y|y
   ·exact((h _ b).mp y).imp id λ⟨v,q,j,w,r⟩=>{v,q,j,.inl w,r}
   ·exact .inr {b0,F,u,.inr ⟨rfl,rfl,rfl⟩,rfl,QN.mp y}
  ·exact((h i b).mp B).imp id λ⟨v,q,j,w,r⟩=>{v,q,j,.inl w,r}
 ·intro B;have old:b∈Q i->b∈(if i=F+cst m u then Q (F+cst m u)++[bc m u b0] else Q i):=λy=>by
   split
   ·next z=>rw[<- z];exact RD _ y
   ·exact y
  rcases B with y|⟨v,q,j,w|⟨rfl,rfl,rfl⟩,e1,e2⟩
  ·exact old ((h i b).mpr (.inl y))
  ·exact old ((h i b).mpr (.inr ⟨v,q,j,w,e1,e2⟩))
  ·rw[if_pos e1.symm,e2];exact Rb _ (QN.mpr rfl)
def gF (h:cm m p (E.map pr)):(b,q)∈E.map pr↔bq m q b/\q<p:={λz=>h.sound _ z,λz=>h.all q b z.2 z.1}
def Ho:b∈E.map (·.1)↔∃q,(b,q)∈E.map pr:=by
 constructor
 ·intro h;obtain⟨e,he,rfl⟩:=QF.mp h;exact{e.2.1,Ra he}
 ·rintro⟨q,h⟩;obtain⟨e,he,z⟩:=QF.mp h;have:e.1=b:=congrArg Prod.fst z;rw[<- this];exact Ra he
def oX (hm:aB m)(h:cm m p (E.map pr))(H:Bk m (WE m E) Q)(b:bb):bq m p b↔b∈Q p/\b∉E.map (·.1):=by
 have B:b∉E.map (·.1)↔∀q<p,¬ bq m q b:=by
  rw[Ho];exact{λz q v l=>z {q,(gF h).mpr ⟨l,v⟩},λz ⟨q,y⟩=>z q ((gF h).mp y).2 ((gF h).mp y).1}
 rw[B,H p b];rcases Nat.eq_zero_or_pos p with rfl|J
 ·rw[gR hm];refine{λz=>{.inl ⟨rfl,z⟩,λq v=>absurd v (Sh _)},λz=>?_};rcases z.1 with y|⟨u,q,j,w,_⟩
  ·exact y.2
  ·exact absurd ((gF h).mp w.1).2 (Sh _)
 ·rw[gU hm J];refine and_congr_left λ_=>{λ⟨i,u,F,I,l,e⟩=>.inr {u,p-cst m i,i,{(gF h).mpr {l,?_},F},Nat.sub_add_cancel I,e},λz=>?_}
  ·have:=(g5 hm F).1;omega
  ·rcases z with y|⟨u,q,j,w,e1,e2⟩
   ·omega
   ·refine{j,u,w.2,`a,?_,e2}
    have:=((gF h).mp w.1).1;rw[<- e1,Nat.add_sub_cancel];exact this
def L3 (h:cm m p (E.map pr))(u:Bk m (WE m E) Q)(z:b∈Q i):jA m i b:=by
 rcases(u i b).mp z with⟨rfl,rfl⟩|⟨v,q,j,w,rfl,rfl⟩
 ·exact .start
 ·exact .step ((gF h).mp w.1).1.1 w.2
def Ik (hm:aB m)(h:cm m p (E.map pr))(v:Bk m (WE m E) Q)(u:NW p E (·∈Q p) N):cm m (p+1) ((E++N).map pr):=by
 have fl:=λx j=>(oX hm h v x.1).mpr {(u.fr x j).1,λz=>by
  have nd:=u.nd;rw[QP,Sg] at nd;exact nd.2.2 _ z _ (Ra j) rfl}
 refine{by rw[gr];exact u.nd,λy B=>?_,λq b F hl=>?_}
 ·obtain⟨x,j,rfl⟩:=QF.mp B;rcases QR.mp j with z|z
  ·have s:=h.sound (pr x) (Ra z);exact{s.1,Sf s.2}
  ·have e:x.2.1=p:=(u.fr x z).2.1;exact{by show bq m x.2.1 x.1;rw[e];exact fl x z,by show x.2.1<p+1;omega}
 ·rw[QP];rcases Sa q p with z|z
  ·exact RD _ (h.all q b z hl)
  ·have:q=p:=`a
   subst this;obtain⟨h1,h2⟩:=(oX hm h v b).mp hl;have h3:=u.al b h1;rw[QP] at h3;rcases QR.mp h3 with y|y
   ·exact absurd y h2
   ·obtain⟨x,j,rfl⟩:=QF.mp y;refine Rb _ (QF.mpr {x,j,?_});show(x.1,x.2.1)=_;rw[(u.fr x j).2.1]
def Il (hm:aB m)(h:cm m p (E.map pr))(j:Bk m (WE m E) Q)(nd:((E++N).map (·.1)).Nodup)(fr:∀x∈N,x.1∈Q p/\x.2.1=p)(hl:255<(E++N).length):j9 m (p+1):=by
 refine{(E++N).map pr,by rw[gr];exact nd,λy v=>?_,by rw[Qx];exact hl}
 obtain⟨x,u,rfl⟩:=QF.mp v;rcases QR.mp u with z|z
 ·have s:=h.sound (pr x) (Ra z);exact{s.1,Sf s.2}
 ·have e:x.2.1=p:=(fr x z).2;refine{?_,by show x.2.1<p+1;omega}
  show bq m x.2.1 x.1;rw[e];refine(oX hm h j x.1).mpr {(fr x z).1,λy=>?_};rw[QP,Sg] at nd;exact nd.2.2 _ y _ (Ra z) rfl
def xj (hm:aB m)(h:cm m p (E.map pr))(v:Bk m (WE m E) Q)(he:∀i,p<=i->Q i=[]):∀q,p<=q->∀b,¬ bq m q b:=by
 intro q;induction q using Nat.strongRecOn with
 | ind q H=>
   intro B b hl;rcases Nat.eq_zero_or_pos q with rfl|j
   ·have:b∈Q 0:=(v 0 b).mpr (.inl {rfl,(gR hm).mp hl});rw[he 0 B] at this;exact nomatch this
   ·obtain⟨⟨i,u,y,F,h1,e⟩,_⟩:=(gU hm j).mp hl;have c:=g5 hm y;by_cases z:p<=q-cst m i
    ·exact H _ `a z u h1
    ·have:b∈Q q:=(v q b).mpr (.inr {u,q-cst m i,i,{(gF h).mpr {h1,`a},y},Nat.sub_add_cancel F,e})
     rw[he q B] at this;exact nomatch this
end
def qY (e:bb×Nat×List Nat):D:=.tup [bD e.1,nD e.2.1]
noncomputable def qC (E:fL):List D:=.int 78::E.map qY
section
variable{M:Mem}{fk:Nat}{E:fL}{b:bb}
def uf (E:fL)(b:bb):cV (E.map qY) (bD b)=(E.find? λe=>decide (e.1=b)).map λe=>nD e.2.1:=by
 refine Eq.trans (lg (λe:bb×Nat×List Nat=>bD e.1) (λe=>nD e.2.1) E (bD b)) ?_
 congr 2
 funext x
 exact Fp x.1 b
def J2 (e:M[fk]?=some (qC E)):inD M (aj fk) (bD b)=some (E.any λe=>decide (e.1=b)):=by
 unfold inD;rw[jn e (.inr rfl)];show(if isKey 78 (bD b)=true then some (cV (E.map qY) (bD b)).isSome else none)=_;rw[if_pos (ny b),uf,Sw]
 congr 1
 rw[RT,List.find?_isSome,R8]
def G2 (hn:∀e∈E,e.1≠b):putD (E.map qY) (bD b) (nD q)=(E++[(b,q,[])]).map qY:=by
 rw[qA,QP];rfl;rw[uf,SY.mpr];rfl;exact λx h e=>hn x h (of_decide_eq_true e)
end
structure cj (M0 M:Mem) (fk dv:Nat) (E:fL) (cs:List Nat) (Q:Nat->List bb):Prop where
 f:M[fk]?=some (qC E)
 d:M[dv]?=some (cs.map D.cell)
 nd:(fk::dv::cs).Nodup
 lo:∀x∈fk::dv::cs,M0.length<=x
 q:∀(i c:Nat),cs[i]?=some c->M[c]?=some ((Q i).map bD)
 e:∀i,cs.length<=i->Q i=[]
 s:Sub M0 M
section
variable{M0 M M':Mem}{fk dv c i:Nat}{E E':fL}{cs:List Nat}{Q:Nat->List bb}{b:bb}
def k9 (e:M[k]?=some x):k<M.length:=(Qs.mp e).1
def cj.sub (h:cj M0 M fk dv E cs Q)(s:Sub M M'):cj M0 M' fk dv E cs Q:={s.get h.f,s.get h.d,h.nd,h.lo,λi c e=>s.get (h.q i c e),h.e,h.s.trans s}
def cj.ne (h:cj M0 M fk dv E cs Q):fk≠dv/\∀(i c:Nat),cs[i]?=some c->c≠fk/\c≠dv:=by
 have nd:=h.nd;rw[RE,RE] at nd;refine{λe=>nd.1 (by rw[e];exact QS),λi c e=>{λz=>nd.1 (by rw[<- z];exact QD _ (Q0 e)),λz=>nd.2.1 (by rw[<- z];exact Q0 e)}}
def cj.put (h:cj M0 M fk dv E cs Q)(E':fL):cj M0 (M.set fk (qC E')) fk dv E' cs Q:=
 {QI (k9 h.f),by rw[Qv h.ne.1];exact h.d,h.nd,h.lo,λi c e=>by rw[Qv (RF (h.ne.2 i c e).1)];exact h.q i c e,h.e,h.s.setq (h.lo fk QS)}
def cj.more (h:cj M0 M fk dv E cs Q):cj M0 ((M++[[]]).set dv (cs.map D.cell++[D.cell M.length])) fk dv E (cs++[M.length]) Q:=by
 have hf:=k9 h.f;have hd:=k9 h.d;have all:∀x∈fk::dv::cs,x<M.length:=λx j=>by
  rcases Rg.mp j with z|j
  ·rw[z];exact hf
  ·rcases Rg.mp j with z|j
   ·rw[z];exact hd
   ·obtain⟨i,e⟩:=List.getElem?_of_mem j;exact k9 (h.q i x e)
 refine{?_,?_,?_,λx j=>?_,λi c e=>?_,λi u=>?_,(h.s.trans Sub.app).setq (h.lo dv `s)}
 ·rw[Qv (RF h.ne.1),QB hf];exact h.f
 ·rw[QI `o,QP];rfl
 ·show((fk::dv::cs)++[M.length]).Nodup;rw[Sg];exact{h.nd,`s,λx j y v z=>by
   have:=all x j;have v:y=M.length:=by simpa using v
   omega}
 ·rcases QR.mp (show x∈(fk::dv::cs)++[M.length] from j) with z|z
  ·exact h.lo x z
  ·rw[QN.mp z];exact h.s.len
 ·rcases Sa i cs.length with z|z
  ·rw[QB z] at e;have:=h.q i c e;rw[Qv (RF (h.ne.2 i c e).2),QB (k9 this)];exact this
  ·have u:i=cs.length:=by
    have:=(Qs.mp e).1;simp at this;omega
   subst u;rw[QV (QA _),SN] at e;cases e;rw[Qv (Q1 hd),h.e _ (QA _)];simp
 ·rw[Q6] at u;exact h.e i (by simp at u;omega)
def cj.push (h:cj M0 M fk dv E cs Q)(hi:cs[i]?=some c)(b:bb):cj M0 (M.set c ((Q i).map bD++[bD b])) fk dv E cs (jJ Q i b):=by
 have n:=h.ne.2 i c hi;have nd:=(RE.mp (RE.mp h.nd).2).2;refine{by rw[Qv n.1];exact h.f,by rw[Qv n.2];exact h.d,h.nd,h.lo,λk j e=>?_,λk hk=>?_,h.s.setq (h.lo c (by simp[Q0 hi]))}
 ·unfold jJ;by_cases z:k=i
  ·subst z;rw[hi] at e;cases e;rw[QI (k9 (h.q k c hi)),if_pos rfl,QP];rfl
  ·have ne:c≠j:=λy=>by
    subst y;rcases Sa k i with y|y
    ·exact xT nd y e hi
    ·exact xT nd (by omega:i<k) hi e
   rw[Qv ne,if_neg z];exact h.q k j e
 ·have:=(Qs.mp hi).1;unfold jJ;rw[if_neg `a];exact h.e k hk
end
section
variable{Z:Env}{M M' M1:Mem}{a b d:GE}
def vq (h:a Z M=.ok (.cell j) M)(hd:d Z M=.ok z M1)(e:M1[j]?=some ds)(hl:ds.length<sz):d3 a d Z M=.ok (.next Z) (M1.set j (ds++[z])):=by
 unfold d3;rw[h];show(d Z M).bind _=_;rw[hd];show(match M1[j]? with|some ds=>if ds.length<sz then Res.ok (Fl.next Z) (M1.set j (ds++[z])) else .bad|none=>.bad)=_
 rw[e];exact if_pos hl
def wD (h:Z[j]?.getD none=some (.cell k))(e:M[k]?=some ds):aL .len #[aa j] Z M=.ok (nD ds.length) M:=by
 refine aq (dj.mpr ?_);rw[af (ag h) rfl,bo];show ae (match M[k]? with|some xs=>Res.ok (D.int xs.length) M|none=>.bad) _
 rw[e];exact⟨rfl,rfl⟩
def AB (h1:a Z M=.ok (nD i) M)(h2:b Z M=.ok (nD j) M):ao (aG .le a b) Z M=.ok (decide (i<=j)) M:=by
 refine dY (fX.mpr (g4.mpr ?_));rw[h1,bo,h2,bo];refine{_,rfl,_,rfl,?_,rfl};exact decide_eq_decide.mpr Int.ofNat_le
def KN (h1:a Z M=.ok (nD i) M)(h2:b Z M=.ok (nD j) M):ao (aG .lt a b) Z M=.ok (decide (i<j)) M:=by
 refine dY (fX.mpr (g4.mpr ?_));rw[h1,bo,h2,bo];refine{_,rfl,_,rfl,?_,rfl};exact decide_eq_decide.mpr Int.ofNat_lt
def wN (h:Z[j]?.getD none=some (.cell k))(v:b Z M=.ok (nD i) M)(e:M[k]?=some ds)(u:ds[i]?=some x):aw (aa j) b Z M=.ok x M:=by
 refine bt (ag h) v ?_;show(M[k]?).bind _=_;rw[e];show((bT ds.length (i:Int)).bind λj=>ds[j]?)=_;rw[dW (Qs.mp u).1];exact u
def Dz (h:a Z M=.ok (nD i) M)(u:b Z M=.ok (nD j) M):au false .add a b Z M=.ok (nD (i+j)) M:=(fc h u).trans (by rw[<- Int.natCast_add])
end
def AllIn.nd {bd:Option Nat}(h:AllIn m bd l):(l.map (·.1)).Nodup:=by
 cases bd with
 |none=>obtain⟨_,h,_⟩:=h;exact h.nd
 |some b=>exact cm.nd h
def AllIn.sound {bd:Option Nat}(h:AllIn m bd l):∀x∈l,bq m x.2 x.1:=by
 cases bd with
 |none=>obtain⟨_,h,_⟩:=h;exact λx j=>(h.sound x j).1
 |some b=>exact λx j=>(cm.sound h x j).1
def xu (E:F3):(un E).map pr=E.map λe=>(e.1,e.2.1):=by unfold un;rw[RO];rfl
section
variable{P:Nat->Option Df}{M:Mem}{m:aK}{w:D}{fit:bb->Bool}{Z:Env}{a b:GE}
def AQ (h:Z[j]?.getD none=some x):ao (aG .isN (aa j) gN) Z M=.ok (sY x) M:=by
 refine b5 ?_;unfold aG;rw[ag h];rfl
end
section
variable{P:Nat->Option Df}{M0 M:Mem}{m:aK}{fk dv p bound:Nat}{E:fL}{cs:List Nat}{Q:Nat->List bb}{kf:Fl->Mem->Prop}{x1 y5 y6 y7:Option D}
def FP {E:fL}{b:bb}:∀h q j,(WE m E h q j\/(h=b/\q=p/\j<m.deeds.length))↔WE m (E++[(b,p,[])]) h q j:=λh q j=>by
 unfold WE;rw[QP,QR];constructor
 ·rintro(⟨h1,h2⟩|⟨rfl,rfl,h2⟩)
  ·exact{.inl h1,h2}
  ·exact{.inr (QN.mpr rfl),h2}
 ·rintro⟨h1|h1,h2⟩
  ·exact .inl ⟨h1,h2⟩
  ·cases QN.mp h1;exact .inr ⟨rfl,rfl,h2⟩
def wC {s:GA}{Z:Env}{M M1:Mem}{xs:List D}(e:s Z M=.ok xs M1)(hl:xs.length<=100):aT true s Z M=.ok (.cell M1.length) (M1++[xs]):=by
 unfold aT;rw[e];show(if xs.length<=sz then(if true=true then Res.ok (D.cell M1.length) (M1++[xs]) else _) else .bad)=_;rw[if_pos (aH `a)]
 rfl
def Ie {a:GE}{s:GA}{Z:Env}{M M1 h:Mem}{x:D}{xs:List D}(j:a Z M=.ok x M1)(es:s Z M1=.ok xs h):c6 a s Z M=.ok (x::xs) h:=by
 unfold c6;rw[j];show(s Z M1).bind _=_;rw[es];rfl
end
section
variable{M0 M:Mem}{fk dv p c C:Nat}{E:fL}{cs:List Nat}{Q:Nat->List bb}{Z:Env}{kf:Fl->Mem->Prop}
def La (h3:Z[3]?.getD none=some (.cell dv))(h4:Z[4]?.getD none=some (nD p))(y:∀M,aw (aa 7) (cH (gI 1)) Z M=.ok (nD c) M)(F:p+c<C)(B:C<=800)(h:cj M0 M fk dv E cs Q)(hl:cs.length<=C)
 (k:∀M' t,cj M0 M' fk dv E (cs++t) Q->(cs++t).length<=C->p+c<(cs++t).length->kf (.next Z) M') :
 ae (iz (ao (aG .le (aL .len #[aa 3]) (au false .add (aa 4) (aw (aa 7) (cH (gI 1)))))) #v[d3 (aa 3) (aT true bH)] Z M) kf:=by
 refine oA (λk u M'=>u=Z/\∃t,cj M0 M' fk dv E (cs++t) Q/\(cs++t).length<=C/\k=C-(cs++t).length) ?_ (k:=C-cs.length) `a {rfl,[],by rw[Q8];exact h,by rw[Q8];exact hl,by rw[Q8]}
 rintro H u M' ⟨rfl,t,v,j,rfl⟩;rw[AB (wD h3 v.d) (Dz (ag h4) (y M')),bo,Qx];refine{λz=>k M' t v j (by have:=of_decide_eq_false z;omega),λz=>?_}
 refine{C-(cs++(t++[M'.length])).length,by simp at z j ⊢;omega,?_}
 have hd:=k9 v.d;refine fN (vq (ag h3) rfl (by rw[QB hd];exact v.d) (by rw[Qx];exact RW (QH j B) `d)) ?_
 refine .inl {u,rfl,rfl,t++[M'.length],?_,by simp at z j ⊢;omega,rfl}
 rw[<- RA];exact v.more
end
section
variable{P:Nat->Option Df}{M0 M:Mem}{m:aK}{fk dv p L C:Nat}{E:fL}{cs:List Nat}{Q:Nat->List bb}{W:bb->Nat->Nat->Prop}{b:bb}{kf:Fl->Mem->Prop}{x1 y6 y7:Option D}
set_option tactic.hygienic true in
def JY (ha:HasB P)(h158:P 158=some {3,3,da})(n:Nat)(hm:aB m)(hp:p+4<=C)(hC:C<=800)(X:b.length<=16)(hb:∀s∈b,dg m s)(h:cj M0 M fk dv E cs Q)(hl:cs.length<=C)(bk:Bk m W Q)(hL:∀i,(Q i).length<=L)(hL2:L<=90000)
 (k:∀M' t Q' y6 y7,cj M0 M' fk dv E (cs++t) Q'->(cs++t).length<=C->Bk m (λB q j=>W B q j\/(B=b/\q=p/\j<m.deeds.length)) Q'->(∀i,(Q' i).length<=L+6)->Q' p=Q p->kf (.next [some m.d,x1,some (.fn (aj fk)),some (.cell dv),some (nD p),some (bD b),y6,y7]) M') :
 ae (cM (.tup [6,7]) (gZ (aw (aa 0) (gI 2))) (uH (ah P (n+2))) [some m.d,x1,some (.fn (aj fk)),some (.cell dv),some (nD p),some (bD b),y6,y7] M) kf:=by
 rw[gK,yZ,bt rfl rfl rfl,bo];refine{rfl,?_};have d6:=hm.d6;refine dO (λi Z M'=>∃t Q' y6 y7,cj M0 M' fk dv E (cs++t) Q'/\(cs++t).length<=C/\Bk m (λB q j=>W B q j\/(B=b/\q=p/\j<i)) Q'/\(∀k,(Q' k).length<=L+i)/\Q' p=Q p/\Z=[some m.d,x1,some (.fn (aj fk)),some (.cell dv),some (nD p),some (bD b),y6,y7])
  (λ_ _ _ _=>rfl) {[],Q,y6,y7,by rw[Q8];exact h,by rw[Q8];exact hl,bk.congr λB q j=>{.inl,λz=>z.elim id λz=>absurd z.2.2 (Sh _)},hL,rfl,rfl} ?_ ?_
 ·rintro i x Z M' hx ⟨t,Q',y6,y7,S,H,y,v,U,rfl⟩;obtain⟨x2,u,rfl⟩:=wY hx;rw[QX] at u;cases O:m.deeds[i]? with
  |none=>rw[O] at u;cases u
  | some d=>
    rw[O] at u;have u:=Qz u;subst u;have hi:=(Qs.mp O).1;have et:=q9 O;have c:=g5 hm hi;have ec:cst m i=d.cost:=by unfold cst;rw[et]
    rw[Nat.zero_add];refine{_,rfl,?_};unfold uH;have Y:∀M,aw (aa 7) (cH (gI 1)) [some m.d,x1,some (.fn (aj fk)),some (.cell dv),some (nD p),some (bD b),some (nD i),some d.d] M=.ok (nD (cst m i)) M:=λM=>by
     rw[ec];exact aq (iw.mpr (bx.mpr {_,rfl,sZ.mpr (eX.mpr {1,rfl,_,jR,rfl,rfl})}))
    rw[aF];refine La rfl rfl Y `a hC S H λM2 t2 h2 J I=>?_
    rw[RA] at h2 J I;rw[b7];obtain⟨z,M3,e3,ez,sub⟩:=d8.mp (xD ha h158 n hm hi X hb);subst ez;have h3:=h2.sub sub;have F:=QM I;refine fN (vq (wN rfl (Dz rfl (Y M2)) h2.d (by rw[QX,F];rfl)) ((aZ (af rfl (af rfl (af rfl rfl)))).trans e3) (h3.q _ _ F) (by rw[Qx];exact RW (v _) (RW (show L+i<=90006 by omega) `d))) ?_
    refine{_,rfl,t++t2,jJ Q' (p+cst m i) (bc m i b),_,_,h3.push F _,J,(y.push b p i).congr λB q j=>?_,λk=>?_,?_,rfl}
    ·constructor
     ·rintro((w|⟨e1,e2,R⟩)|⟨e1,e2,R⟩)
      ·exact .inl w
      ·exact .inr {e1,e2,Sf R}
      ·exact .inr {e1,e2,`a}
     ·rintro(w|⟨e1,e2,R⟩)
      ·exact .inl (.inl w)
      ·rcases Sa j i with z|z
       ·exact .inl (.inr ⟨e1,e2,z⟩)
       ·exact .inr {e1,e2,`a}
    ·have:=v k;unfold jJ;split
     ·next z=>subst z;rw[Q6];have:=v (p+cst m i);simp;omega
     ·omega
    ·unfold jJ;rw[if_neg `a];exact U
 ·rintro Z M' ⟨t,Q',y6,y7,S,H,y,v,U,rfl⟩;rw[lF,Qx] at y v;exact k M' t Q' y6 y7 S H y (λi=>QH (v i) `a) U
end
section
variable{P:Nat->Option Df}{M0 M:Mem}{m:aK}{fk dv p bound:Nat}{E:fL}{cs:List Nat}{Q:Nat->List bb}{kf:Fl->Mem->Prop}{x1 y5 y6 y7:Option D}
def Hn (ha:HasB P)(h158:P 158=some {3,3,da})(n:Nat)(hm:aB m)(j:cm m p (E.map pr))(hE:E.length<=255)(h:cj M0 M fk dv E cs Q)(hl:cs.length<=3*E.length+1)(bk:Bk m (WE m E) Q)(hL:∀i,(Q i).length<=7*E.length+1)(hpc:p<cs.length)
 (k1:∀M' N t Q' y5 y6 y7,cm m (p+1) ((E++N).map pr)->(E++N).length<=255->cj M0 M' fk dv (E++N) (cs++t) Q'->(cs++t).length<=3*(E++N).length+1->Bk m (WE m (E++N)) Q'->(∀i,(Q' i).length<=7*(E++N).length+1)->kf (.next [some m.d,x1,some (.fn (aj fk)),some (.cell dv),some (nD p),y5,y6,y7]) M')
 (k2:∀M',j9 m (p+1)->Sub M0 M'->kf (.ret .non) M') :
 ae (cM (.one 5) (cZ (aw (aa 3) (aa 4))) (AE (ah P (n+2))) [some m.d,x1,some (.fn (aj fk)),some (.cell dv),some (nD p),y5,y6,y7] M) kf:=by
 have O:=QM hpc;generalize cs[p]=X at O;rw[gK,kK,wN rfl rfl h.d (by rw[QX,O];rfl),bo]
 refine{rfl,?_};have at':∀{t:List Nat},(cs++t)[p]?=some X:=λ{t}=>by rw[QB hpc];exact O
 refine qV (ds:=(Q p).map bD) (λi Z M'=>∃N t Q' y5 y6 y7,NW p E (·∈(Q p).take i) N/\(E++N).length<=255/\cj M0 M' fk dv (E++N) (cs++t) Q'/\(cs++t).length<=3*(E++N).length+1/\Bk m (WE m (E++N)) Q'/\(∀i,(Q' i).length<=7*(E++N).length+1)/\Q' p=Q p/\Z=[some m.d,x1,some (.fn (aj fk)),some (.cell dv),some (nD p),y5,y6,y7])
  (λfl M'=>fl=.ret .non/\j9 m (p+1)/\Sub M0 M'/\M'[X]?=some ((Q p).map bD)) ?_ ?_ ?_ {[],[],Q,y5,y6,y7,{by rw[Q8,<- gr];exact j.nd,(λx u=>nomatch u),λb hb=>by simp at hb},by rw[Q8];exact hE,by rw[Q8,Q8];exact h,by rw[Q8,Q8];exact hl,by rw[Q8];exact bk,by rw[Q8];exact hL,rfl,rfl} ?_ ?_ ?_
 ·rintro fl M' ⟨rfl,_⟩ Z z;cases z
 ·rintro i Z M' ⟨N,t,Q',_,_,_,_,_,F,_,_,_,U,_⟩;show M'[X]?=_;rw[F.q p X at',U]
 ·rintro fl M' ⟨_,_,_,e⟩;exact e
 ·rintro i x Z M' u ⟨N,t,Q',y5,y6,y7,nw,hn,F,S,v,y,U,rfl⟩;rw[QX] at u;cases eb:(Q p)[i]? with
  |none=>rw[eb] at u;cases u
  | some b=>
    rw[eb] at u;have u:=Qz u;subst u;have hb:=Q0 eb;refine{_,rfl,?_};have I:∀x,x∈(Q p).take (i+1)↔x∈(Q p).take i\/x=b:=λx=>by
     rw[RK,eb];simp
    have ok:=zX hm (L3 j bk hb);refine bN (b5 (A4 rfl rfl (J2 F.f))) (λJ=>?_) λJ=>?_
    ·have Y:∀e∈E++N,e.1≠b:=λe he z=>by
      rw[show((E++N).any λe=>decide (e.1=b))=true from R8.mpr {e,he,decide_eq_true z}] at J;cases J
     have B:=nw.new I Y (r:=[]) (RU _);refine fN (HQ rfl rfl rfl (jn F.f (.inr rfl)) (ny _) (by rw[Qx];omega)) ?_
     have s1:(M'.set (aj fk-5000) (.int 78::putD ((E++N).map qY) (bD b) (nD p)))=M'.set fk (qC (E++(N++[(b,p,[])]))):=by
      rw[show aj fk-5000=fk from Q7 _ _,G2 Y,RA];rfl
     rw[s1];have h2:=F.put (E++(N++[(b,p,[])]));refine bN (AZ (wZ rfl (jn h2.f (.inr rfl))) rfl) (λR=>?_) λR=>?_
     ·have R:=of_decide_eq_true R;rw[aF,eD];refine .inr {rfl,Il hm j bk B.nd (λx u=>{Rz (B.fr x u).1,(B.fr x u).2.1}) ?_,h2.s,?_}
      ·simp at R ⊢;omega
      ·rw[h2.q p X at',U]
     ·have R:=of_decide_eq_false R;have H:(E++(N++[(b,p,[])])).length=(E++N).length+1:=by rw[<- RA,Q6];rfl
      have hg2:(E++(N++[(b,p,[])])).length<=255:=by simp at R ⊢;omega
      rw[aF];have e4:E.length<=(E++N).length:=by rw[Q6];omega
      refine JY (C:=3*(E++N).length+4) ha h158 n hm `a `a (by rw[ok.1];exact ib hm) ok.2 h2 `a v y `a λM3 t3 Q3 z6 z7 h3 hl3 bk3 hL3 hQ3=>?_
      rw[RA] at h3 hl3;refine .inl {_,rfl,N++[(b,p,[])],t++t3,Q3,_,_,_,B,hg2,h3,by rw[H];omega,?_,λi=>?_,hQ3.trans U,rfl}
      ·rw[<- RA];exact bk3.congr FP
      ·have:=hL3 i;rw[H];omega
    ·have J:((E++N).any λe=>decide (e.1=b))=true:=by
      cases z:((E++N).any λe=>decide (e.1=b)) with
      |true=>rfl
      |false=>rw[z] at J;cases J
     obtain⟨e,he,z⟩:=R8.mp J;exact .inl {_,rfl,N,t,Q',_,_,_,nw.old I {e,he,of_decide_eq_true z},hn,F,S,v,y,U,rfl}
 ·rintro Z M' ⟨N,t,Q',y5,y6,y7,nw,hn,F,S,v,y,U,rfl⟩;rw[Qx,Ru (QA _)] at nw;exact k1 M' N t Q' y5 y6 y7 (Ik hm j bk nw) hn F S v y
 ·rintro fl M' ⟨rfl,mn,s,_⟩;exact k2 M' mn s
set_option tactic.hygienic true in
def zO (ha:HasB P)(h158:P 158=some {3,3,da})(h159:P 159=some {2,8,fx})(n:Nat)(hm:aB m) :
 ae (ah P (n+3) 159 [m.d,nD bound] M) λd M'=>Sub M M'/\((d=.non/\j9 m (bound+1))\/∃fk E,d=.fn (aj fk)/\M.length<=fk/\M'[fk]?=some (qC E)/\cm m (bound+1) (E.map pr)/\(800<=bound->AllIn m none (E.map pr)/\∀e∈E,e.2.1<=800)/\E.length<=255):=by
 refine ay h159 rfl ?_;show ae (fx (ah P (n+2)) [some m.d,some (nD bound),none,none,none,none,none,none] M) _;unfold fx;refine fN (jy rfl) ?_;have et:aL .tuple #[ai 42 (ah P (n+2)) #[aa 0]] [some m.d,some (nD bound),some (.fn (aj M.length)),none,none,none,none,none] (M++[[.int 78]])=.ok (bD (aU m)) (M++[[.int 78]]):=by
  refine aq (dj.mpr ?_);rw[af ((aZ (af rfl rfl)).trans (mf ha (n+1) hm)) rfl,bo];exact⟨rfl,rfl⟩
 have ei:aT true #[aT true #[aL .tuple #[ai 42 (ah P (n+2)) #[aa 0]]]] [some m.d,some (nD bound),some (.fn (aj M.length)),none,none,none,none,none] (M++[[.int 78]])=.ok (.cell (M.length+2)) (M++[[.int 78],[bD (aU m)],[.cell (M.length+1)]]):=by
  refine(wC (Ie (wC (af et rfl) (Q9 rfl)) rfl) (Q9 rfl)).trans ?_;simp
 refine fN (jy ei) ?_;refine bY (cg rfl) ?_;have start:cj M (M++[[.int 78],[bD (aU m)],[.cell (M.length+1)]]) M.length (M.length+2) [] [M.length+1] (λi=>if i=0 then [aU m] else []):=by
  refine{by simp;rfl,`s,`s,λx hx=>by simp at hx;omega,λi c e=>?_,λi S=>if_neg (by simp at S;omega),Sub.app}
  cases i with
  |zero=>cases e;simp
  |succ i=>simp at e
 rw[aF];refine oA (λk Z M'=>∃(p:Nat) (E:fL) (cs:List Nat) (Q:Nat->List bb) (y5 y6 y7:Option D),k=800-p/\p<=800/\p<=bound+1/\cm m p (E.map pr)/\E.length<=255/\cj M M' M.length (M.length+2) E cs Q/\cs.length<=3*E.length+1/\Bk m (WE m E) Q/\(∀i,(Q i).length<=7*E.length+1)/\Z=[some m.d,some (nD bound),some (.fn (aj M.length)),some (.cell (M.length+2)),some (nD p),y5,y6,y7]) ?_ `a {0,[],_,_,none,none,none,rfl,RU _,RU _,{.nil,(λx hx=>nomatch hx),λq b Y=>absurd Y (Sh _)},RU _,start,`s,λi b=>?_,λi=>?_,rfl}
 ·rintro k Z M' ⟨p,E,cs,Q,y5,y6,y7,rfl,X,hp,u,hE,h,hl,bk,hL,rfl⟩;rw[kF (KN rfl (wD rfl h.d)) (AB rfl rfl),bo,Qx];refine{λv=>?_,λv=>?_}
  ·have F:cm m (bound+1) (E.map pr):=by
    rcases Sa bound p with z|z
    ·have:p=bound+1:=`a
     rw[<- this];exact u
    ·rw[decide_eq_true z,Bool.and_true] at v;have v:=of_decide_eq_false v;exact u.mono hp λq c Y _=>xj hm u bk (λi S=>h.e i `a) q Y c
   have B:800<=bound->AllIn m none (E.map pr)/\∀e∈E,e.2.1<=800:=λH=>by
    rw[decide_eq_true (show p<=bound by omega),Bool.and_true] at v
    have v:=of_decide_eq_false v;exact{{p,u,xj hm u bk (λi S=>h.e i `a)},λe he=>QH (Sk (u.sound (pr e) (QF.mpr ⟨e,he,rfl⟩)).2) X}
   exact b7.mpr (eI rfl {h.s,.inr {_,E,rfl,QA _,h.f,F,B,hE}})
  ·have h1:=of_decide_eq_true (RS.mp v).1;have h2:=of_decide_eq_true (RS.mp v).2;refine{800-(p+1),`a,?_}
   unfold AD;rw[aF];refine Hn ha h158 n hm u hE h hl bk hL h1 (λM2 N t Q2 z5 z6 z7 y O J U I R=>?_) λM2 mn s=>?_
   ·rw[b7];refine bY (cg (Dz rfl rfl)) ?_;exact .inl {_,rfl,p+1,E++N,cs++t,Q2,z5,z6,z7,rfl,`a,`a,y,O,J,U,I,R,rfl}
   ·exact .inr {(λ_ z=>nomatch z),s,.inl {rfl,mn.mono `a}}
 ·constructor
  ·intro H;dsimp only at H;split at H
   ·next z=>exact .inl {z,QN.mp H}
   ·exact nomatch H
  ·rintro(⟨rfl,rfl⟩|⟨b',q,j,w,_⟩)
   ·exact QN.mpr rfl
   ·exact nomatch w.1
 ·show(if i=0 then [aU m] else []).length<=1;split<;>simp
end
section
variable{P:Nat->Option Df}{M:Mem}{m:aK}{w:D}{fit:bb->Bool}
def AllIn.mem (h:AllIn m none A):(b,q)∈A↔bq m q b:=by
 refine{λz=>h.sound _ z,λz=>?_};obtain⟨p,h,no⟩:=h;rcases Sa q p with j|j
 ·exact h.all q b j z
 ·exact absurd z (no q j b)
def AllIn.few (h:AllIn m none A)(hl:A.length<=255):¬ eL m none:=by
 rintro⟨p,z,v,y,j⟩;have:=len_sub (Aq v) λx u=>h.mem.mpr (y x u).1;omega
end
section
variable{P:Nat->Option Df}{M:Mem}{m:aK}{w:D}{fit:bb->Bool}{Z:Env}
def nO (e:s Z M=.ok xs M1):ai f c s Z M=c f xs M1:=by
 unfold ai;rw[e];rfl
end
section
variable{P:Nat->Option Df}{M:Mem}{m:aK}
def zI (j:HasB0 P)(hr:lU P)(h15:P 15=some {1,6,cf})(h151:P 151=some {1,2,eJ})(h152:P 152=some {2,2,eT})(h165:P 165=some {3,11,g8})(h166:P 166=some {2,6,js})(n:Nat)(hm:aB m) :
 dS (ah P (n+11) 166 [m.d,.non] M) (λd M'=>∃h E,d=.fn (aj h)/\M.length<=h/\M'[h]?=some (lD E)/\vD m M.length M' E/\AllIn m none ((un E).map pr)/\E.length<=255/\Sub M M') (λx M'=>x=.exc 8 none/\eL m none/\Sub M M'):=
 zH (bd:=none) (λ_=>rfl) (λ_=>rfl) j hr h15 h151 h152 h165 h166 n hm (λ_ z=>nomatch z)
end
section
variable{P:Nat->Option Df}{M:Mem}{p B:Nat}{m:aK}
def aK.withC (m:aK)(c:Nat):aK:={m.words,m.places,m.deeds.map (·.withC c)}
end
section
variable{P:Nat->Option Df}{M:Mem}{m:aK}{k e:Nat}{r:List Nat}{hs:List (List Nat)}
def vY (h1:a Z M=.ok x M1)(h2:b Z M1=.ok y M2)(h3:f x y M2=some d):iJ f a b Z M=.ok d M2:=by
 unfold iJ;rw[h1];dsimp only;rw[h2];show bS M2 (f x y M2)=_;rw[h3];rfl
def tM (h1:a Z M=.err x M1):iJ f a b Z M=.err x M1:=by
 unfold iJ;rw[h1]
def bj.sub' (s:bj M k e m r hs)(h:Sub M M'):bj M' k e m r hs:={h.get s.ob,h.get s.er}
def zF (h:HasM P)(ho:HasO0 P)(H:pe P)(h190:P 190=some {1,1,fy})(n:Nat)(hm:aB m)(hr:bg m r)(s:bj M k e m r hs)
 (h166:∀(M:Mem),dS (ah P (n+11) 166 [m.d,.non] M) (λd M'=>∃j E,d=.fn (aj j)/\M.length<=j/\M'[j]?=some (lD E)/\vD m M.length M' E/\AllIn m none ((un E).map pr)/\E.length<=255/\Sub M M') (λx M'=>x=.exc 8 none/\eL m none/\Sub M M')) :
 dS (ah P (n+12) 190 [.fn (aj k)] M) (λd M'=>∃q,d=nD q/\bq m q (ends m r)/\¬ eL m none/\Sub M M') (λx M'=>x=.exc 8 none/\eL m none/\Sub M M'):=by
 refine lJ h190 rfl ?_;show ae (fy (ah P (n+11)) [some (.fn (aj k))] M) _;unfold fy;have B:bI 166 (ah P (n+11)) #[bR "machine" (aa 0),gN] [some (.fn (aj k))] M=ah P (n+11) 166 [m.d,.non] M:=lK (af (dz (i:=0) (ag rfl) s.ob `d rfl) (af rfl rfl))
 have t:=h166 M;rw[aF,GG];cases e1:ah P (n+11) 166 [m.d,.non] M with
 |bad=>rw[e1] at t;exact t.elim
 |err y u=>rw[e1] at t;rw[tM (tM (B.trans e1))];exact t
 | ok d u=>
   rw[e1] at t;obtain⟨j,E,rfl,_,F,_,all,few,s1⟩:=t;have sh:=s.sub' s1;have v:=(eF (Z:=[some (.fn (aj k))]) (a:=aa 0) (s:=bH) rfl sh.ob rfl).trans (v7 h ho H n hm hr sh);rw[sF] at v;have ro:eV m r (ends m r) (cD m r):=⟨hr.2,rfl,rfl⟩;obtain⟨q,_,hl⟩:=jM ro.rch;have z:=all.mem.mpr hl;rw[xu] at z;obtain⟨x,I,ex⟩:=QF.mp z;have nd:(E.map (·.1)).Nodup:=by have:=all.nd;rw[xu,RO] at this;exact this
   have s2:Sub u (u++(aU m).map λs=>(du m r s).map ak):=Sub.app;have g:=u1 (s2.get F) nd I;rw[show x.1=ends m r from congrArg Prod.fst ex] at g;rw[vY (vY (B.trans e1) v g) rfl rfl];exact{q,by rw[<- show x.2.1=q from congrArg Prod.snd ex],hl,all.few (by rw[xu,Qx];exact few),s1.trans s2}
end
section
variable{P:Nat->Option Df}{M:Mem}{m:aK}{k e:Nat}{r:List Nat}{hs:List (List Nat)}
def Cr (c:Call):dt c [some (.exc 8 none),none,none] M=.ok (.ret (.lst [.str "many"])) M:=`r
def vJ (h75:P 75=some {1,3,dt})(n:Nat):ah P (n+1) 75 [.exc 8 none] M=.ok (.lst [.str "many"]) M:=by
 refine aq (ay h75 rfl ?_);show ae (dt (ah P n) [some (.exc 8 none),none,none] M) _;rw[Cr];exact⟨rfl,rfl⟩
def uA {f:Nat}{c:Call}{es:List D}{s:GA}{ds:List D}{Z:Env}{M':Mem}(u:Z[j]?.getD none=some (.fn (aj k)))(ob:M[k]?=some (.int 40::es))(hs:s Z M=.ok ds M):gY 40 f c (aa j) s Z M=c f (.fn (aj k)::ds) M:=by
 have h:ft M (aj k)=some 40:=by
  unfold ft aj;rw[if_pos (RJ _ _),Q7,ob];rfl
 unfold gY;rw[ag u];dsimp only;rw[hs];rw[if_pos h]
def zC (h75:P 75=some {1,3,dt})(h192:P 192=some {1,4,fm})(n:Nat)(s:bj M k e m r hs)
 (h:dS (ah P (n+1) 190 [.fn (aj k)] M) (λd M'=>∃q,d=nD q/\bq m q (ends m r)/\¬ eL m none/\Sub M M') (λx M'=>x=.exc 8 none/\eL m none/\Sub M M')) :
 ae (ah P (n+2) 192 [.fn (aj k)] M) λd M'=>((d=.str "many"/\eL m none)\/∃q,d=nD q/\bq m q (ends m r)/\¬ eL m none)/\Sub M M':=by
 refine ay h192 rfl ?_;show ae (fm (ah P (n+1)) [some (.fn (aj k)),none,none,none] M) _;refine bY (cg rfl) (bY (cg rfl) ?_);rw[aF,Jx,aF,GI,uA (M':=M) rfl s.ob rfl];cases e1:ah P (n+1) 190 [.fn (aj k)] M with
 |bad=>rw[e1] at h;exact h.elim
 | err y j=>
   rw[e1] at h;obtain⟨rfl,u,s1⟩:=h;refine bB ?_;rw[eG (k:=false) rfl (λz=>nomatch z) λ_=>bt ((aZ (af rfl rfl)).trans (vJ h75 n)) rfl rfl,bo];exact{.inl ⟨rfl,u⟩,s1}
 | ok d j=>
   rw[e1] at h;obtain⟨q,rfl,hl,few,s1⟩:=h;refine Km.mpr (b7.mpr (zU.mpr ?_));dsimp only[Jh,List.set];rw[b7];refine bB ?_;rw[eG (k:=true) rfl (λ_=>rfl) (λz=>nomatch z),bo];exact{.inr ⟨q,rfl,hl,few⟩,s1}
def Gk (h:HasB0 P)(ho:HasO P)(n:Nat)(s:bj M k e m r hs):ah P (n+2) 133 [.fn (aj k),.int (-1),.int 0] M=.err (.exc 9 none) M:=by
 refine A3 (lJ ho.put rfl ?_);show ae (iW (ah P (n+1)) [some (.fn (aj k)),some (.int (-1)),some (.int 0)] M) _;have fs:bR "standing" (aa 0) [some (.fn (aj k)),some (.int (-1)),some (.int 0)] M=.ok (ax r) M:=dz (i:=1) (ag rfl) s.ob `d rfl
 have fl:aL .len #[bR "standing" (aa 0)] [some (.fn (aj k)),some (.int (-1)),some (.int 0)] M=.ok (.int r.length) M:=by
  rw[mO (af fs rfl)];exact aq ((bE.l).len.mpr ⟨rfl,rfl⟩)
 refine uM (ku (b:=false) (b5 ?_)) ?_
 ·rw[aZ (af (ag rfl) (af rfl (af fl rfl))),dP h n];rfl
 ·rw[aF];show ae (if 1<=sz then Res.ok (Fl.exc (.exc 9 none) _) M else .bad) _;rw[if_pos `d]
  exact⟨rfl,rfl⟩
def tR (h:HasB0 P)(ho:HasO P)(h194:P 194=some {1,1,eh})(n:Nat)(s:bj M k e m r hs):ah P (n+3) 194 [.fn (aj k)] M=.ok (.bl true) M:=by
 refine aq (ay h194 rfl ?_);unfold eh;rw[aF,Cj,aF,Jz,uA (M':=M) rfl s.ob (af rfl (af rfl rfl)),Gk h ho n s];exact{9,none,rfl,.inl rfl,eI rfl ⟨rfl,rfl⟩}
end
section
variable{P:Nat->Option Df}{M:Mem}{p B:Nat}
def B5 (h:HasP P)(h191:P 191=some {1,2,eU})(n:Nat)(y:aJ M p B)(F:B<=600000):ae (ah P (n+6) 191 [.cell p] M) λd M'=>∃m:aK,d=m.d/\aB m/\aJ M' p (B+301)/\aX p M M':=by
 refine ay h191 rfl ?_;refine eC h.toHasP0 (n+3) (many:=3) rfl rfl y `a `d `d λkind v hk p1 k1=>?_
 refine bB ?_;have j:∀{E:Env}{a b c:Int},aT false #[gC (.int a),gC (.int b),gC (.int c)] E v=.ok (.lst [.int a,.int b,.int c]) v:=fS (af rfl (af rfl (af rfl rfl))) (Q9 rfl);have go:∀W u:Nat,2<=W->W<=4->1<=u->u<=2->ae (ah P (n+5) 34 [.cell p,nD W,nD u,nD 5] v) λd M'=>∃m:aK,d=m.d/\aB m/\aJ M' p (B+301)/\aX p M M':=λW u a b c d=>aM (pz h n p1 `a a b c d `d `d) λx M' ⟨m,e,hm,_,_,_,q,k⟩=>{m,e,hm,q.mono `a,k1.trans k}
 have z:kind=0\/kind=1\/kind=2:=`a
 rcases z with rfl|rfl|rfl
 ·rw[aZ (af rfl (af (bt j rfl rfl) (af (bt j rfl rfl) (af rfl rfl))))];exact go 2 2 `d `d `d `d
 ·rw[aZ (af rfl (af (bt j rfl rfl) (af (bt j rfl rfl) (af rfl rfl))))];exact go 3 1 `d `d `d `d
 ·rw[aZ (af rfl (af (bt j rfl rfl) (af (bt j rfl rfl) (af rfl rfl))))];exact go 2 1 `d `d `d `d
end
def Known (m:aK)(M:Mem)(kd:D):Prop:=(kd=.non/\eL m none)\/∃h A,kd=.fn (aj h)/\M[h]?=some (qC A)/\AllIn m none (A.map pr)/\A.length<=255
def rq (m:aK)(b:bb)(d:D):Prop:=(d=.str "many"/\eL m none)\/∃q,d=nD q/\bq m q b/\¬ eL m none
section
variable{P:Nat->Option Df}{M:Mem}{m:aK}{b:bb}{x y:D}
def HJ (h1:rq m b x)(h2:rq m b y):x=y:=by
 rcases h1 with⟨rfl,a⟩|⟨q,rfl,l,a⟩<;>rcases h2 with⟨rfl,c⟩|⟨j,rfl,h,c⟩
 ·rfl
 ·exact absurd a c
 ·exact absurd c a
 ·rw[pO l h]
def zT (h:HasS0 P)(n:Nat)(h1:rq m b x):ah P (n+1) 40 [x,x] M=.ok (.bl true) M:=by
 rcases h1 with⟨rfl,_⟩|⟨q,rfl,_⟩
 ·refine aq (ay h.same rfl ?_);have j:aA 64 (.str "many")=true:=`k
  have e:bz .eq (.str "many") (.str "many") M=some true:=nP j j (show bZ (.str "many") (.str "many")=true by decide +kernel)
  show ae (d5 (ah P n) [some (.str "many"),some (.str "many")] M) _;refine bp rfl (bp rfl (bp rfl (qQ rfl ?_ ⟨rfl,rfl⟩)));show((bS M (bz .eq (.str "many") (.str "many") M)).bind λb M=>Res.ok (D.bl b) M)=_;rw[e];rfl
 ·exact jH h n _
set_option tactic.hygienic true in
def qc {R:Mem->Prop}(u:Z[7]?.getD none=some (nD v))(j:R M)(h1:v=c->∃M',ai 40 f #[g1,g2] Z M=.ok (.bl true) M'/\R M')(h:∀M',R M'->ae (rest Z M') kf) :
 ae (aS (aN (dI (ao (aG .eq (aa 7) (gC (.int (c:Nat))))) (bM (ao (ai 40 f #[g1,g2])))) A aE) rest Z M) kf:=by
 refine kB ?_ h;rw[Ej,f6 u,bo];split
 ·next z=>
  obtain⟨M',e,r⟩:=h1 (by have:=eq_of_beq z;omega)
  rw[sS,fX,e,bo];exact⟨true,rfl,rfl,r⟩
 ·exact⟨rfl,j⟩
end
structure lV (P:Nat->Option Df):Prop where
 m:HasM P
 o:HasO P
 a:pe P
 s:HasS P
 p:HasP P
 c:HasC P
 h35:P 35=some {3,6,g9}
 h44:P 44=some {2,5,e9}
 h75:P 75=some {1,3,dt}
 h151:P 151=some {1,2,eJ}
 h152:P 152=some {2,2,eT}
 h158:P 158=some {3,3,da}
 h159:P 159=some {2,8,fx}
 h165:P 165=some {3,11,g8}
 h166:P 166=some {2,6,js}
 h190:P 190=some {1,1,fy}
 h191:P 191=some {1,2,eU}
 h192:P 192=some {1,4,fm}
 h193:P 193=some {5,8,fo}
 h194:P 194=some {1,1,eh}
 h195:P 195=some {1,13,nU}
section
variable{P:Nat->Option Df}{M:Mem}{m:aK}{k e p B:Nat}{r:List Nat}{hs:List (List Nat)}{kd:D}
def zq (h:lV P)(n:Nat)(hm:aB m)(hr:bg m r)(s:bj M k e m r hs):ae (ah P (n+13) 192 [.fn (aj k)] M) λd M'=>rq m (ends m r) d/\Sub M M':=
 zC h.h75 h.h192 (n+11) s (zF h.m h.o h.a h.h190 n hm hr s λM=>zI h.m.toHasM0.toHasB0 h.m.r h.a.h15 h.h151 h.h152 h.h165 h.h166 n hm)
def G5:∀{a j:Nat} (Z:Env),a<4->j<=4->∃xs:List Nat,(∀x∈xs,x<4)/\fM false (.lst ([3,0,1,2,3,0,1].map nD)) (nD a) (.int ((a:Int)+(j:Int))) M=.ok (.lst (xs.map nD)) M:=λ{a j} Z y z=>by
 refine{cut [3,0,1,2,3,0,1] a (a+j),λx u=>?_,?_}
 ·have:=Sx (Rz u);simp at this;omega
 ·have h1:aR 7 0 (nD a)=some a:=by
   show some (if (a:Int)<0 then _ else min (a:Int).toNat 7)=_;rw[if_neg `a,RP,Nat.min_eq_left `a]
  have h2:aR 7 7 (.int ((a:Int)+(j:Int)))=some (min (a+j) 7):=by
   show some (if (a:Int)+(j:Int)<0 then _ else min ((a:Int)+(j:Int)).toNat 7)=_;rw[if_neg `a,show((a:Int)+(j:Int)).toNat=a+j by omega]
  show(match aR 7 0 (nD a),aR 7 7 (.int ((a:Int)+(j:Int))) with|some l,some h=>ba false (cut ([3,0,1,2,3,0,1].map nD) l h) M|_,_=>.bad)=_
  rw[h1,h2];have e:cut (([3,0,1,2,3,0,1]:List Nat).map nD) a (min (a+j) 7)=(cut [3,0,1,2,3,0,1] a (a+j)).map nD:=by
   have a4:a=0\/a=1\/a=2\/a=3:=`a
   have v:j=0\/j=1\/j=2\/j=3\/j=4:=`a
   rcases a4 with rfl|rfl|rfl|rfl<;>rcases v with rfl|rfl|rfl|rfl|rfl<;>rfl
  show ba false (cut _ a (min (a+j) 7)) M=_;rw[e];unfold ba;rw[if_pos (aH (by rw[Qx];unfold cut;rw[R7];omega))];rfl
end
section
variable{P:Nat->Option Df}{M:Mem}{m:aK}{k e p B:Nat}{r:List Nat}{hs:List (List Nat)}{kd:D}
def Dx (h:lV P)(n:Nat)(hm:aB m)(hr:bg m r)(s:bj M0 k e m r hs)(hd:rq m (ends m r) y)(z:Sub M0 M)(X:M0[c]?=some [ax r,nD (cD m r),.tup ((ends m r).map ak),y])(kk:∀M',Sub M0 M'->kf (.next [x0,some (.fn (aj k)),x2,some m.d,some (ax r),x5,some (.cell c),some (nD v)]) M') :
 ae (Fs (ah P (n+13)) [x0,some (.fn (aj k)),x2,some m.d,some (ax r),x5,some (.cell c),some (nD v)] M) kf:=by
 have I:=hr.1;have F:∀{M':Mem}{i:Nat}{d:D}{J:Env},Sub M0 M'->J[6]?.getD none=some (.cell c)->[ax r,nD (cD m r),.tup ((ends m r).map ak),y][i]?=some d->aw (aa 6) (gC (.int (i:Nat))) J M'=.ok d M':=λ{M' i d J} S h6 O=>by
  refine bt (ag h6) rfl ?_;show(M'[c]?).bind _=_;rw[S.get X];show(bT 4 (i:Int)).bind _=_;rw[dW (by have:=(Qs.mp O).1;exact this)]
  exact O
 refine qc rfl z (λ_=>?_) λM1 j=>?_
 ·have Y:(M++[r.map nD])[M.length]?=some (r.map nD):=by rw[QV (QA _),SN];rfl
  exact{_,(nO (dA ((eF rfl (s.sub' z).ob rfl).trans (Gf h.m h.o (n+12) I (s.sub' z))) (af (F (z.trans .app) rfl rfl) rfl))).trans (zG h.s.toHasS0 (n+11) (.c Y) .l `a),z.trans .app}
 refine qc rfl j (λ_=>?_) λM2 u=>?_
 ·exact{_,(nO (dA ((eF rfl (s.sub' j).ob rfl).trans (B6 h.m h.o (n+11) hr (s.sub' j))) (af (F j rfl rfl) rfl))).trans (jH h.s.toHasS0 (n+12) _),j}
 refine qc rfl u (λ_=>?_) λM3 E=>?_
 ·exact{_,(nO (dA ((eF rfl (s.sub' u).ob rfl).trans (v7 h.m h.o h.a (n+2) hm hr (s.sub' u))) (af (F (u.trans .app) rfl rfl) rfl))).trans (by rw[sF];exact tQ h.s.toHasS0 (n+10) hm hr.2),u.trans .app}
 refine qc rfl E (λ_=>?_) λR W=>kk R W;obtain⟨d,U,L,H,Q⟩:=d8.mp (zq h n hm hr (s.sub' E));rw[HJ H hd] at L;exact{U,(nO (dA ((aZ (af rfl rfl)).trans L) (af (F (E.trans Q) rfl rfl) rfl))).trans (zT h.s.toHasS0 (n+12) hd),E.trans Q}
end
section
variable{P:Nat->Option Df}{M:Mem}{m:aK}{k e p B:Nat}{r:List Nat}{hs:List (List Nat)}{kd:D}
def bj.keep' (s:bj M k e m r hs)(h:aX p M M')(hk:k≠p)(he:e≠p):bj M' k e m r hs:={h.get s.ob hk,h.get s.er he}
def Ad (h:HasP0 P)(n:Nat)(z:Z[0]?.getD none=some (.cell p))(u:Z[5]?.getD none=some (nD v))(H:v<4)(F:aJ M p B)(L:B<=900000):∃(xs:List Nat) (M':Mem),ug (ah P (n+2)) Z M=.ok (.lst (xs.map nD)) M'/\(∀x∈xs,x<4)/\aJ M' p (B+1)/\aX p M M':=by
 have J:aT false #[gI 1,gI 4,gI 4] Z M=.ok (.lst [.int 1,.int 4,.int 4]) M:=fS (af rfl (af rfl (af rfl rfl))) (Q9 rfl);obtain⟨d,y,e1,hd,p1,k1⟩:=d8.mp (C8 h n z (g:=gC (.int 3)) rfl F `a `d `d J rfl)
 obtain⟨j,E,rfl⟩:∃j:Nat,j<=4/\d=nD j:=by
  simp only[List.mem_cons,List.not_mem_nil,or_false] at hd;rcases hd with rfl|rfl|rfl
  ·exact{1,`d,rfl}
  ·exact{4,`d,rfl}
  ·exact{4,`d,rfl}
 obtain⟨xs,I,ex⟩:=G5 Z H E;refine{xs,y,?_,I,p1,k1};unfold ug cx;rw[fS (af rfl (af rfl (af rfl (af rfl (af rfl (af rfl (af rfl rfl))))))) (Q9 rfl)];show(aa 5 Z M).bind _=_;rw[ag u];show(au false .add (aa 5) (aw _ _) Z M).bind _=_;unfold au;rw[ag u];show((aw _ _ Z M).bind _).bind _=_;rw[e1];exact ex
def pw (h:lV P)(n:Nat)(hm:aB m)(hr:bg m r)(s:bj M k e m r hs)(hK:Known m M kd)(hf:∀J,kd=.fn (aj J)->J≠p)(hk:k≠p)(he:e≠p)(hp:aJ M p B)(hB:B<=600000) :
 ae (ah P (n+14) 193 [.cell p,.fn (aj k),kd,m.d,ax r] M) λd M'=>d=.bl true/\aJ M' p (B+2)/\aX p M M':=by
 refine ay h.h193 rfl ?_;show ae (fo (ah P (n+13)) [some (.cell p),some (.fn (aj k)),some kd,some m.d,some (ax r),none,none,none] M) _;unfold fo;refine eC h.p.toHasP0 (n+11) rfl rfl hp `a `d `d λv X hv p1 k1=>?_
 obtain⟨_,u,e2,rfl,s2⟩:=d8.mp (oy h.s.toHasB h.h44 (n+11) hm hr.2);have e6:∀Z:Env,Z[3]?.getD none=some m.d->Z[4]?.getD none=some (ax r)->aT true #[aa 4,ai 89 (ah P (n+13)) #[aa 3,aa 4],ai 44 (ah P (n+13)) #[aa 3,aa 4]] Z X=.ok (.cell u.length) (u++[[ax r,nD (cD m r),.tup ((ends m r).map ak)]]):=λZ h3 h4=>dY (Fe.mpr (by
  rw[dA (ag h4) (dA ((aZ (af (ag h3) (af (ag h4) rfl))).trans (zK h.m h.o h.c (n+12) hr)) (dA ((aZ (af (ag h3) (af (ag h4) rfl))).trans e2) rfl)),bo];exact ki.mpr {aH (n:=3) `d,rfl,rfl}))
 refine fN (jy (e6 _ rfl rfl)) ?_;simp only[List.set];have I:(u++[[ax r,nD (cD m r),.tup ((ends m r).map ak)]])[u.length]?=some [ax r,nD (cD m r),.tup ((ends m r).map ak)]:=by rw[QV (QA _),SN];rfl
 have H:Sub X (u++[[ax r,nD (cD m r),.tup ((ends m r).map ak)]]):=s2.trans .app;have l12:=s2.len;have l01:=k1.len;generalize u++[[ax r,nD (cD m r),.tup ((ends m r).map ak)]]=E at I H;have U:∃y,rq m (ends m r) y/\∀Z:Env,Z[2]?.getD none=some kd->Z[6]?.getD none=some (.cell u.length)->eP (ao (aG .isN (aa 2) gN)) (gS "many") (iu (aa 2) (aw (aa 6) (gI 2))) Z E=.ok y E:=by
  rcases hK with⟨rfl,mn⟩|⟨J,A,rfl,ef,all,few⟩
  ·exact{_,.inl ⟨rfl,mn⟩,λZ h2 Y=>eG (AQ h2) (λ_=>rfl) (λz=>nomatch z)}
  ·have ro:eV m r (ends m r) (cD m r):=⟨hr.2,rfl,rfl⟩;obtain⟨q,_,hl⟩:=jM ro.rch;obtain⟨x,hx,ex⟩:=QF.mp (all.mem.mpr hl);have nd:(A.map (·.1)).Nodup:=by have:=all.nd;rw[gr] at this;exact this
   have O:=H.get (k1.get ef (hf J rfl));have g:=u1 O nd hx;rw[show x.1=ends m r from congrArg Prod.fst ex,show x.2.1=q from congrArg Prod.snd ex] at g;refine{nD q,.inr {q,rfl,hl,all.few (by rw[Qx];exact few)},λZ h2 Y=>eG (AQ h2) (λz=>nomatch z) λ_=>uT (x:=.non) (ag h2) (bt (ag Y) rfl ?_) g}
   show(E[u.length]?).bind _=_;rw[I];rfl
 obtain⟨y,hy,ey⟩:=U;refine fN (vq rfl (ey _ rfl rfl) I (QL (show 3<4 by decide) (aH `d))) ?_
 have l3:=fu I;have p4:aJ (E.set u.length ([ax r,nD (cD m r),.tup ((ends m r).map ak)]++[y])) p (B+1):=(H.pen p1).setq (by have:=p1.lt;omega)
 have Q:aX p M (E.set u.length ([ax r,nD (cD m r),.tup ((ends m r).map ak)]++[y])):=by
  refine{by rw[List.length_set];have:=H.len;omega,λj hj hn=>?_}
  rw[Qv `a]
  exact(k1.trans H.keep).at' j hj hn
 have F:(E.set u.length ([ax r,nD (cD m r),.tup ((ends m r).map ak)]++[y]))[u.length]?=some [ax r,nD (cD m r),.tup ((ends m r).map ak),y]:=QI l3;generalize E.set u.length ([ax r,nD (cD m r),.tup ((ends m r).map ak)]++[y])=M4 at p4 Q F;obtain⟨xs,M5,e5,hx,p5,R⟩:=Ad (Z:=[some (.cell p),some (.fn (aj k)),some kd,some m.d,some (ax r),some (nD v),some (.cell u.length),none]) h.p.toHasP0 (n+11) rfl rfl hv p4 `a
 have s5:=s.keep' (Q.trans R) hk he;have L:=R.get F (by have:=p1.lt;omega)
 rw[aF,gK,kK,e5,bo];refine{rfl,?_};refine dO (λi Z M'=>Sub M5 M'/\∃W,Z=[some (.cell p),some (.fn (aj k)),some kd,some m.d,some (ax r),some (nD v),some (.cell u.length),W]) (λ_ _ _ _=>rfl) {.refl,_,rfl} ?_ ?_
 ·rintro i d Z M' hd ⟨S,W,rfl⟩;obtain⟨x,_,rfl⟩:=QF.mp (Q0 hd);refine{_,rfl,?_};exact Dx h n hm hr s5 hy S L λM6 S6=>{_,rfl,S6,_,rfl}
 ·rintro Z M' ⟨S,W,rfl⟩;rw[b7];exact eI rfl {rfl,S.pen p5,(Q.trans R).trans S.keep}
end
structure eK (M:Mem) (p B k e:Nat) (m:aK) (r:List Nat) (hs:List (List Nat)) (kd:D):Prop where
 pen:aJ M p B
 sh:bj M k e m r hs
 kn:Known m M kd
 hk:p<k
 he:p<e
 hf:∀fk,kd=.fn (aj fk)->fk≠p/\fk≠k/\fk≠e
section
variable{P:Nat->Option Df}{M M':Mem}{m:aK}{k e p B B':Nat}{r r':List Nat}{hs hs':List (List Nat)}{kd:D}
def Known.of (h:Known m M kd)(g:∀j xs,kd=.fn (aj j)->M[j]?=some xs->M'[j]?=some xs):Known m M' kd:=h.imp id λ⟨j,A,e,u,r⟩=>{j,A,e,g j _ e u,r}
def eK.keep (h:eK M p B k e m r hs kd)(s:aX p M M')(v:aJ M' p B'):eK M' p B' k e m r hs kd:=
 {v,h.sh.keep' s (Rn h.hk) (Rn h.he),h.kn.of λu xs e j=>s.get j (h.hf u e).1,h.hk,h.he,h.hf}
def eK.sub (h:eK M p B k e m r hs kd)(s:Sub M M'):eK M' p B k e m r hs kd:=h.keep s.keep (s.pen h.pen)
def eK.shop (h:eK M p B k e m r hs kd)(s:fW [k,e] M M')(y:bj M' k e m r' hs'):eK M' p B k e m r' hs' kd:=by
 have hk:=h.hk;have he:=h.he;have E:=h.pen.lt;refine{h.pen.of λj z=>s.at' j `a `o,y,h.kn.of λv xs e u=>s.get u (by have:=h.hf v e;simp;omega),hk,he,h.hf}
def zy (h:lV P)(hm:aB m)(hr:bg m r)(hh:∀x∈hs,bg m x)(hl:hs.length<=40)(hB:B<=500000)(st:eK M p B k e m r hs kd) :
 ae (zz (ah P 39) [x0,some (.cell p),x2,x3,some m.d,some kd,x6,some (.fn (aj k)),some (.lst ((hs++[r]).map ax)),x9,x10,x11,x12] M) λfl M'=>∃r' hs' L O,fl=.next [x0,some (.cell p),x2,x3,some m.d,some kd,x6,some (.fn (aj k)),some (.lst ((hs'++[r']).map ax)),x9,x10,L,O]/\eK M' p (B+6) k e m r' hs' kd/\bg m r'/\(∀x∈hs',bg m x)/\hs'.length<=hs.length+1:=by
 refine Iv (kd:=λd M'=>∃u v,d=.tup [.lst (u.map ax),v]/\Mj m hs r u v/\aJ M' p (B+3)/\aX p M M') ?_ ?_
 ·rw[aZ (af (ag rfl) (af (ag rfl) (af (ag rfl) dw)))];exact xC h.p.toHasP0 h.c.toHasC0 36 hm hr `a st.pen `a
 rintro _ Q ⟨u,v,rfl,X,p1,k1⟩;refine{_,rfl,?_};have E:=st.keep k1 p1;refine kB (R:=λM'=>aJ M' p (B+4)/\aX p Q M') ?_ λS ⟨p2,k2⟩=>?_
 ·rw[Ej,fX,g4];refine aM (fv h.p.toHasP0 37 rfl rfl E.pen `a `d `d) ?_
  rintro _ S ⟨t,rfl,ht,p2,k2⟩;have y:=E.keep k2 p2;refine{(t:Int)==0,rfl,(t:Int)==0,rfl,?_};cases (t:Int)==0 with
  |false=>exact⟨rfl,p2,k2⟩
  | true=>
    rw[ku (b5 ((aZ (af rfl dw)).trans (tR h.m.toHasM0.toHasB0 h.o h.h194 36 y.sh))),bo];exact⟨rfl,p2,k2⟩
 have y:=E.keep k2 p2;obtain⟨hs',r',Y,z,H,I,ok⟩:=Jq h.m h.o h.a h.c.toHasC0 23 hm hr hh `a X y.sh
 subst Y;refine kB (R:=λM'=>eK M' p (B+4) k e m r' hs' kd) ?_ λU j=>?_
 ·rw[sS,fX,uZ,cb,aZ (af (ag rfl) (af (ag rfl) dw))];refine aM ok ?_;rintro _ U ⟨rfl,s3,k3⟩;have j:=y.shop k3 s3;rw[cb,aZ (af (ag rfl) (af (oM rfl) (af (oM rfl) dw)))];refine aM (xB h.s h.c h.h44 36 hm hr z) ?_;rintro _ F ⟨rfl,W⟩;show ae (ah P 39 40 [fO (b9 m r r'),fO (b9 m r r')] F) _;rw[vI h.s h.c h.h44 37 hm];exact{true,rfl,rfl,j.sub W}
 refine bY (cg (ag rfl)) ?_;refine kB (R:=λM'=>eK M' p (B+6) k e m r' hs' kd) ?_ λF J=>?_
 ·rw[sS,fX,aZ (af (ag rfl) (af (ag rfl) (af (ag rfl) (af (ag rfl) (af (oM rfl) dw)))))];refine aM (pw h 25 hm z j.sh j.kn (λfk e=>(j.hf fk e).1) (Rn j.hk) (Rn j.he) j.pen `a) ?_
  rintro _ F ⟨rfl,p4,k4⟩;exact{true,rfl,rfl,j.keep k4 p4}
 exact{r',hs',_,_,rfl,J,z,H,I}
def xH (h:((List.range n).map λ(k:Nat)=>D.int (k:Int))[i]?=some d):i<n/\d=nD i:=by
 have j:i<n:=by have:=(Qs.mp h).1;rwa [Qx,RV] at this
 rw[QX,SU j] at h;exact{j,(Qz h).symm}
def yc (h:lV P)(hm:aB m)(hr:bg m r)(hB:B<=400000)(st:eK M p B k e m r [] kd)(kk:∀M' z8 F u y E,aJ M' p (B+100)->kf (.next [x0,some (.cell p),x2,some (nD g),some m.d,some kd,some (ax r),some (.fn (aj k)),z8,F,u,y,E]) M') :
 ae (nv (ah P 39) [x0,some (.cell p),x2,some (nD g),some m.d,some kd,some (ax r),some (.fn (aj k)),some (.lst [ax r]),x9,x10,x11,x12] M) kf:=by
 unfold nv;rw[aF,gK,gJ,eX];refine{2,rfl,{`d,`d},?_}
 refine dO (λi Z M'=>eK M' p (B+2*i) k e m r [] kd/\∃F,Z=[x0,some (.cell p),x2,some (nD g),some m.d,some kd,some (ax r),some (.fn (aj k)),some (.lst [ax r]),F,x10,x11,x12]) (λ_ _ _ _=>rfl) {st,_,rfl} ?_ ?_
 ·rintro i d Z M' hd ⟨s1,F,rfl⟩;obtain⟨hi,rfl⟩:=xH hd;refine{_,rfl,?_};refine kB (R:=λM'=>eK M' p (B+2*(i+1)) k e m r [] kd) ?_ λH s2=>?_
  ·rw[sS,fX,aZ (af (ag rfl) (af (ag rfl) (af (ag rfl) (af (ag rfl) (af (ag rfl) dw)))))];refine aM (pw h 25 hm hr s1.sh s1.kn (λfk e=>(s1.hf fk e).1) (Rn s1.hk) (Rn s1.he) s1.pen `a) ?_
   rintro _ X ⟨rfl,p4,k4⟩;exact{true,rfl,rfl,s1.keep k4 (p4.mono `a)}
  ·exact{_,rfl,s2,_,rfl}
 ·rintro Z I ⟨s1,F,rfl⟩;rw[b7];have s1:eK I p (B+4) k e m r [] kd:=s1;have L:∃(w:Nat) (H:Mem),w<=5/\eP (ao (aG .eq (aa 3) (gI 0))) (gI 2) (au false .add (gI 3) (ai 31 (ah P 39) #[aa 1,gI 3])) [x0,some (.cell p),x2,some (nD g),some m.d,some kd,some (ax r),some (.fn (aj k)),some (.lst [ax r]),F,x10,x11,x12] I=.ok (nD w) H/\eK H p (B+5) k e m r [] kd:=by
   by_cases hg:g=0
   ·refine{2,I,`d,eG (k:=true) (show Res.ok ((g:Int)==0) I=_ by rw[hg];rfl) (λ_=>rfl) (λz=>nomatch z),s1.keep .refl (s1.pen.mono `a)}
   ·obtain⟨_,H,e2,v,rfl,hv,p2,k2⟩:=d8.mp (fv h.p.toHasP0 37 (many:=3) (j:=1) (g:=gC (.int 3)) (Z:=[x0,some (.cell p),x2,some (nD g),some m.d,some kd,some (ax r),some (.fn (aj k)),some (.lst [ax r]),F,x10,x11,x12]) rfl rfl s1.pen `a `d `d)
    refine{3+v,H,`a,?_,s1.keep k2 p2}
    show(if ((g:Int)==0)=true then _ else au false .add (gI 3) (ai 31 (ah P 39) #[aa 1,gI 3]) [x0,some (.cell p),x2,some (nD g),some m.d,some kd,some (ax r),some (.fn (aj k)),some (.lst [ax r]),F,x10,x11,x12] I)=_;rw[show((g:Int)==0)=false from RC.mpr `a,if_neg QZ]
    show(ai 31 _ _ _ I).bind _=_;rw[e2];show Res.ok (D.int ((3:Int)+(v:Int))) H=_;rw[show(3:Int)+(v:Int)=((3+v:Nat):Int) by omega]
  obtain⟨w,H,hw,Y,s2⟩:=L;rw[aF,gK,gJ,Y,bo];refine{w,rfl,{`a,`a},?_}
  rw[RP];refine dO (λi Z M'=>∃r' hs' u y E,Z=[x0,some (.cell p),x2,some (nD g),some m.d,some kd,some (ax r),some (.fn (aj k)),some (.lst ((hs'++[r']).map ax)),F,u,y,E]/\eK M' p (B+5+6*i) k e m r' hs' kd/\bg m r'/\(∀x∈hs',bg m x)/\hs'.length<=i) (λ_ _ _ _=>rfl) {r,[],_,_,_,rfl,s2,hr,(λ_ hx=>nomatch hx),QA _} ?_ ?_
  ·rintro i d Z M' hd ⟨r',hs',u,y,E,rfl,J,S,O,hl'⟩;obtain⟨hi,rfl⟩:=xH hd;refine{_,rfl,aM (zy h hm S O `a `a J) ?_}
   rintro _ X ⟨r2,W,y11,y12,rfl,s4,U,Q,hl2⟩;exact{_,rfl,r2,W,_,_,_,rfl,s4,U,Q,`a}
  ·rintro Z M' ⟨r',hs',u,y,E,rfl,J,_⟩;rw[Qx,RV] at J;exact kk M' _ _ _ _ _ (J.pen.mono `a)
def zj (h:lV P)(hp:aJ M p B)(hB:B<=100000)(kk:∀M' z3 z4 z5 z6 z7 Y z9 F H I,aJ M' p (B+2000)->kf (.next [x0,some (.cell p),x2,z3,z4,z5,z6,z7,Y,z9,F,H,I]) M') :
 ae (zm (ah P 39) [x0,some (.cell p),x2,x3,x4,x5,x6,x7,x8,x9,x10,x11,x12] M) kf:=by
 refine c9 (k:=λd M'=>∃g:Nat,d=nD g/\aJ M' p (B+1)) ?_ ?_
 ·rw[uZ,cb,aZ (af (ag rfl) dw)];refine aM (Gu h.p.toHasP0 38 hp) ?_;rintro _ Q ⟨rfl,p1,_⟩;show ae (ah P 39 31 [.cell p,nD 8] Q) _;refine aM (qu h.p.toHasP0 37 p1 `a `d `d) ?_
  rintro _ R ⟨g,rfl,_,p2,_⟩;exact⟨g,rfl,p2⟩
 rintro _ Q ⟨g,rfl,p1⟩;refine c9 (k:=λd M'=>∃m:aK,d=m.d/\aB m/\aJ M' p (B+400)) ?_ ?_
 ·rw[aZ (af (ag rfl) dw)];refine aM (B5 h.p h.h191 33 p1 `a) ?_
  rintro _ R ⟨m,rfl,hm,p2,_⟩;exact{m,rfl,hm,p2.mono `a}
 rintro _ R ⟨m0,rfl,O,p2⟩;have rest:∀{y:Mem}{m:aK},aB m->aJ y p (B+800)->ae (aS (az (.one 5) (ai 159 (ah P 39) #[aa 4,au false .pow (gI 10) (gI 9)])) (aS (az (.one 6) (ai 35 (ah P 39) #[aa 1,aa 4,gI 5])) (aS (az (.one 7) (nI 40 129 (ah P 39) #[aa 4,aL (.list false) #[aa 6]])) (aS (az (.one 8) (aT false #[aa 6])) (nv (ah P 39))))) [x0,some (.cell p),x2,some (nD g),some m.d,x5,x6,x7,x8,x9,x10,x11,x12] y) kf:=λ{y m} hm v=>by
  obtain⟨kd,S,e4,s4,hc⟩:=d8.mp (zO h.s.toHasB h.h158 h.h159 36 hm);refine fN (jy ((aZ (af rfl (af (xI rfl rfl {`d,`d} `d) rfl))).trans e4)) ?_
  have p4:=s4.pen v;have lp:=v.lt;have kn:Known m S kd/\∀j,kd=.fn (aj j)->j≠p/\j<S.length:=by
   rcases hc with⟨rfl,mn⟩|⟨j,A,rfl,hf,J,_,all,few⟩
   ·exact{.inl {rfl,_,mn},λj z=>nomatch z}
   ·refine{.inr {j,A,rfl,J,(all `d).1,few},λL z=>?_}
    have z:j=L:=by
     have z:=D.fn.inj z;unfold aj at z;omega
    subst z;exact{`a,fu J}
  obtain⟨kn,E⟩:=kn;obtain⟨d,u,e5,r,rfl,hr,_,X,W⟩:=d8.mp (Gj h.p h.h35 36 (mo:=5) hm p4 `a `d)
  refine fN (jy ((aZ (af rfl (af rfl (af rfl rfl)))).trans e5)) ?_;have lr:(r.map nD).length<=100000:=by rw[Qx];omega
  refine c9 (k:=λd M'=>d=.fn (aj u.length)/\M'=u++[[.int 40,m.d,ax r,.cell (u.length+1)],[]]) ?_ ?_
  ·refine Hl (ds:=[m.d,ax r]) (af rfl (af (aq (dj.mpr (by rw[af rfl rfl,bo];exact uF.mpr (cn.mpr {aH lr,rfl,rfl})))) rfl)) ?_
   rw[Gi h.m h.o 29 (x:=ax r) .l hm hr];exact⟨rfl,rfl,rfl⟩
  rintro _ _ ⟨rfl,rfl⟩;refine bY (cg (fS (af rfl dw) (Q9 rfl))) ?_;have U:Sub u (u++[[.int 40,m.d,ax r,.cell (u.length+1)],[]]):=.app;have l5:=X.lt;have st:eK (u++[[.int 40,m.d,ax r,.cell (u.length+1)],[]]) p (B+850) u.length (u.length+1) m r [] kd:=by
   have k45:=W.len;refine{U.pen X,{`s,`s},(kn.of λj xs e J=>U.get (W.get J (E j e).1)),l5,`a,λj e=>?_}
   have:=E j e;exact{this.1,`a,`a}
  exact yc h hm hr `a st λM' Y z9 F H I q=>kk M' _ _ _ _ _ _ _ _ _ _ (q.mono `a)
 refine bN (f6 rfl) (λ_=>?_) λ_=>rest O (p2.mono `a)
 refine c9 (k:=λd M'=>∃m:aK,d=m.d/\aB m/\aJ M' p (B+800)) ?_ ?_
 ·rw[aZ (af rfl (af rfl (af rfl (af rfl dw))))];refine aM (pz h.p 34 p2 `a `d `d `d `d `d `d) ?_
  rintro d y ⟨m,e,hm,_,_,_,v,_⟩;exact{m,e,hm,v.mono `a}
 rintro _ y ⟨m,rfl,hm,v⟩;exact rest hm v
def MY (h:lV P)(ns:List Int)(hn:ns.length<=63):∃M,ah P 40 195 [.frz (ns.map D.int)] []=.ok (.bl true) M:=by
 have y:ae (ah P 40 195 [.frz (ns.map D.int)] []) λd _=>d=.bl true:=by
  refine ay h.h195 rfl ?_;show ae (nU (ah P 39) [some (.frz (ns.map D.int)),none,none,none,none,none,none,none,none,none,none,none,none] []) _;unfold nU;refine c9 (k:=λd M'=>d=.cell 1/\aJ M' 1 0) ?_ ?_
  ·rw[aZ (af rfl rfl)];exact Gn h.p.toHasP0 38 hn
  rintro _ X ⟨rfl,p1⟩;rw[aF,gK,gJ,eX];refine{2,rfl,{`d,`d},?_}
  refine dO (λi Q M'=>aJ M' 1 (2000*i)/\∃z E F H I J L O j u v,Q=[some (.frz (ns.map D.int)),some (.cell 1),z,E,F,H,I,J,L,O,j,u,v]) (λ_ _ _ _=>rfl) {p1,_,_,_,_,_,_,_,_,_,_,_,rfl} ?_ ?_
  ·rintro i d Q M' hd ⟨R,z,E,F,H,I,J,L,O,j,u,v,rfl⟩;obtain⟨hi,rfl⟩:=xH hd;refine{_,rfl,?_};exact zj h R `a λY z3 z4 z5 z6 z7 z8 z9 S U W p2=>{_,rfl,p2.mono `a,_,_,_,_,_,_,_,_,_,_,_,rfl}
  ·rintro Q M' ⟨R,z,E,F,H,I,J,L,O,j,u,v,rfl⟩;rw[b7];exact eI rfl rfl
 obtain⟨d,M,e,rfl⟩:=d8.mp y;exact⟨M,e⟩
end
end LD
end
set_option maxHeartbeats 0
namespace K53
open PySem PySem.Spec PyProof.Rows L2 LD
noncomputable def top (i:Nat):Stmt:=PySem.Challenge.pw_leastdeeds_k53_least_behind_each_change.main.body.getD i (.Pass {0,0,0,0})
noncomputable def q0:Str×Tok:=("leastdeeds.wholes",458)
noncomputable def q1:Str×Tok:=("leastdeeds.machines",469)
noncomputable def q2:Str×Tok:=("leastdeeds.runs",646)
noncomputable def q3:Str×Tok:=("leastdeeds.alike",741)
noncomputable def q4:Str×Tok:=("leastdeeds.least",757)
noncomputable def q5:Str×Tok:=("leastdeeds.shop",802)
noncomputable def q6:Str×Tok:=("law_leastdeeds_k53_least_behind_each_change",905)
noncomputable def tb:List Ent:=[{0,"is_between",top 17,3,["thing","low","high"],223,q0,ju,false,none,0},
 {1,"is_word",top 25,2,["words","thing"],230,q1,mP,false,none,0},
 {2,"is_place",top 26,2,["places","thing"],237,q1,lR,false,none,0},
 {3,"is_cost",top 27,1,["thing"],244,q1,mU,false,none,0},
 {4,"is_tuple_of",top 28,2,["long","thing"],251,q1,iL,false,none,0},
 {5,"is_table",top 29,2,["words","thing"],256,q1,lQ,false,none,0},
 {6,"is_double_table",top 30,2,["words","thing"],261,q1,fQ,false,none,0},
 {7,"is_turn",top 31,3,["words","places","parts","at","table","price"],268,q1,mQ,false,none,0},
 {8,"is_join",top 32,3,["words","places","parts","at","other","table","price"],275,q1,mS,false,none,0},
 {9,"is_move",top 33,3,["words","places","parts","at","other","price"],282,q1,mR,false,none,0},
 {10,"is_put",top 34,3,["words","places","parts","at","word","price"],289,q1,oZ,false,none,0},
 {11,"is_deed",top 36,3,["words","places","thing","sort","is_sort"],297,q1,mT,false,none,0},
 {12,"is_machine",top 37,1,["thing","words","places","deeds"],302,q1,jt,false,none,0},
 {13,"need_machine",top 38,1,["thing"],309,q1,ie,true,none,0},
 {15,"beginnings",top 39,1,["machine","words","places","deeds","starts","place"],314,q1,cf,true,none,0},
 {16,"is_deed_number",top 40,2,["machine","thing"],321,q1,gp,false,none,0},
 {17,"need_numbers",top 41,2,["machine","row","place","thing"],328,q1,ic,true,none,0},
 {18,"need_row",top 42,2,["machine","row"],335,q1,lO,true,none,0},
 {47,"summed_cost",top 43,2,["machine","row"],340,q1,f9,false,none,0},
 {20,"turned",top 45,2,["deed","standing","sort","at","table","price"],347,q2,lM,false,none,0},
 {21,"joined",top 46,2,["deed","standing","sort","at","other","table","price"],354,q2,lP,false,none,0},
 {22,"moved",top 47,2,["deed","standing","sort","at","other","price"],361,q2,nS,false,none,0},
 {23,"put_in",top 48,2,["deed","standing","sort","at","word","price"],368,q2,lN,false,none,0},
 {24,"done",top 50,2,["deed","standing","new_word","at"],376,q2,qi,false,none,0},
 {25,"all_standing",top 51,3,["machine","row","beginning","standings","number"],383,q2,ig,false,none,0},
 {46,"ends_of",top 52,2,["machine","row"],388,q2,gE,false,none,0},
 {27,"behaviour",top 53,2,["machine","row"],395,q2,ix,true,none,0},
 {48,"parted",top 55,3,["machine","one","other","one_ends","other_ends","start","one_end","other_end"],402,q3,oY,true,none,0},
 {151,"priced_leads",top 58,1,["machine","starts"],407,q4,eJ,true,none,0},
 {152,"led_to",top 59,2,["lead","ends"],412,q4,eT,false,none,0},
 {165,"next_level",top 60,3,["leads","levels","found","price","level","number","step_price","lead","ahead","ends","new_ends"],419,q4,g8,true,none,0},
 {166,"reached",top 61,2,["machine","bound","leads","empty_ends","found","levels"],427,q4,js,true,none,420},
 {129,"__init__",inClass (top 63) 0,3,["self","machine","row"],441,q5,jX,true,some "Shop.__init__",0},
 {130,"row",inClass (top 63) 1,1,["self"],448,q5,qk,false,some "Shop.row",0},
 {131,"cost",inClass (top 63) 2,1,["self"],455,q5,oj,false,some "Shop.cost",0},
 {132,"behaviour",inClass (top 63) 3,1,["self"],462,q5,jx,false,some "Shop.behaviour",0},
 {190,"least",inClass (top 63) 4,1,["self"],469,q5,fy,true,some "Shop.least",0},
 {133,"put",inClass (top 63) 5,3,["self","place","number"],476,q5,iW,true,some "Shop.put",0},
 {134,"out",inClass (top 63) 6,2,["self","place"],483,q5,lS,true,some "Shop.out",0},
 {135,"back",inClass (top 63) 7,1,["self"],490,q5,j7,true,some "Shop.back",0},
 {136,"change",inClass (top 63) 8,2,["self","row"],497,q5,l4,false,some "Shop.change",0},
 {137,"give",inClass (top 63) 9,2,["self","row","start"],504,q5,oh,true,some "Shop.give",0},
 {28,"_law_spread",top 65,2,["cell","at","primes","one","two","three"],518,q6,lY,false,none,0},
 {29,"_law_open",top 66,1,["script","cells","k","cell"],525,q6,j5,false,none,0},
 {30,"_law_anew",top 67,1,["pen"],532,q6,j6,false,none,0},
 {31,"_law_take",top 68,2,["pen","many","at","cell","found"],539,q6,og,false,none,0},
 {40,"_law_same",top 69,2,["found","due"],544,q6,d5,false,none,0},
 {32,"_law_tab",top 70,2,["pen","words","kind","word","other","found"],549,q6,iV,false,none,0},
 {33,"_law_deed",top 71,3,["pen","words","places","kind","price","at","other"],554,q6,iy,false,none,0},
 {34,"_law_machine",top 72,4,["pen","words","places","most","deeds","k","again","deed"],561,q6,fG,false,none,0},
 {35,"_law_row",top 73,3,["pen","machine","most","kind","many","found"],566,q6,g9,false,none,0},
 {41,"_law_after",top 74,2,["deed","end","here","own"],573,q6,jw,false,none,0},
 {42,"_law_begins",top 75,1,["machine"],578,q6,iM,false,none,0},
 {44,"_law_ends",top 76,2,["machine","row","found","end","number"],585,q6,e9,false,none,0},
 {89,"_law_price",top 77,2,["machine","row"],590,q6,jv,false,none,0},
 {158,"_law_behind",top 78,3,["machine","here","number"],595,q6,da,false,none,0},
 {159,"_law_costs",top 79,2,["machine","bound","found","due","price","here","number","deed"],602,q6,fx,false,none,0},
 {75,"_law_refusal",top 80,1,["caught","some","words"],609,q6,dt,false,none,0},
 {138,"_law_change",top 81,3,["pen","machine","rows","way","row","at","number"],616,q6,lZ,false,none,0},
 {139,"_law_do",top 82,2,["shop","told"],623,q6,fw,false,none,0},
 {140,"_law_parted",top 83,3,["machine","one","other","begin","here","there"],630,q6,gg,false,none,0},
 {191,"_law_small_machine",top 84,1,["pen","kind"],637,q6,eU,false,none,0},
 {192,"_law_told",top 85,1,["shop","caught","found","e"],644,q6,fm,false,none,0},
 {193,"_law_right",top 86,5,["pen","shop","known","machine","row","start","due","at"],651,q6,fo,false,none,0},
 {194,"_law_refused",top 87,1,["shop"],658,q6,eh,false,none,0},
 {195,"law",top 88,1,["script","pen","turn","great","machine","known","row","shop","rows","again","step","later","told"],665,q6,nU,false,none,0}]
def rs:Rs:={[Ef,Ee,Ed,N0,zf,Jd,D8,zh,Jc,IX,IV,IZ,IY,Je,IU,y8,zb,Eb,Ec,zd,Eh,Eg,Jb,NZ,I8,D9,Ea,IW],[IP,vT],[IG,yT,DU,DV],[D4,D5,D3,DZ,IM],[DN,DR,yP,DQ,IC,IE,IF,ID,IB,yR,Iz,vQ,Bv]}
def MD:DG rs:={⟨BO,BN,BM,Ja,ze,F6,BH,zg,F5,FZ,FX,F1,F0,F7,FW,y4,y9,BK,BL,zc,BQ,BP,F4,I9,F2,BI,BJ,FY,trivial⟩,⟨FU,Mp,trivial⟩,⟨FL,yS,Bx,By,trivial⟩,⟨BF,BG,BE,BD,FR,trivial⟩,⟨Bt,Bw,yO,Bu,FG,FJ,FK,FH,FE,yQ,FD,xt,FI,trivial⟩}
noncomputable def te0:List (Str×En):=List.map (λx=>(x,En.bl)) ["ValueError","all","any","bool","enumerate","int","isinstance","len","list","range","str","sum","tuple","zip"]
def te1:List (Str×En):=[("LEAST_WORDS",.int 2),("LONGEST_ROW",.int 40),("MOST_BEHAVIOURS",.int 255),("MOST_COST",.int 3),("MOST_DEEDS",.int 6),("MOST_PLACES",.int 2),("MOST_WORDS",.int 4),("NEW_WORDS",.dct cz),("SORTS",.dct d4),("NoRow",.xk 0),("NoRule",.xk 1),("NoStep",.xk 2)]
noncomputable def te2:List (Str×En):=[("NoMachine",.xc 3),("TooLong",.xc 4),("NoWord",.xk 5),("NoWork",.xk 6),("NoBound",.xk 7),("TooMany",.xc 8),("NoPlace",.xc 9),("NoDeed",.xc 10),("Nothing",.xc 11),("NoText",.xk 12),("NoLine",.xk 13),("DeedError",.de)]
noncomputable def te3:List (Str×En):=[("Shop",.cls 40 129)]
def te:List (Str×En):=te0++te1++te2++te3
def tbl:mW:={(tb.filter (·.q.isNone)).map (λe=>(e.x,if e.i==166 then En.fnD e.i else En.fn e.i e.r))++te,[("NoPlace","NoPlace",9,9)],[],[("NEW_WORDS",cz),("SORTS",d4)],[],[(149,16,27),(175,12,14),(181,42,67),(189,29,31),(190,13,27),(201,23,25),(204,15,34),(253,12,29),(256,11,24),(299,12,30),(318,12,14),(334,11,20),(350,12,14),(361,12,14),(362,10,41),(362,11,40),(372,35,37),(425,10,66)],[(172,18,27),(180,15,36),(181,16,31),(181,42,53),(183,19,29),(189,12,33),(213,15,54),(361,12,14),(366,15,32),(367,16,27),(368,19,29),(419,16,28),(426,44,57),(439,8,23)],[("back",40,135),("behaviour",40,132),("change",40,136),("cost",40,131),("give",40,137),("least",40,190),("out",40,134),("put",40,133),("row",40,130)],rs,tb}
def Pg:Nat->Option Df:=tbl.Pg
def ME:∀c,tb.map (tbl.rd c)=tb.map λe=>some (e.b c):=λc=>by kernel_rfl
def tab:yH tbl:={MD,ME,by kernel_rfl,by kernel_rfl,λ_ _ _ _ _ _=>by kernel_rfl,λ_ _ _ _ _ _ _=>by kernel_rfl,λ_ _ _ _ _ _ _ _=>by kernel_rfl,λ_ _ _ _ _ _ _ _ _=>by kernel_rfl,λ_ _ _ _ _ _ _ _ _ _=>by kernel_rfl,λ_ _ _ _ _ _ _ _ _ _ _ _=>by kernel_rfl,λ_ _ _ _ _ _ _ _ _ _ _=>by kernel_rfl,by rw[show tbl.tb.filter (λe=>!(e.df==0))=[tb[31]] from by kernel_rfl];exact{{rfl,λ_ _ _ _ _ _ _ _=>{_,_,rfl,rfl,rfl,rfl}},trivial}}
def fa:Fa:=LD.uX (tb.map (λe=>(e.i,e.f))++[(940,507),(666,1)]) [(0,44),(1,63),(2,82),(3,94),(4,106),(5,118),(6,130),(7,142),(8,154),(9,166),(10,178),(11,190),(12,202),(13,214)] 24
def CW:∀ns:List Int,ns.length<=63->∃M,ah Pg 40 195 [.frz (ns.map D.int)] []=.ok (.bl true) M:=MY (by repeat' (first|rfl|constructor))
end K53
open PySem PySem.W PyProof.Rows K53
set_option maxRecDepth 100000 in
set_option maxHeartbeats 0 in
theorem PySem.Challenge.cw_leastdeeds_k53_least_behind_each_change_holds : PySem.Challenge.rw_leastdeeds_k53_least_behind_each_change.Holds := by
 w_on;o_law
 refine PySem.W.holds_open (r:=K53.yg) (q:=K53.kq) (loose:=K53.pP) (Xt:=fun s=>PySem.W.xlAt K53.kq [] s&&PySem.W.recOk (PySem.W.RowW.records K53.yg.toRowW) s) (XP:=PySem.W.XL K53.kq []) (Yf:=K53.kH.obs) (Ya:=K53.kH.val) (YP:=K53.kH.says) (N:=11712) K53.MZ K53.kH.of K53.kH.keeps (fun s e=>PySem.W.xl_of s (RS.mp e).1) PySem.W.XL.keeps `r `r `r (fun s e=>PySem.W.recFacts_of (RS.mp e).2) `r (by first|assumption|decide +kernel) `k ⟨rfl,rfl,rfl,rfl,rfl,`k⟩ ?hw ?hc
 case hw=>w_witness2
 refine L2.FQ (l:=PySem.Challenge.rw_leastdeeds_k53_least_behind_each_change) (n:=63) (k:=84) (x:="script") (CX:=fun w=>LD.iH PySem.Challenge.rw_leastdeeds_k53_least_behind_each_change.prog w) (K:=K53.kh) (sp:=fun w=>LD.Eo (K53.kh w.params)) rfl `d rfl ⟨rfl,`d,`d,rfl⟩ (fun w h Y=>PySem.W.kIn_of Y) ?F (fun w H a ns hl hO hS=>⟨a,ns,rfl,hS,hO,hl,fun _=>rfl⟩) (fun _ _ _ _ _ z=>let⟨_,_,_,_,_,_,_,_,_,_,q⟩:=z;q)
 case F=>
  intro w mg fa h KX G hmg;have tk:LD.Bq (K53.kh w.params) K53.tb:=⟨by kernel_rfl,by kernel_rfl,by kernel_rfl,by kernel_rfl⟩
  obtain⟨m,fd,F⟩:=LD.Gb tk KX G (e:=K53.tb[65]) (Sm _) rfl rfl;have d_NEW_WORDS:=LD.wA (x:="NEW_WORDS") (P:=w.params) (fa:=K53.fa) (fs:=LD.cz) (ad:=369) (es:=#[{hash:=PySem.PyData.keyHash w.params (PySem.Str.ofString "turn"),key:=PySem.Value.str (PySem.Str.ofString "turn") 697,val:=PySem.Value.ref 347},{hash:=PySem.PyData.keyHash w.params (PySem.Str.ofString "join"),key:=PySem.Value.str (PySem.Str.ofString "join") 698,val:=PySem.Value.ref 354},{hash:=PySem.PyData.keyHash w.params (PySem.Str.ofString "move"),key:=PySem.Value.str (PySem.Str.ofString "move") 699,val:=PySem.Value.ref 361},{hash:=PySem.PyData.keyHash w.params (PySem.Str.ofString "put"),key:=PySem.Value.str (PySem.Str.ofString "put") 700,val:=PySem.Value.ref 368}]) (n:=4) KX G (by kernel_rfl) (by kernel_rfl) (by exact LD.gz (LD.gz (LD.gz (LD.gz (LD.AK))))) `k `d (by exact .cons ⟨rfl,rfl⟩ (.cons ⟨rfl,rfl⟩ (.cons ⟨rfl,rfl⟩ (.cons ⟨rfl,rfl⟩ (.nil)))))
  have d_SORTS:=LD.wA (x:="SORTS") (P:=w.params) (fa:=K53.fa) (fs:=LD.d4) (ad:=290) (es:=#[{hash:=PySem.PyData.keyHash w.params (PySem.Str.ofString "turn"),key:=PySem.Value.str (PySem.Str.ofString "turn") 575,val:=PySem.Value.ref 268},{hash:=PySem.PyData.keyHash w.params (PySem.Str.ofString "join"),key:=PySem.Value.str (PySem.Str.ofString "join") 576,val:=PySem.Value.ref 275},{hash:=PySem.PyData.keyHash w.params (PySem.Str.ofString "move"),key:=PySem.Value.str (PySem.Str.ofString "move") 577,val:=PySem.Value.ref 282},{hash:=PySem.PyData.keyHash w.params (PySem.Str.ofString "put"),key:=PySem.Value.str (PySem.Str.ofString "put") 578,val:=PySem.Value.ref 289}]) (n:=4) KX G (by kernel_rfl) (by kernel_rfl) (by exact LD.gz (LD.gz (LD.gz (LD.gz (LD.AK))))) `k `d (by exact .cons ⟨rfl,rfl⟩ (.cons ⟨rfl,rfl⟩ (.cons ⟨rfl,rfl⟩ (.cons ⟨rfl,rfl⟩ (.nil)))))
  have TO:=fun base=>LD.Ga (base:=base) (P:=PySem.Challenge.rw_leastdeeds_k53_least_behind_each_change.prog) (w:=w) (t:=K53.tbl) (fa:=K53.fa) KX G (by kernel_rfl) (LD.IH (by kernel_rfl)) (LD.Ko (by kernel_rfl)) (LD.Dg (by kernel_rfl)) ⟨rfl,rfl⟩ ⟨d_NEW_WORDS,d_SORTS,trivial⟩ trivial
  have tw:LD.AllP (fun q=>LD.xn K53.fa (K53.kh w.params) mg q.1 q.2.1 q.2.2.1 q.2.2.2) K53.tbl.tw:=⟨LD.Jg (LD.Aw (x:="NoPlace") (f:=166) KX G (by kernel_rfl)) (LD.Aw (x:="NoPlace") (f:=166) KX G (by kernel_rfl)) (by kernel_rfl),trivial⟩
  have xf:LD.AllP (fun f=>LD.Ft K53.fa (K53.kh w.params) f) K53.tbl.xf:=trivial
  have ms:∀q∈K53.tbl.ms,LD.qo K53.fa (K53.kh w.params) q.1 q.2.1 q.2.2:=LD.KA (by kernel_rfl)
  have e:=hmg.symm.trans m;cases e;exact⟨fd,fun s v=>by
   obtain⟨oc,od,kV,doc,pm,an,cdv,ct,osl,rfl,lk,hcd⟩:=F.ex;exact .of_eq rfl,fun base _ _=>LD.KP (n:=39) (f:=195) (LD.B1 K53.tab tk KX G (TO base) tw.mem xf.mem ms (by kernel_rfl)) K53.CW rfl F (LD.p6 (e:=K53.tb[65]) (QY.mp K53.tab.sc K53.tb[65] (Sm _))).1 rfl fun c n a b d s H E C hr=>LD.tH (e:=K53.tb[65]) K53.tab (TO base) tw.mem xf.mem ms (Sm _) c n a b d s H E C hr⟩
