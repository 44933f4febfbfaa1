import PyProof.Rows.All
import Wide.All
import OpenK.AllK
import Wide.FinOn
import Lean
import PyProof.EqAt
import PyProof.EqKinds
import PyProof.TupleCall
import PyProof.StrOps
import PyProof.MeetsStr
import PyProof.StrLawsJoin
import PySem.Challenge.RW_leastdeeds_k42_mending_refused
set_option Elab.async false
set_option linter.all false
set_option maxRecDepth 100000
set_option tactic.hygienic false
set_option autoImplicit true
set_option relaxedAutoImplicit true
set_option genSizeOfSpec false
set_option genSizeOf false
set_option maxHeartbeats 0
set_option bootstrap.genMatcherCode false
set_option genSizeOf false
noncomputable section
local macro_rules(kind:=«term{_}»)|`({$a:term,*})=>`(⟨$a,*⟩)
local macro_rules(kind:=Lean.Parser.Term.quotedName)|x=>match x[0].isNameLit?.getD .anonymous|>.toString with|"a"=>`(by omega)|"d"=>`(by decide)|"s"=>`(by simp)|"o"=>`(by simp;omega)|"k"=>`(by decide +kernel)|"r"=>`(by rfl)|_=>Lean.Macro.throwUnsupported
local macro_rules|`(tactic|omega)=>`(tactic|first|(simp +arith;done)|lia|omega(config:={}))
abbrev tqa:=@PySem.wpAny_bind
abbrev tqb:=@PySem.wpAny_pure
abbrev tqf:=@PySem.wpAny_field
abbrev tqo:=@PySem.wpAny_holding
abbrev tqp:=@PySem.wpAny_truthy_bool
abbrev O0:=@PySem.W.Frag
abbrev O1:=@List.getElem?_eq_some_iff
abbrev O2:=@Bool.and_eq_true
abbrev O3:=@PySem.Value
abbrev O4:=@Nat.le_refl
abbrev O5:=@PySem.Heap.get?_push_of_some
abbrev O7:=@List.length_map
abbrev O8:=@PySem.Shared
abbrev O9:=@List.getElem?_append_left
abbrev Pa:=@List.mem_cons_of_mem
abbrev Pb:=@Nat.le_of_ble_eq_true
abbrev Pc:=@List.getElem?_set_ne
abbrev Pd:=@List.size_toArray
abbrev Ph:=@Option.some.inj
abbrev Pj:=@List.mem_singleton
abbrev Pk:=@Nat.le_trans
abbrev Pm:=@List.all_eq_true
abbrev Pn:=@List.mem_cons_self
abbrev Po:=@PySem.Heap.lt_size
abbrev Pp:=@List.mem_map
abbrev Pq:=@Option.map_eq_some_iff
abbrev Pr:=@List.mem_cons
abbrev Pt:=@List.length_append
abbrev Pu:=@Nat.lt_of_lt_of_le
abbrev Px:=@Option.bind_eq_some_iff
abbrev Py:=@List.getElem?_append_right
abbrev PB:=@List.getElem?_eq_getElem
abbrev PC:=@Bool.false_ne_true
abbrev PD:=@PySem.Heap.get?_push_size
abbrev PF:=@List.mem_of_getElem?
abbrev PH:=@Nat.ne_of_lt
abbrev PJ:=@List.mem_append
abbrev PK:=@List.getElem?_set_self
abbrev PL:=@List.map_append
abbrev PM:=@PySem.World
abbrev PR:=@List.mem_append_right
abbrev PU:=@PySem.Program
abbrev PZ:=@List.getElem?_map
abbrev P4:=@Array.getElem?_eq_some_iff
abbrev P5:=@List.lookup_cons
abbrev P6:=@PyProof.Rows.slot_tuple_getitem
abbrev P7:=@beq_eq_false_iff_ne
abbrev P8:=@List.not_mem_nil
abbrev P9:=@List.getElem?_cons_zero
abbrev Qa:=@List.getElem?_cons_succ
abbrev Qb:=@PySem.OsState
abbrev Qc:=@Nat.add_sub_cancel_left
abbrev Qd:=@PySem.W.kia_one
abbrev Qe:=@PySem.W.SharedT
abbrev Qf:=@List.length_take
abbrev Qg:=@Nat.ne_of_gt
abbrev Qh:=@PySem.Heap.get?_update_other
abbrev Qi:=@Ne.symm
abbrev Qj:=@Option.getD_some
abbrev Qk:=@List.getD_eq_getElem?_getD
abbrev Ql:=@Nat.lt_irrefl
abbrev Qm:=@List.mem_append_left
abbrev Qn:=@List.take_of_length_le
abbrev Qo:=@Iff.rfl
abbrev Qp:=@List.getElem_mem
abbrev Qq:=@List.mem_map_of_mem
abbrev Qr:=@Option.some.injEq
abbrev Qs:=@List.mem_of_mem_take
abbrev Qt:=@List.map_cons
abbrev Qu:=@Option.isNone_iff_eq_none
abbrev Qv:=@List.append_assoc
abbrev Qw:=@PySem.W.mg_of
abbrev Qx:=@List.all_cons
abbrev Qy:=@List.nodup_cons
abbrev Qz:=@List.append_nil
abbrev QA:=@Bool.eq_iff_iff
abbrev QB:=@PySem.Heap.get?_update_self
abbrev QC:=@PySem.Env
abbrev QD:=@PySem.Obj.data_mapFields
abbrev QE:=@PySem.Around
abbrev QF:=@List.mem_range
abbrev QG:=@List.map_map
abbrev QH:=@List.length_range
abbrev QI:=@List.exists_of_findSome?_eq_some
abbrev QJ:=@List.length_singleton
abbrev QK:=@List.length_replicate
abbrev QL:=@List.length_drop
abbrev QM:=@Int.toNat_natCast
abbrev QN:=@Bool.or_eq_true
abbrev QO:=@PySem.Params
abbrev QP:=@List.replicate_succ
abbrev QR:=@PyProof.Rows.callWith_type1
abbrev QS:=@PySem.DictEntry
abbrev QT:=@PySem.Heap.SameBut.update
abbrev QU:=@Int.emod_lt_of_pos
abbrev QV:=@List.getElem?_eq_none
abbrev QW:=@Bool.and_eq_false_iff
abbrev QX:=@PySem.Heap.SameBut
abbrev QY:=@List.mem_filter
abbrev QZ:=@Int.emod_nonneg
abbrev Q0:=@PySem.Paired
abbrev Q1:=@Nat.zero_le
abbrev Q2:=@Bool.not_eq_true'
abbrev Q3:=@Bool.and_eq_true_iff
abbrev Q4:=@List.map_congr_left
abbrev Q5:=@PySem.W.InstAt
abbrev Q6:=@Option.bind_some
abbrev Q7:=@Nat.le_add_right
abbrev Q8:=@List.length_eq_zero_iff
abbrev Q9:=@List.length_cons
abbrev Ra:=@List.getElem?_replicate
abbrev Rb:=@PySem.Comprehension
abbrev Rf:=@Nat.le_of_lt
abbrev Rg:=@List.nil_append
abbrev Rh:=@Option.isSome_map
abbrev Ri:=@List.flatten_cons
abbrev Rj:=@List.take_succ
abbrev Rk:=@List.mem_of_mem_drop
abbrev Rl:=@PySem.Obj.isFreed_of_fields
abbrev Rn:=@List.any_eq_true
abbrev Ro:=@PySem.mem_of_lookup
abbrev Rp:=@List.getElem?_range
abbrev Rq:=@List.filterMap_cons
abbrev Rr:=@PySem.Heap.get?_none_of_le
abbrev Rt:=@Nat.add_assoc
abbrev Ru:=@beq_iff_eq
abbrev Rv:=@PySem.W.callWith_K
abbrev Rw:=@PySem.F.plainAttrs_list
abbrev Rx:=@Nat.le_succ
namespace HD
open PySem PySem.W
noncomputable def gG (tb:String->Option Builtin)(p:PU)(w:PM)(n0:Nat)(ann:Option O3):Nat->Qe->Thread->Option Qe
 |0,_,_=>none
 | n+1,s,t=>match through t with
   |true=>some s
   | false=>match stepOk n0 ann t with
     |false=>none
     | true=>match stepT (denote tb) p w s t with
       |some (s',t')=>gG tb p w n0 ann n s' t'
       |none=>none
theorem qm {tb:String->Option Builtin}{p:PU}{w:PM}{n0:Nat}{ann:Option O3}:∀{n:Nat}{s s':Qe}{t:Thread},gG tb p w n0 ann n s t=some s'->topRun tb p w n0 ann n s.abs t=some s'.abs
 |0,_,_,_,h=>by cases h
 | n+1,s,s',t,h=>by
   unfold gG at h;unfold topRun;cases he:through t with
   |true=>rw[he] at h;cases h;rfl
   | false=>
     rw[he] at h;cases hk:stepOk n0 ann t with
     |false=>rw[hk] at h;cases h
     | true=>
       rw[hk] at h;cases hs:stepT (denote tb) p w s t with
       |none=>rw[hs] at h;cases h
       |some r=>obtain⟨s2,t2⟩:=r;rw[hs] at h;rw[stepT_spec hs];exact qm h
noncomputable def treeOf:List Obj->Nat->BT->BT
 |[],_,t=>t
 |o::r,n,t=>treeOf r (n+1) (t.ins n o)
def xE (P:QO)(os:Qb):Qe:={treeOf (boot_heap P).objs.toList 0 .nil,(boot_heap P).objs.toList.length,(boot_heap P).life,#[],boot_drawn,boot_toks,os}
def boot_abs (P:QO)(os:Qb):(xE P os).abs={boot_heap P,#[],boot_drawn,boot_toks,os}:=by kernel_rfl
noncomputable def kr (p q:PU)(loose:List Str)(Xt:O8->Bool)(g0:Bool)(h0:Heap){α:Type}(Yf:O8->α)(s:O8):=
 ((staticsOk (importedModules p.main.body) h0 s.heap&&namesBound p s.heap&&gensDone s&&laidKept h0 s.heap),openSeen q loose (importedModules p.main.body) Xt g0 s,Yf s)
noncomputable def vI (tb:String->Option Builtin)(p:PU)(w:PM)(n0:Nat)(ann:Option O3):Nat->Qe->Thread->Option (Qe×Thread)
 |0,s,t=>some (s,t)
 | n+1,s,t=>match through t with
   |true=>none
   | false=>match stepOk n0 ann t with
     |false=>none
     | true=>match stepT (denote tb) p w s t with
       |some (s',t')=>vI tb p w n0 ann n s' t'
       |none=>none
noncomputable def ki (tb:String->Option Builtin)(p:PU)(w:PM)(n0:Nat)(ann:Option O3):Nat->Qe->Thread->Option (Flow×Qe×Code×Pos)
 |0,_,_=>none
 | n+1,s,t=>match endAt 1 t with
   |some f=>some (f,s,t.code,t.pos)
   | none=>match stepOk n0 ann t with
     |false=>none
     | true=>match stepT (denote tb) p w s t with
       |some (s',t')=>ki tb p w n0 ann n s' t'
       |none=>none
section
variable{tb:String->Option Builtin}{p:PU}{w:PM}{n0:Nat}{ann:Option O3}
theorem zY:∀{n:Nat}{s s':Qe}{t t':Thread},vI tb p w n0 ann n s t=some (s',t')->topGo tb p w n0 ann n s.abs t=some (s'.abs,t')
 |0,s,s',t,t',h=>by cases h;rfl
 | n+1,s,s',t,t',h=>by
   unfold vI at h;unfold topGo;cases he:through t with
   |true=>rw[he] at h;cases h
   | false=>
     rw[he] at h;cases hk:stepOk n0 ann t with
     |false=>rw[hk] at h;cases h
     | true=>
       rw[hk] at h;cases hs:stepT (denote tb) p w s t with
       |none=>rw[hs] at h;cases h
       |some q=>obtain⟨s2,t2⟩:=q;rw[hs] at h;rw[stepT_spec hs];exact zY h
theorem pd:∀{n:Nat}{s s':Qe}{t:Thread}{f:Flow}{c:Code}{q:Pos},ki tb p w n0 ann n s t=some (f,s',c,q)->segRun tb p w n0 ann 1 n s.abs t=some (f,s'.abs,c,q)
 |0,_,_,_,_,_,_,h=>by cases h
 | n+1,s,s',t,f,c,q,h=>by
   unfold ki at h;unfold segRun;cases he:endAt 1 t with
   |some g=>rw[he] at h;cases h;rfl
   | none=>
     rw[he] at h;cases hk:stepOk n0 ann t with
     |false=>rw[hk] at h;cases h
     | true=>
       rw[hk] at h;cases hs:stepT (denote tb) p w s t with
       |none=>rw[hs] at h;cases h
       |some x=>obtain⟨s2,t2⟩:=x;rw[hs] at h;rw[stepT_spec hs];exact pd h
def t7 {n3 N:Nat}{s s2:Qe}{env:Env}{c:Code}{p' p2 q:Pos}{b:List Stmt}{J:Nat}{α:Type}{f:O8->α}{a:α}
 (h3:ki tb p w n0 ann n3 s (piecesOf (b.take J) env c p' [topFrame q])=some (.next,s2,c,p2))
 (h4:(topRun tb p w n0 ann N s2.abs (restOf (b.drop J) env c p2 [topFrame q])).map f=some a):(topRun tb p w n0 ann (n3+N) s.abs (restOf b env c p' [topFrame q])).map f=some a:=by
 obtain⟨r,e3,e4⟩:=Pq.mp h4;have k4:=piece_app (pd h3) e3;rw[List.take_append_drop] at k4;rw[k4];exact congrArg some e4
def Ak {N:Nat}{s2:Qe}{t:Thread}{p' q:PU}{loose:List Str}{Xt:O8->Bool}{g0:Bool}{h0:Heap}{α:Type}{Yf:O8->α}{a b c}
 (h1:(gG tb p w n0 ann N s2 t).map (λs=>(kr p' q loose Xt g0 h0 Yf s.abs).1)=some a) (h2:(gG tb p w n0 ann N s2 t).map (λs=>(kr p' q loose Xt g0 h0 Yf s.abs).2.1)=some b)
 (h3:(gG tb p w n0 ann N s2 t).map (λs=>(kr p' q loose Xt g0 h0 Yf s.abs).2.2)=some c):(topRun tb p w n0 ann N s2.abs t).map (kr p' q loose Xt g0 h0 Yf)=some (a,b,c):=by
 obtain⟨r,e3,rfl⟩:=Pq.mp h1;rw[e3] at h2 h3;cases h2;cases h3;rw[qm e3];rfl
def Al {n1 n2 N:Nat}{s s':Qe}{env:Env}{c:Code}{pos p' q:Pos}{t:Thread}{b:List Stmt}{J:Nat}{α:Type}{f:O8->α}{a:α}
 (h1:(vI tb p w n0 ann n1 s t).map (·.2)=some {denote tb (.body b env),c,pos,[topFrame q]}) (h0:endAt 1 (blockOf b env c pos [topFrame q])=some .next)
 (h2:((vI tb p w n0 ann n1 s t).bind λx=>ki tb p w n0 ann n2 x.1 (piecesOf (b.take J) env c pos [topFrame q]))=some (.next,s',c,p'))
 (h3:(topRun tb p w n0 ann N s'.abs (restOf (b.drop J) env c p' [topFrame q])).map f=some a):(topRun tb p w n0 ann (n1+(1+(n2+N))) s.abs t).map f=some a:=by
 obtain⟨⟨s1,t1⟩,e1,e2⟩:=Pq.mp h1;have e2:t1={denote tb (.body b env),c,pos,[topFrame q]}:=e2;subst e2;rw[e1] at h2;have h2:ki tb p w n0 ann n2 s1 (piecesOf (b.take J) env c pos [topFrame q])=some (.next,s',c,p'):=h2
 obtain⟨r,e3,e4⟩:=Pq.mp h3;have k3:=piece_app (pd h2) e3;rw[List.take_append_drop] at k3;have hb:segRun tb p w n0 ann 1 1 s1.abs (blockOf b env c pos [topFrame q])=some (.next,s1.abs,c,pos):=by
  show(match endAt 1 (blockOf b env c pos [topFrame q]) with|some f=>some (f,s1.abs,c,pos)|none=>_)=_
  rw[h0]
 have k2:=piece_block hb k3;rw[go_top (zY e1) k2];exact congrArg some e4
end
def uK {p q:PU}{loose:List Str}{Xt:O8->Bool}{α:Type}{Yf:O8->α}{Ya:PM->α}{N:Nat}{g0:Bool}{m0:Nat}{ann:Option O3}
 (open_:∀w:PM,(fencedOpening treeTable p w N).map (λs=>(s.heap,s.gens,s.drawn,s.toks))=some (boot_heap w.params,Array.mk [],boot_drawn,boot_toks))
 (size:∀w:PM,((boot_heap w.params).isNs mainGlobals&&(Array.mk ([]:List GenState)).size==0,(boot_heap w.params).objs.size,(boot_heap w.params).nsMap mainGlobals "__annotations__")=(true,m0,ann))
 (run:∀(w:PM) (os:Qb),(topRun treeTable p w m0 ann N (xE w.params os).abs (topStub p)).map (kr p q loose Xt g0 (boot_heap w.params) Yf)=some (true,openGood q loose,Ya w)):LeftO p q loose Xt Yf Ya N g0:=λw=>by
 obtain⟨⟨h,gs,d,k,os⟩,e,e'⟩:=Pq.mp (open_ w);obtain⟨rfl,rfl,rfl,rfl⟩:h=boot_heap w.params/\gs=Array.mk []/\d=boot_drawn/\k=boot_toks:=by simpa using e'
 obtain⟨z1,z2,z3⟩:_/\_/\_:=by simpa only[Prod.mk.injEq] using size w
 obtain⟨s1,r,l⟩:=Pq.mp (run w os);obtain⟨l1,l2,l3⟩:_/\_/\_:=by simpa only[kr,Prod.mk.injEq] using l
 rw[boot_abs] at r;have t:topFrom treeTable p w N {boot_heap w.params,Array.mk [],boot_drawn,boot_toks,os}=some s1:=by
  unfold topFrom;dsimp only;rw[z1,z2,z3,r];show(match staticsOk (importedModules p.main.body) (boot_heap w.params) s1.heap&&namesBound p s1.heap&&gensDone s1&&laidKept (boot_heap w.params) s1.heap with|true=>_|false=>_)=_
  rw[l1]
 unfold openEnds;rw[e];show(topFrom treeTable p w N _).map _=_;rw[t];exact congrArg some (Prod.ext l2 l3)
end HD
namespace K42
open PySem
abbrev eN (P:QO)(x:Str)(n:Nat)(v:O3):QS:={PyData.keyHash P x,.str x n,v}
noncomputable def pJ (j:Nat)(s:Stmt):Stmt:=match s with
 |.ClassDef _ _ _ b _ _ _ _ _ _ _=>b.getD j s
 |_=>s
noncomputable def dW (i:Nat):Stmt:=PySem.Challenge.pw_leastdeeds_k42_mending_refused.main.body.getD i (.Pass {0,0,0,0})
noncomputable def l9 (s:Stmt):Arguments:=match s with
 |.FunctionDef _ a _ _ _ _ _ _ _ _=>a
 |_=>{[],[],none,[],[],none,[]}
noncomputable def l6 (s:Stmt):List Stmt:=match s with
 |.FunctionDef _ _ b _ _ _ _ _ _ _=>b
 |_=>[]
noncomputable def jV (s:Stmt):Scope:=match s with
 |.FunctionDef _ _ _ _ _ _ sc _ _ _=>sc
 |_=>{kind:=.function,names:=[],isGenerator:=false,isCoroutine:=false}
noncomputable def o1:Obj:={cls:=.type "tuple" ,data:=.seq #[]}
noncomputable def o2 (a:String)(b:Nat)(c:Int)(d:Nat)(e:Int):Obj:={cls:=.type "code" ,data:=.fields #[.str (Str.ofString a) b,.str (Str.ofString a) (b+1),.str ("/claim/cut.py") (b+2),.int c 0,.int 0 0,.int 0 0,.int 0 0,.int 0 0,.ref d,.bool false,.int 181 0,.ref (d+1),.none,.none,.none,.none,.int e 0,.int c 0,.str ("/claim/cut.py") (b+4)]}
noncomputable def o3 (a:Nat)(b:Nat)(c:String)(d:Nat):Obj:={cls:=.type "frame" ,slots:=#[some (.ref a),some (.ref 3),some (.ref b),none,some (.str (Str.ofString c) d),none,some (.ref 0)]}
def o4:Obj:={cls:=.type "builtin_function_or_method" ,data:=.fields #[.builtin "type.__prepare__" ,.type "type"]}
def o5 (P:QO)(a:Nat)(b:String)(c:Int)(d:Nat):Obj:={cls:=.type "dict" ,data:=.dict #[eN P "__module__" a (.str ("leastdeeds.errors") 187),eN P "__qualname__" (a+2) (.str (Str.ofString b) (a+1)),eN P "__firstlineno__" (a+4) (.int c (a+3)),eN P "__static_attributes__" (a+5) (.ref d)] 4}
def o6:Obj:={cls:=.none,data:=.fields #[]}
def o7 (P:QO)(a:Nat)(b:Int)(c:String)(d:Nat)(e:Nat)(f:String)(g:Nat)(h:Nat):Obj:={cls:=.type "dict" ,data:=.dict #[eN P "__module__" a (.str ("leastdeeds.errors") 187),eN P "__firstlineno__" (a+4) (.int b (a+3)),{hash:=PyData.keyHash P (Str.ofString c),key:=.str (Str.ofString c) d,val:=.ref e},{hash:=PyData.keyHash P (Str.ofString f),key:=.str (Str.ofString f) (d+2),val:=.ref g},eN P "__doc__" (d+3) (.none)] h}
def o8:Obj:={cls:=.type "type" ,data:=.cls {name:="DeedError" ,bases:=[.type "ValueError"],mro:=[.ref 24,.type "ValueError" ,.type "Exception" ,.type "BaseException" ,.type "object"],ns:=23,qualname:="DeedError" ,subclasses:=[.ref 44,.ref 63,.ref 75,.ref 87,.ref 99,.ref 111,.ref 123]},slots:=#[some (.ref 15),none,some (.str ("DeedError") 189),some (.str ("DeedError") 197),some (.builtin "ValueError.__new__"),some (.bool true)]}
def o9 (a:Nat):Obj:={cls:=.type "super" ,data:=.fields #[.ref a,.ref a,.ref a]}
def qA (a:Nat):Obj:={cls:=.type "builtin_function_or_method" ,data:=.fields #[.builtin "object.__init_subclass__" ,.ref a]}
def sR:Obj:={cls:=.type "tuple" ,data:=.seq #[.ref 24]}
def Nl (P:QO)(a:Nat)(b:String)(c:Int)(d:Nat):Obj:={cls:=.type "dict" ,data:=.dict #[eN P "__module__" a (.str ("leastdeeds.errors") 187),eN P "__qualname__" (a+2) (.str (Str.ofString b) (a+1)),eN P "__firstlineno__" (a+4) (.int c (a+3)),eN P "__init__" (a+12) (.ref d),eN P "__static_attributes__" (a+14) (.ref (d+1))] 5}
def Nk (a:Int)(b:Nat):Obj:={cls:=.none,data:=.fields #[.int a 0,.int 4 0,.ref b]}
def Nj (a:Nat):Obj:={cls:=.type "tuple" ,data:=.seq #[.str ("self") a,.str ("place") (a+1)]}
def Ni (a:String)(b:Nat):Obj:={cls:=.none,data:=.func {name:="__init__" ,qualname:=Str.ofString a,params:=l9 (pJ 0 (dW b)),body:=PySem.FuncBody.stmts (l6 (pJ 0 (dW b))),scope:=jV (pJ 0 (dW b)),globals:=0,closure:=[],defaults:=.none,kwdefaults:=.none,pyModule:=.none,code:=.none}}
def DF (a:String)(b:Nat)(c:String)(d:Int)(e:Int)(f:Nat)(g:Int)(h:Nat):Obj:={cls:=.type "code" ,data:=.fields #[.str (Str.ofString a) b,.str (Str.ofString c) (b+1),.str ("/claim/cut.py") (b+2),.int d 0,.int e 0,.int 0 0,.int 0 0,.int 3 0,.ref f,.bool true,.int 181 0,.ref (f+1),.none,.ref (f+2),.ref (f+3),.ref (f+4),.int g 0,.int d 0,.str ("/claim/cut.py") h]}
def Nh (a:String)(b:Nat)(c:Nat):Obj:={cls:=.type "function" ,data:=.func {name:="__init__" ,qualname:=Str.ofString a,params:=l9 (pJ 0 (dW b)),body:=PySem.FuncBody.stmts (l6 (pJ 0 (dW b))),scope:=jV (pJ 0 (dW b)),globals:=3,closure:=[],defaults:=.none,kwdefaults:=.none,pyModule:=.str ("leastdeeds.errors") 187,code:=.ref c}}
def Ng (a:Nat):Obj:={cls:=.type "tuple" ,data:=.seq #[.str ("place") a]}
def sQ (a:String)(b:Nat)(c:Nat)(d:Nat)(e:Nat):Obj:={cls:=.type "type" ,data:=.cls {name:=Str.ofString a,bases:=[.ref 24],mro:=[.ref b,.ref 24,.type "ValueError" ,.type "Exception" ,.type "BaseException" ,.type "object"],ns:=c,qualname:=Str.ofString a},slots:=#[some (.ref d),none,some (.str (Str.ofString a) e),some (.str (Str.ofString a) (e+8)),some (.builtin "ValueError.__new__"),some (.bool true)]}
def zm (P:QO)(a:Nat)(b:Int)(c:Nat):Obj:={cls:=.type "dict" ,data:=.dict #[eN P "__module__" a (.str ("leastdeeds.errors") 187),eN P "__firstlineno__" (a+4) (.int b (a+3)),eN P "__static_attributes__" (a+5) (.ref c),eN P "__doc__" (a+6) (.none)] 2}
def Nf (P:QO)(a:Nat)(b:Nat):Obj:={cls:=.type "dict" ,data:=.dict #[eN P "turn" a (.ref b),eN P "join" (a+1) (.ref (b+7)),eN P "move" (a+2) (.ref (b+14)),eN P "put" (a+3) (.ref (b+21))] 4}
def o22:Obj:={cls:=.type "tuple" ,data:=.seq #[.none]}
def o23:Obj:={cls:=.type "function" ,data:=.func {name:="reached" ,qualname:="reached" ,params:=l9 (dW 51),body:=PySem.FuncBody.stmts (l6 (dW 51)),scope:=jV (dW 51),globals:=3,closure:=[],defaults:=.ref 315,kwdefaults:=.none,pyModule:=.str ("leastdeeds.least") 612,code:=.ref 321}}
def jW (i:Nat):Str×Nat×Nat×List Str×Bool:=match dW i with
 |.FunctionDef x a _ _ _ _ sc _ _ p=>(x,p.line,a.args.length,sc.names.filterMap (λq=>match q.2 with|.local=>some q.1|_=>none),sc.names.any (λq=>match q.2 with|.cell=>true|_=>false))
 |_=>("",0,0,[],false)
def kN (i:Nat):Nat:=bif (jW i).2.2.2.2 then 0 else(jW i).2.2.2.1.length
def zQ (i:Nat):Nat:=bif (jW i).2.2.2.2 then 5 else 7
noncomputable def n8:Nat->Nat->Nat->Nat->List (Nat×Nat×Nat)
 |0,_,_,_=>[]
 |n+1,i,e,t=>(i,e,t)::n8 n (i+1) (e+zQ i) (t+kN i+6)
def qF:Nat×Nat×Nat->List O3:=λ(i,e,_)=>[.int (jW i).2.1 0,.int 0 0,.ref (e+zQ i-2)]
def qG (P:QO):Nat×Nat×Nat->QS:=λ(i,e,t)=>{PyData.keyHash P (jW i).1,.str (jW i).1 (t+kN i+5),.ref (e+zQ i-1)}
def Ei (c:O3)(i g:Nat)(m d:O3):Obj:={cls:=c,data:=.func {name:=(jW i).1,qualname:=(jW i).1,params:=l9 (dW i),body:=.stmts (l6 (dW i)),scope:=jV (dW i),globals:=g,closure:=[],defaults:=.none,kwdefaults:=.none,pyModule:=m,code:=d}}
def kO (m:Str)(k:Nat):Nat×Nat×Nat->List Obj:=λ(i,e,t)=>
 let x:=(jW i).1
 let l:O3:=.int (jW i).2.1 0
 let q:=t+kN i
 let c:=λ(a:O3) (b:O3) (d:Nat)=>({cls:=.type "code",data:=.fields #[.str x t,.str x (t+1),.str "/claim/cut.py" (t+2),l,.int (jW i).2.2.1 0,.int 0 0,.int 0 0,.int 3 0,.ref e,.bool true,.int 181 0,.ref (e+1),.none,a,b,.ref (e+d),.int (q+3:Nat) 0,l,.str "/claim/cut.py" (q+4)]}:Obj)
 [o1,{cls:=.none,data:=.fields #[]}]++bif (jW i).2.2.2.2 then [Ei .none i 0 .none .none,c .none .none 2,Ei (.type "function") i 3 (.str m k) (.ref (e+3))] else [{cls:=.type "tuple",data:=.seq (((jW i).2.2.2.1.zipIdx (t+3)).map λp=>.str p.1 p.2).toArray},o1,Ei .none i 0 .none .none,c (.ref (e+2)) (.ref (e+3)) 4,Ei (.type "function") i 3 (.str m k) (.ref (e+5))]
def qH:Nat×Nat×Nat->List Addr:=λ(i,e,_)=>[e+zQ i-2,e+zQ i-1]
def D2:=n8 1 10 126 339
def D1:=n8 10 18 133 362
def D0:=n8 8 29 200 463
def DZ:=n8 4 38 250 527
def DY:=n8 3 43 279 585
def DV:=n8 3 48 298 616
def DU:=n8 7 55 323 663
def DR:=n8 21 63 370 756
def Nq:List O3:=[.int 2 0,.int 0 0,.ref 20,.int 4 0,.int 0 0,.ref 33,.int 9 0,.int 0 0,.ref 52,.int 14 0,.int 0 0,.ref 71,.int 16 0,.int 0 0,.ref 83,.int 18 0,.int 0 0,.ref 95,.int 20 0,.int 0 0,.ref 107,.int 22 0,.int 0 0,.ref 119]++D2.flatMap qF++D1.flatMap qF++D0.flatMap qF++DZ.flatMap qF
def kt1:List O3:=Nq++DY.flatMap qF++DV.flatMap qF++[.int 158 0,.int 0 0,.ref 321]++DU.flatMap qF++DR.flatMap qF
def Nu (P:QO):List QS:=[eN P "__doc__" 166 (.none),eN P "__package__" 167 (.none),eN P "__loader__" 168 (.builtin "__main__.__loader__#opaque"),eN P "__spec__" 169 (.none),eN P "__annotations__" 170 (.ref 6),eN P "__builtins__" 171 (.ref 4),eN P "__file__" 173 (.str "/claim/cut.py" 172),eN P "__cached__" 174 (.none),eN P "DeedError" 206 (.ref 24),eN P "NoRow" 231 (.ref 44),eN P "NoStep" 256 (.ref 63),eN P "NoMachine" 272 (.ref 75),eN P "TooLong" 288 (.ref 87),eN P "NoWork" 304 (.ref 99),eN P "NoBound" 320 (.ref 111),eN P "TooMany" 336 (.ref 123)]
def Nt (P:QO):List QS:=Nu P++D2.map (qG P)++[eN P "LEAST_WORDS" 351 (.int 2 350),eN P "MOST_WORDS" 353 (.int 4 352),eN P "MOST_PLACES" 355 (.int 2 354),eN P "MOST_DEEDS" 357 (.int 6 356),eN P "MOST_COST" 359 (.int 3 358),eN P "LONGEST_ROW" 361 (.int 40 360)]++D1.map (qG P)++[eN P "SORTS" 462 (.ref 199)]++D0.map (qG P)++DZ.map (qG P)++[eN P "NEW_WORDS" 584 (.ref 278)]
def Nr (P:QO):List QS:=Nt P++DY.map (qG P)++[eN P "MOST_BEHAVIOURS" 615 (.int 255 614)]++DV.map (qG P)++[eN P "reached" 656 (.ref 322),eN P "LONGEST_MENDED" 660 (.int 12 659),eN P "WIDEST_WINDOW" 662 (.int 6 661)]++DU.map (qG P)++DR.map (qG P)
def kg3 (P:QO):List QS:=Nr P++[eN P "law" 961 (.ref 507)]
noncomputable def Ny (P:QO):List Obj:=[o1,{cls:=.none,data:=.fields #[.int 2 0,.int 0 0,.ref 20,.int 4 0,.int 0 0,.ref 33,.int 9 0,.int 0 0,.ref 52,.int 14 0,.int 0 0,.ref 71,.int 16 0,.int 0 0,.ref 83,.int 18 0,.int 0 0,.ref 95,.int 20 0,.int 0 0,.ref 107,.int 22 0,.int 0 0,.ref 119]},o2 "<module>" 182 1 11 185,o3 13 3 "__main__" 164,{cls:=.type "tuple",data:=.seq #[.type "ValueError"]},o4,o5 P 196 "DeedError" 2 22,o1,o6,o2 "DeedError" 191 2 18 194,o3 20 17 "leastdeeds.errors" 187,o1,o7 P 196 2 "__static_attributes__" 201 22 "__weakref__" 25 3,o8,{cls:=.type "getset_descriptor",data:=.fields #[.str "__weakref__" 202,.ref 24,.builtin "ExceptionGroup.__weakref__",.none]},o9 24,qA 24,sR,o4,Nl P 214 "NoRow" 4 41,o1,Nk 6 40,o2 "NoRow" 209 4 31 212,o3 33 30 "leastdeeds.errors" 187,o1,o6,Nj 222,o1,Ni "NoRow.__init__" 2,DF "__init__" 219 "NoRow.__init__" 6 2 35 224 225,Nh "NoRow.__init__" 2 40,Ng 227,o7 P 214 4 "__init__" 226 41 "__static_attributes__" 42 2,sQ "NoRow" 44 43 28 207,o9 44,qA 44,sR,o4,Nl P 239 "NoStep" 9 60,o1,Nk 11 59,o2 "NoStep" 234 9 50 237,o3 52 49 "leastdeeds.errors" 187,o1,o6,Nj 247,o1,Ni "NoStep.__init__" 3,DF "__init__" 244 "NoStep.__init__" 11 2 54 249 250,Nh "NoStep.__init__" 3 59,Ng 252,o7 P 239 9 "__init__" 251 60 "__static_attributes__" 61 2,sQ "NoStep" 63 62 47 232,o9 63,qA 63,sR,o4,o5 P 264 "NoMachine" 14 73,o1,o6,o2 "NoMachine" 259 14 69 262,o3 71 68 "leastdeeds.errors" 187,o1,zm P 264 14 73,sQ "NoMachine" 75 74 66 257,o9 75,qA 75,sR,o4,o5 P 280 "TooLong" 16 85,o1,o6,o2 "TooLong" 275 16 81 278,o3 83 80 "leastdeeds.errors" 187,o1,zm P 280 16 85,sQ "TooLong" 87 86 78 273,o9 87,qA 87,sR,o4,o5 P 296 "NoWork" 18 97,o1,o6,o2 "NoWork" 291 18 93 294,o3 95 92 "leastdeeds.errors" 187,o1,zm P 296 18 97,sQ "NoWork" 99 98 90 289,o9 99,qA 99,sR,o4,o5 P 312 "NoBound" 20 109,o1,o6,o2 "NoBound" 307 20 105 310,o3 107 104 "leastdeeds.errors" 187,o1,zm P 312 20 109,sQ "NoBound" 111 110 102 305,o9 111,qA 111,sR,o4,o5 P 328 "TooMany" 22 121,o1,o6,o2 "TooMany" 323 22 117 326,o3 119 116 "leastdeeds.errors" 187,o1,zm P 328 22 121,sQ "TooMany" 123 122 114 321,o9 123,qA 123]
def Nx (P:QO):List Obj:=((Ny P).set 1 ({cls:=.none,data:=.fields Nq.toArray}))++D2.flatMap (kO "leastdeeds.wholes" 337)++D1.flatMap (kO "leastdeeds.machines" 348)++[Nf P 454 177]++D0.flatMap (kO "leastdeeds.machines" 348)++DZ.flatMap (kO "leastdeeds.runs" 525)++[Nf P 576 256]
def Nw (P:QO):List Obj:=((Nx P).set 1 ({cls:=.none,data:=.fields kt1.toArray}))++DY.flatMap (kO "leastdeeds.runs" 525)++DV.flatMap (kO "leastdeeds.least" 612)++[o22,o1,o6,{cls:=.type "tuple",data:=.seq #[.str "machine" 648,.str "bound" 649,.str "leads" 650,.str "empty_ends" 651,.str "found" 652,.str "levels" 653]},o1,{cls:=.none,data:=.func {name:="reached",qualname:="reached",params:=l9 (dW 51),body:=PySem.FuncBody.stmts (l6 (dW 51)),scope:=jV (dW 51),globals:=0,closure:=[],defaults:=.none,kwdefaults:=.none,pyModule:=.none,code:=.none}},DF "reached" 645 "reached" 158 2 316 654 655,o23]++DU.flatMap (kO "leastdeeds.mending" 657)++DR.flatMap (kO "law_leastdeeds_k42_mending_refused" 754)
def Nv:List Addr:=[23,24,40,41,43,44,62,63,74,75,86,87,98,99,110,111,122,123,199,278,315,321,322]++D2.flatMap qH++D1.flatMap qH++D0.flatMap qH++DZ.flatMap qH++DY.flatMap qH++DV.flatMap qH++DU.flatMap qH++DR.flatMap qH
def kh:QO->O0:=λP=>[(2,{cls:=.none,data:=.dict #[]}),
 (3,{cls:=.type "dict",data:=.dict (eN P "__name__" 165 (.str "law_leastdeeds_k42_mending_refused" 754)::kg3 P).toArray 87}),
 (506,DF "law" 943 "law" 398 1 501 959 960),
 (507,{cls:=.type "function",data:=.func {name:="law",qualname:="law",params:=l9 (dW 84),body:=PySem.FuncBody.stmts (l6 (dW 84)),scope:=jV (dW 84),globals:=3,closure:=[],defaults:=.none,kwdefaults:=.none,pyModule:=.str "law_leastdeeds_k42_mending_refused" 754,code:=.ref 506}})]++List.map (λa=>(a,(Nw P).getD (a-11) o1)) Nv
def JR:List Addr:=[2,3,506,507]++Nv
def Oc:∀P,JR=(kh P).map (·.1):=λ_=>by kernel_rfl
noncomputable def kq:PU:=PySem.W.view PySem.Challenge.pw_leastdeeds_k42_mending_refused [1,2,3,4,5,6,7,8,10,12,13,14,15,16,17,18,19,20,21,22,23,24,25,26,27,28,29,30,31,32,33,34,35,36,38,39,40,41,42,43,44,45,47,48,49,50,53,54,55,56,57,58,59,60,61,63,64,65,66,67,68,69,70,71,72,73,74,75,76,77,78,79,80,81,82,83,84]
abbrev kH:PySem.W.Hook:=PySem.W.kHook kh JR Oc
def n6:List Str:=["SORTS","NEW_WORDS","reached"]
abbrev xj:=PySem.Challenge.rw_leastdeeds_k42_mending_refused.row
abbrev kX:O8->Bool:=λs=>PySem.W.xlAt kq [] s&&PySem.W.recOk (PySem.W.RowW.records xj.toRowW) s
def Ee (P:QO)(os:Qb):Qe:={HD.treeOf ((((PySem.W.boot_heap P).objs.toList.set 3 ({cls:=.type "dict",data:=.dict (eN P "__name__" 165 (.str "leastdeeds.errors" 187)::Nu P).toArray 17})))++Ny P) 0 .nil,126,{},#[],{},337,os}
def Ed (P:QO)(os:Qb):Qe:={HD.treeOf ((((PySem.W.boot_heap P).objs.toList.set 3 ({cls:=.type "dict",data:=.dict (eN P "__name__" 165 (.str "leastdeeds.runs" 525)::Nt P).toArray 48})))++Nx P) 0 .nil,279,{},#[],{},585,os}
def Ec (P:QO)(os:Qb):Qe:={HD.treeOf ((((PySem.W.boot_heap P).objs.toList.set 3 ({cls:=.type "dict",data:=.dict (eN P "__name__" 165 (.str "law_leastdeeds_k42_mending_refused" 754)::Nr P).toArray 86})))++Nw P) 0 .nil,501,{},#[],{},943,os}
def kE:Env:={scope:=PySem.Challenge.pw_leastdeeds_k42_mending_refused.main.scope,locals:=mainNs,globals:=mainNs,cells:=[],code:=.ref 13,frame:=some 14}
def kP (w:PM)(os:Qb):=HD.vI treeTable PySem.Challenge.pw_leastdeeds_k42_mending_refused w 11 (some (.ref 6)) 12 (HD.xE w.params os) (PySem.W.topStub PySem.Challenge.pw_leastdeeds_k42_mending_refused)
def D8 (w:PM)(os:Qb):=(kP w os).bind λx=>HD.ki treeTable PySem.Challenge.pw_leastdeeds_k42_mending_refused w 11 (some (.ref 6)) 1751 x.1 (PySem.W.piecesOf ((PySem.W.behindTheImports PySem.Challenge.pw_leastdeeds_k42_mending_refused).take 9) kE (.body (PySem.W.behindTheImports PySem.Challenge.pw_leastdeeds_k42_mending_refused) kE) {0,0,0,0} [PySem.W.topFrame {0,0,0,0}])
def D5 (w:PM)(os:Qb):Option (Flow×Qe×Code×Pos):=some (.next,Ee w.params os,(.body (PySem.W.behindTheImports PySem.Challenge.pw_leastdeeds_k42_mending_refused) kE),{22,0,23,8})
def D7 (w:PM)(os:Qb):=HD.ki treeTable PySem.Challenge.pw_leastdeeds_k42_mending_refused w 11 (some (.ref 6)) 938 (Ee w.params os) (PySem.W.piecesOf (((PySem.W.behindTheImports PySem.Challenge.pw_leastdeeds_k42_mending_refused).drop 9).take 34) kE (.body (PySem.W.behindTheImports PySem.Challenge.pw_leastdeeds_k42_mending_refused) kE) {22,0,23,8} [PySem.W.topFrame {0,0,0,0}])
def D4 (w:PM)(os:Qb):Option (Flow×Qe×Code×Pos):=some (.next,Ed w.params os,(.body (PySem.W.behindTheImports PySem.Challenge.pw_leastdeeds_k42_mending_refused) kE),{126,0,126,9})
def D6 (w:PM)(os:Qb):=HD.ki treeTable PySem.Challenge.pw_leastdeeds_k42_mending_refused w 11 (some (.ref 6)) 1148 (Ed w.params os) (PySem.W.piecesOf ((((PySem.W.behindTheImports PySem.Challenge.pw_leastdeeds_k42_mending_refused).drop 9).drop 34).take 41) kE (.body (PySem.W.behindTheImports PySem.Challenge.pw_leastdeeds_k42_mending_refused) kE) {126,0,126,9} [PySem.W.topFrame {0,0,0,0}])
def D3 (w:PM)(os:Qb):Option (Flow×Qe×Code×Pos):=some (.next,Ec w.params os,(.body (PySem.W.behindTheImports PySem.Challenge.pw_leastdeeds_k42_mending_refused) kE),{390,0,397,94})
def kR (w:PM)(os:Qb):=HD.gG treeTable PySem.Challenge.pw_leastdeeds_k42_mending_refused w 11 (some (.ref 6)) 4026 (Ec w.params os) (PySem.W.restOf ((((PySem.W.behindTheImports PySem.Challenge.pw_leastdeeds_k42_mending_refused).drop 9).drop 34).drop 41) kE (.body (PySem.W.behindTheImports PySem.Challenge.pw_leastdeeds_k42_mending_refused) kE) {390,0,397,94} [PySem.W.topFrame {0,0,0,0}])
abbrev JM (P:QO)(s:Qe):=HD.kr PySem.Challenge.pw_leastdeeds_k42_mending_refused kq n6 kX true (PySem.W.boot_heap P) (λs=>JR.map s.heap.get?) s.abs
def Eb (w:PM)(os:Qb):=(kR w os).map λs=>(JM w.params s).1
def Ea (w:PM)(os:Qb):=(kR w os).map λs=>(JM w.params s).2.1
def D9 (w:PM)(os:Qb):=(kR w os).map λs=>(JM w.params s).2.2
def Eh (w:PM):=some true
def Eg (w:PM):=some (PySem.W.openGood kq n6)
def Ef (w:PM):=some ((kh w.params).map λp=>some p.2)
def _root_.PySem.W.Fast.tw14972087360970660847:PU:=PySem.Challenge.pw_leastdeeds_k42_mending_refused
def _root_.PySem.W.Fast.te14972087360970660847:PySem.Challenge.pw_leastdeeds_k42_mending_refused=PySem.W.Fast.tw14972087360970660847:=rfl
def _root_.PySem.W.Fast.tw1068262686880313057:QO->O0:=K42.kh
def _root_.PySem.W.Fast.te1068262686880313057:K42.kh=PySem.W.Fast.tw1068262686880313057:=rfl
def _root_.PySem.W.Fast.tw7631213901855352859:QO->Qb->Qe:=K42.Ee
def _root_.PySem.W.Fast.te7631213901855352859:K42.Ee=PySem.W.Fast.tw7631213901855352859:=rfl
def _root_.PySem.W.Fast.tw13040557243871597361:QO->Qb->Qe:=K42.Ed
def _root_.PySem.W.Fast.te13040557243871597361:K42.Ed=PySem.W.Fast.tw13040557243871597361:=rfl
def _root_.PySem.W.Fast.tw3975064901137214057:QO->Qb->Qe:=K42.Ec
def _root_.PySem.W.Fast.te3975064901137214057:K42.Ec=PySem.W.Fast.tw3975064901137214057:=rfl
noncomputable def Om:Eb=Eb:=rfl
name_quick kq1_42 for Eb by Om
noncomputable def Ol:Ea=Ea:=rfl
name_quick kq2_42 for Ea by Ol
noncomputable def Oq:Eg=Eg:=rfl
name_quick kg2_42 for Eg by Oq
noncomputable def Oj:D9=D9:=rfl
name_quick kq3_42 for D9 by Oj
noncomputable def Oo:Ef=Ef:=rfl
name_quick kg3_42 for Ef by Oo
noncomputable def Oi:D8=D8:=rfl
name_quick kua42 for D8 by Oi
noncomputable def Of:D5=D5:=rfl
name_quick kva42 for D5 by Of
noncomputable def Oh:D7=D7:=rfl
name_quick kub42 for D7 by Oh
noncomputable def Oe:D4=D4:=rfl
name_quick kvb42 for D4 by Oe
noncomputable def Og:D6=D6:=rfl
name_quick kuc42 for D6 by Og
noncomputable def Od:D3=D3:=rfl
name_quick kvc42 for D3 by Od
def zP:∀(w:PM) (os:Qb),PySem.W.Fast.kua42 (w.withFollow "special-get-raises" false) os=PySem.W.Fast.kva42 (w.withFollow "special-get-raises" false) os:=λw os=>by kernel_rfl
def Cf:∀(w:PM) (os:Qb),PySem.W.Fast.kua42 (w.withFollow "special-get-raises" true) os=PySem.W.Fast.kva42 (w.withFollow "special-get-raises" true) os:=λw os=>by kernel_rfl
def ka0:∀(w:PM) (os:Qb),D8 w os=D5 w os:=λw os=>by
 rw[PySem.W.Fast.kua42_eq,PySem.W.Fast.kva42_eq];exact PySem.W.byRow2 "special-get-raises" (P:=λw=>PySem.W.Fast.kua42 w os=PySem.W.Fast.kva42 w os) (λw=>zP w os) (λw=>Cf w os) w
def zO:∀(w:PM) (os:Qb),PySem.W.Fast.kub42 (w.withFollow "special-get-raises" false) os=PySem.W.Fast.kvb42 (w.withFollow "special-get-raises" false) os:=λw os=>by kernel_rfl
def Ce:∀(w:PM) (os:Qb),PySem.W.Fast.kub42 (w.withFollow "special-get-raises" true) os=PySem.W.Fast.kvb42 (w.withFollow "special-get-raises" true) os:=λw os=>by kernel_rfl
def ka1:∀(w:PM) (os:Qb),D7 w os=D4 w os:=λw os=>by
 rw[PySem.W.Fast.kub42_eq,PySem.W.Fast.kvb42_eq];exact PySem.W.byRow2 "special-get-raises" (P:=λw=>PySem.W.Fast.kub42 w os=PySem.W.Fast.kvb42 w os) (λw=>zO w os) (λw=>Ce w os) w
def zN:∀(w:PM) (os:Qb),PySem.W.Fast.kuc42 (w.withFollow "special-get-raises" false) os=PySem.W.Fast.kvc42 (w.withFollow "special-get-raises" false) os:=λw os=>by kernel_rfl
def Cd:∀(w:PM) (os:Qb),PySem.W.Fast.kuc42 (w.withFollow "special-get-raises" true) os=PySem.W.Fast.kvc42 (w.withFollow "special-get-raises" true) os:=λw os=>by kernel_rfl
def ka2:∀(w:PM) (os:Qb),D6 w os=D3 w os:=λw os=>by
 rw[PySem.W.Fast.kuc42_eq,PySem.W.Fast.kvc42_eq];exact PySem.W.byRow2 "special-get-raises" (P:=λw=>PySem.W.Fast.kuc42 w os=PySem.W.Fast.kvc42 w os) (λw=>zN w os) (λw=>Cd w os) w
def zI:∀(w:PM) (os:Qb),PySem.W.Fast.kq1_42 (w.withFollow "special-get-raises" false) os=Eh (w.withFollow "special-get-raises" false):=λw os=>by kernel_rfl
def Cb:∀(w:PM) (os:Qb),PySem.W.Fast.kq1_42 (w.withFollow "special-get-raises" true) os=Eh (w.withFollow "special-get-raises" true):=λw os=>by kernel_rfl
def kl1:∀(w:PM) (os:Qb),Eb w os=Eh w:=λw os=>by
 rw[PySem.W.Fast.kq1_42_eq];exact PySem.W.byRow2 "special-get-raises" (P:=λw=>PySem.W.Fast.kq1_42 w os=Eh w) (λw=>zI w os) (λw=>Cb w os) w
def zH:∀(w:PM) (os:Qb),PySem.W.Fast.kq2_42 (w.withFollow "special-get-raises" false) os=PySem.W.Fast.kg2_42 (w.withFollow "special-get-raises" false):=λw os=>by kernel_rfl
def Ca:∀(w:PM) (os:Qb),PySem.W.Fast.kq2_42 (w.withFollow "special-get-raises" true) os=PySem.W.Fast.kg2_42 (w.withFollow "special-get-raises" true):=λw os=>by kernel_rfl
def kl2:∀(w:PM) (os:Qb),Ea w os=Eg w:=λw os=>by
 rw[PySem.W.Fast.kq2_42_eq,PySem.W.Fast.kg2_42_eq];exact PySem.W.byRow2 "special-get-raises" (P:=λw=>PySem.W.Fast.kq2_42 w os=PySem.W.Fast.kg2_42 w) (λw=>zH w os) (λw=>Ca w os) w
def zG:∀(w:PM) (os:Qb),PySem.W.Fast.kq3_42 (w.withFollow "special-get-raises" false) os=PySem.W.Fast.kg3_42 (w.withFollow "special-get-raises" false):=λw os=>by kernel_rfl
def B9:∀(w:PM) (os:Qb),PySem.W.Fast.kq3_42 (w.withFollow "special-get-raises" true) os=PySem.W.Fast.kg3_42 (w.withFollow "special-get-raises" true):=λw os=>by kernel_rfl
def kl3:∀(w:PM) (os:Qb),D9 w os=Ef w:=λw os=>by
 rw[PySem.W.Fast.kq3_42_eq,PySem.W.Fast.kg3_42_eq];exact PySem.W.byRow2 "special-get-raises" (P:=λw=>PySem.W.Fast.kq3_42 w os=PySem.W.Fast.kg3_42 w) (λw=>zG w os) (λw=>B9 w os) w
def kp:∀(w:PM) (os:Qb),(kP w os).map (·.2)=some {denote treeTable (.body (PySem.W.behindTheImports PySem.Challenge.pw_leastdeeds_k42_mending_refused) kE),(.body (PySem.W.behindTheImports PySem.Challenge.pw_leastdeeds_k42_mending_refused) kE),{0,0,0,0},[PySem.W.topFrame {0,0,0,0}]}:=λw os=>by kernel_rfl
def LZ:PySem.W.LeftO xj.prog kq n6 kX kH.obs kH.val 7876:=HD.uK (m0:=11) (ann:=some (.ref 6)) (PySem.W.boot_open `r `d (λ_=>rfl)) (λw=>by kernel_rfl) λw os=>HD.Al (J:=9) (kp w os) (by kernel_rfl) (ka0 w os) (HD.t7 (J:=34) (ka1 w os) (HD.t7 (J:=41) (ka2 w os) (HD.Ak (kl1 w os) (kl2 w os) (kl3 w os))))
end K42
namespace L2
open PySem PySem.Spec PyProof.Rows
abbrev Key:=Sum Int Str
noncomputable def rM:Key->O3->Bool
 |.inl k,v=>Value.isInt k v
 |.inr x,v=>Value.isStrOf x v
noncomputable def Ob (w:PM):Key->Int
 |.inl k=>hashInt k
 |.inr x=>hashStr w x
def cL:∀{k:Key}{v:O3},rM k v=true->(∃i t,k=Sum.inl i/\v=Value.int i t)\/(∃x t,k=Sum.inr x/\v=Value.str x t)
 | .inl i,v,h=>by
   obtain⟨t,e⟩:=Value.isInt_shape h;exact .inl ⟨i,t,rfl,e⟩
 | .inr x,v,h=>by
   obtain⟨t,e⟩:=Value.isStrOf_shape h;exact .inr ⟨x,t,rfl,e⟩
def jb (x:Str)(t:Tok):rM (.inr x) (.str x t)=true:=by simp[rM,Value.isStrOf]
def JQ (a b:Int):decide ((Sum.inl a:Key)=Sum.inl b)=(a==b):=by
 by_cases e:a=b
 ·subst e;simp
 ·have h:¬ (Sum.inl a:Key)=Sum.inl b:=λq=>e (Sum.inl.inj q);rw[decide_eq_false h];exact(P7.mpr e).symm
def JN (a b:Str):decide ((Sum.inr a:Key)=Sum.inr b)=decide (a=b):=by
 by_cases e:a=b
 ·subst e;simp
 ·have h:¬ (Sum.inr a:Key)=Sum.inr b:=λq=>e (Sum.inr.inj q);rw[decide_eq_false h,decide_eq_false e]
def JP (a:Int)(b:Str):decide ((Sum.inl a:Key)=Sum.inr b)=false:=decide_eq_false (λq=>nomatch q)
def JO (a:Str)(b:Int):decide ((Sum.inr a:Key)=Sum.inl b)=false:=decide_eq_false (λq=>nomatch q)
def jS (prog:PU)(w:PM):PySem.KeyKind prog w Key where
 is:=rM
 hash:=Ob w
 inj:=λv a b I F=>by
  rcases cL I with⟨i,t,rfl,rfl⟩|⟨x,t,rfl,rfl⟩
  ·rcases cL F with⟨j,u,rfl,e⟩|⟨y,u,rfl,e⟩
   ·injection e with e1 _;rw[e1]
   ·exact nomatch e
  ·rcases cL F with⟨j,u,rfl,e⟩|⟨y,u,rfl,e⟩
   ·exact nomatch e
   ·injection e with e1 _;rw[e1]
 byValue:=λk v h=>by
  rcases cL h with⟨i,t,rfl,rfl⟩|⟨x,t,rfl,rfl⟩<;>rfl
 pyHash:=λB h=>by
  rcases cL B with⟨i,t,rfl,rfl⟩|⟨x,t,rfl,rfl⟩
  ·exact wpAny_pyHash_int h
  ·exact wpAny_pyHash_str h
 eqBool:=λJ B h=>by
  rcases cL J with⟨i,t,rfl,rfl⟩|⟨x,t,rfl,rfl⟩
  ·rcases cL B with⟨j,u,rfl,rfl⟩|⟨y,u,rfl,rfl⟩
   ·rw[JQ] at h;exact wpAny_eqBool_int h
   ·rw[JP] at h;exact SeqAt.EqAt.int_str i t y u _ _ _ _ h
  ·rcases cL B with⟨j,u,rfl,rfl⟩|⟨y,u,rfl,rfl⟩
   ·rw[JO] at h;exact SeqAt.EqAt.str_int x t j u _ _ _ _ h
   ·rw[JN] at h;exact wpAny_eqBool_str h
 «strs»:=λk x t v h=>by
  rcases cL h with⟨i,u,rfl,e⟩|⟨y,u,rfl,e⟩
  ·exact nomatch e
  ·injection e with e1 _
   subst e1;cases v<;>rfl
inductive V where
 |non|bl (b:Bool)|int (i:Int)|str (x:Str)|byt (b:Array UInt8)|flt (b:UInt64)|ref (a:Addr)|ty (n:String)
 deriving DecidableEq
def RelV:V->O3->Prop
 |.non,u=>u=Value.none
 |.bl b,u=>u=Value.bool b
 |.int i,u=>∃t,u=Value.int i t
 |.str x,u=>∃t,u=Value.str x t
 |.byt b,u=>∃t,u=Value.bytes b t
 |.flt b,u=>∃t,u=Value.float b t
 |.ref a,u=>u=Value.ref a
 |.ty n,u=>u=Value.type n
abbrev Vals:List V->List O3->Prop:=Q0 RelV
def Vals.length (r:Vals xs us):xs.length=us.length:=Paired.length r
noncomputable def Vals.get:∀{xs:List V}{us:List O3}{i:Nat}{x:V},Vals xs us->xs[i]?=some x->∃u,us[i]?=some u/\RelV x u
 |_,_,_,_,.nil,e=>by simp at e
 |_,_,0,_,.cons r _,e=>by simp at e;subst e;exact{_,rfl,r}
 | _,_,i+1,x,.cons _ t,e=>by
   obtain⟨u,h1,h2⟩:=Vals.get t (by simpa using e)
   exact{u,by simpa using h1,h2}
noncomputable def Vals.set (r:RelV x u):∀{xs:List V}{us:List O3} (i:Nat),Vals xs us->Vals (xs.set i x) (us.set i u)
 |_,_,_,.nil=>.nil
 |_,_,0,.cons _ t=>.cons r t
 |_,_,i+1,.cons q t=>.cons q (Vals.set r i t)
noncomputable def Vals.append:∀{xs ys:List V}{us ws:List O3},Vals xs us->Vals ys ws->Vals (xs++ys) (us++ws)
 |_,_,_,_,.nil,s=>s
 |_,_,_,_,.cons r t,s=>.cons r (Vals.append t s)
noncomputable def Vals.take:∀{xs:List V}{us:List O3} (n:Nat),Vals xs us->Vals (xs.take n) (us.take n)
 |_,_,0,_=>.nil
 |_,_,_+1,.nil=>.nil
 |_,_,n+1,.cons r t=>.cons r (Vals.take n t)
noncomputable def Vals.drop:∀{xs:List V}{us:List O3} (n:Nat),Vals xs us->Vals (xs.drop n) (us.drop n)
 |_,_,0,r=>r
 |_,_,_+1,.nil=>.nil
 |_,_,n+1,.cons _ t=>Vals.drop n t
def qj:Option V->Option O3->Prop
 |some v,some u=>RelV v u
 |none,none=>True
 |_,_=>False
def KV {j:Type}:List (j×V)->List (j×O3)->Prop:=Q0 λ(p:j×V) (q:j×O3)=>p.1=q.1/\RelV p.2 q.2
noncomputable def kV:Key->V
 |.inl i=>.int i
 |.inr x=>.str x
inductive HO where
 |lst (xs:List V)
 |tup (xs:List V)
 |dK (kvs:List (Key×V))|dT (kvs:List (List Key×V))
 |set (S:Int->Bool) (n:Nat)
 |ins (C dx:Addr) (fs:List (Str×V))
 |own (x:Addr)
 |xd (fs:List (Str×V))
 |met (f x:Addr)
 |rng (lo hi:Int)
 |frz (o:Obj) (u:HO)
 |tbl (ps:Array O3)
 |ext (φ:Heap->Prop)
 |dn (es:List QS)
abbrev Hp:=Addr->Option HO
noncomputable def upd (H:Hp)(a:Addr)(o:HO):Hp:=λb=>if b=a then some o else H b
def bJ:upd H a o a=some o:=by unfold upd;rw[if_pos rfl]
def ao (h:b≠a):upd H a o b=H b:=by unfold upd;rw[if_neg h]
def aS {H:Hp}(h:H a=some o)(h':H b=none):a≠b:=by
 intro e;subst e;rw[h] at h';cases h'
section
variable(P:PU)(w:PM)
noncomputable def dF (H:Hp)(h:Heap)(a:Addr):HO->Prop
 |.lst xs=>xs.length<=sizeLine/\∃(j:List O3) (n:Nat),Vals xs j/\h.get? a=some {cls:=.type "list",data:=.seq j.toArray n}
 |.tup xs=>xs.length<=sizeLine/\∃j:List O3,Vals xs j/\IsTup h a j.toArray
 |.dK y=>y.length<=sizeLine/\(a==sysModules)=false/\∃F,KV y F/\h.DictOf (jS P w) a F
 |.dT y=>y.length<=sizeLine/\(a==sysModules)=false/\∃xs:List (List Key×Addr×O3),
  Q0 (λ(p:List Key×V) (q:List Key×Addr×O3)=>p.1=q.1/\H q.2.1=some (.tup (p.1.map kV))/\RelV p.2 q.2.2) y xs/\
  ∃o es I,h.get? a=some o/\o.ExactDict/\o.data=.dict es I/\es.toList=xs.map (entryOfKey (tupleKind (jS P w)))/\(xs.map (·.1)).Nodup
 |.set S n=>h.SetOf (intKind P w) a S n
 |.ins C dx fs=>H dx=some (.own a)/\fs.length<=1000/\dx≠a/\h.get? a=some (PySem.W.instObj C dx)/\
  ∃mA,h.Ns1 dx mA/\(∀f,qj (fs.lookup f) (mA f))/\PySem.Within mA (fs.map (·.1))
 |.own _=>∃o,h.get? a=some o
 |.xd fs=>∃mA,h.Ns1 a mA/\∀f,qj (fs.lookup f) (mA f)
 |.rng lo hi=>∃t u v,h.get? a=some {cls:=.type "range",data:=.fields #[.int lo t,.int hi u,.int 1 v]}
 |.frz o u=>h.get? a=some o/\dF H h a u
 |.tbl ps=>h.get? a=some {cls:=.none,data:=.fields ps}
 |.met f x=>h.get? a=some (PySem.W.methodObj (.ref f) (.ref x))
 |.ext B=>B h/\(∃o,h.get? a=some o)/\∀h1 h2:Heap,B h1->(∀o,h1.get? a=some o->h2.get? a=some o)->B h2
 |.dn es=>es.length<=sizeLine/\(a==sysModules)=false/\∃o,h.get? a=some o/\o.ExactDict/\o.data=.dict es.toArray es.length
def dH (H:Hp)(h:Heap):Prop:=∀a o,H a=some o->dF P w H h a o
end
section
variable{P:PU}{w:PM}{H H':Hp}{h h':Heap}{a:Addr}{o:HO}
def dF.lt (x:dF P w H h a o):a<h.objs.size:=by
 cases o with
 |lst xs=>obtain⟨_,_,_,_,e⟩:=x;exact Po e
 |tup xs=>obtain⟨_,_,_,p⟩:=x;exact p.lt
 |dK j=>obtain⟨_,_,_,_,o,_,_,e,_⟩:=x;exact Po e
 |dT j=>obtain⟨_,_,_,_,o,_,_,e,_⟩:=x;exact Po e
 |set S n=>obtain⟨o,_,_,_,e,_⟩:=x;exact Po e
 |ins C dx fs=>obtain⟨_,_,_,e,_⟩:=x;exact Po e
 |own y=>obtain⟨_,e⟩:=x;exact Po e
 |xd fs=>obtain⟨_,⟨_,_,_,e,_⟩,_⟩:=x;exact Po e
 |rng lo hi=>obtain⟨_,_,_,e⟩:=x;exact Po e
 |frz ob u=>obtain⟨e,_⟩:=x;exact Po e
 |tbl ps=>exact Po (x)
 |met f y=>exact Po (x)
 |ext B=>obtain⟨_,⟨_,e⟩,_⟩:=x;exact Po e
 |dn es=>obtain⟨_,_,_,e,_⟩:=x;exact Po e
noncomputable def Q0.mapP {j y:Type}{F G:j->y->Prop}:∀{l₁:List j}{l₂:List y},Q0 F l₁ l₂->(∀a b,F a b->G a b)->Q0 G l₁ l₂
 |_,_,.nil,_=>.nil
 |_,_,.cons r t,f=>.cons (f _ _ r) (Q0.mapP t f)
def dF.stay (x:dF P w H h a o)(k:∀b u,(b=a\/H b=some (.own a))->h.get? b=some u->h'.get? b=some u)
 (ho:∀b,H b=some (.own a)->H' b=some (.own a)) (I:∀b xs,H b=some (.tup xs)->H' b=some (.tup xs)):dF P w H' h' a o:=by
 induction o with
 |lst xs=>obtain⟨z,B,n,r,e⟩:=x;exact{z,B,n,r,k _ _ (.inl rfl) e}
 |tup xs=>obtain⟨z,B,r,ob,e,c⟩:=x;exact{z,B,r,ob,k _ _ (.inl rfl) e,c}
 |dK F=>obtain⟨z,y,L,r,ob,es,j,e,c⟩:=x;exact{z,y,L,r,ob,es,j,k _ _ (.inl rfl) e,c}
 | dT F=>
   obtain⟨z,y,xs,r,ob,es,j,e,c⟩:=x;exact{z,y,xs,Q0.mapP r λp q z=>{z.1,I _ _ z.2.1,z.2.2},ob,es,j,k _ _ (.inl rfl) e,c}
 |set S n=>obtain⟨ob,es,j,t,e,c⟩:=x;exact{ob,es,j,t,k _ _ (.inl rfl) e,c}
 | ins C dx fs=>
   obtain⟨d,z,ne,e,mA,⟨od,es,j,e2,c⟩,r⟩:=x;exact{ho _ d,z,ne,k _ _ (.inl rfl) e,mA,{od,es,j,k _ _ (.inr d) e2,c},r}
 |own y=>obtain⟨ob,e⟩:=x;exact{ob,k _ _ (.inl rfl) e}
 |xd fs=>obtain⟨mA,⟨od,es,j,e,c⟩,r⟩:=x;exact{mA,{od,es,j,k _ _ (.inl rfl) e,c},r}
 |rng lo hi=>obtain⟨t,u,v,e⟩:=x;exact{t,u,v,k _ _ (.inl rfl) e}
 |frz ob u J=>obtain⟨e,q⟩:=x;exact{k _ _ (.inl rfl) e,J q}
 | tbl ps=>
   have e:=x;exact k a _ (.inl rfl) e
 | met f y=>
   have e:=x;exact k a _ (.inl rfl) e
 |ext M=>obtain⟨p,⟨o,e⟩,st⟩:=x;exact{st _ _ p λo q=>k _ _ (.inl rfl) q,{o,k _ _ (.inl rfl) e},st}
 |dn es=>obtain⟨z,y,o,e,c⟩:=x;exact{z,y,o,k _ _ (.inl rfl) e,c}
def dH.lt (x:dH P w H h)(e:H a=some o):a<h.objs.size:=(x a o e).lt
def dH.fresh (x:dH P w H h)(e:h.objs.size<=a):H a=none:=by
 cases q:H a with
 |none=>rfl
 |some u=>exact absurd (Pu (x.lt q) e) (Ql _)
def dH.kept (x:dH P w H h)(k:∀b u,h.get? b=some u->h'.get? b=some u):dH P w H h':=λa o e=>
 (x a o e).stay (λb u _ q=>k b u q) (λ_ q=>q) λ_ _ q=>q
def dH.laid (x:dH P w H h)(k:∀b u,h.get? b=some u->h'.get? b=some u)(y:h.objs.size<=a)(new:dF P w (upd H a o) h' a o):dH P w (upd H a o) h':=λb u e=>by
 have hn:=x.fresh y;by_cases j:b=a
 ·subst j;rw[bJ] at e;cases e;exact new
 ·rw[ao j] at e;exact(x b u e).stay (λc v _ q=>k c v q) (λc q=>by rw[ao (aS q hn)];exact q) λc xs q=>by rw[ao (aS q hn)];exact q
end
def Rd (H:Hp)(a:Addr)(u:HO):Prop:=H a=some u\/∃o,H a=some (.frz o u)
def Rd.of (h:H a=some u):Rd H a u:=.inl h
def Rd.ok (r:Rd H a u)(x:dH P w H h):dF P w H h a u:=by
 rcases r with r|⟨o,r⟩
 ·exact x a u r
 ·obtain⟨_,q⟩:=x a _ r;exact q
def EG:Option HO->Prop
 |some (.lst _)=>True
 |some (.dK _)=>True
 |some (.dT _)=>True
 |some (.set _ _)=>True
 |some (.ins _ _ _)=>True
 |some (.ext _)=>True
 |some (.dn _)=>True
 |_=>False
section
variable{P:PU}{w:PM}{H:Hp}{h h':Heap}{x e:Addr}{o':HO}
def dH.write (ok:dH P w H h)(mu:EG (H x))(he:e=x\/H e=some (.own x))(k:∀b u,b≠e->h.get? b=some u->h'.get? b=some u)(L:∃u,h'.get? e=some u)
 (new:dF P w (upd H x o') h' x o'):dH P w (upd H x o') h':=λb u q=>by
 have B:∀c y,H c=some (.own y)->c≠x:=λc y r z=>by subst z;rw[r] at mu;exact mu
 have F:∀c xs,H c=some (.tup xs)->c≠x:=λc xs r z=>by subst z;rw[r] at mu;exact mu
 by_cases I:b=x
 ·subst I;rw[bJ] at q;cases q;exact new
 ·rw[ao I] at q;by_cases j:b=e
  ·have M:H b=some (.own x):=by
    rcases he with z|z
    ·exact absurd (j.trans z) I
    ·rw[j];exact z
   rw[q] at M;cases M;obtain⟨v,O⟩:=L;exact{v,by rw[j];exact O}
  ·refine(ok b u q).stay (λc v J r=>k c v ?_ r) (λc r=>by rw[ao (B c b r)];exact r) λc xs r=>by rw[ao (F c xs r)];exact r
   rcases J with rfl|J
   ·exact j
   ·rintro rfl;rcases he with z|z
    ·exact B c b J z
    ·rw[J] at z;cases z;exact I rfl
end
structure Un (fs ex:List Addr) (H H':Hp) (h h':Heap):Prop where
 keep:∀b o,h.get? b=some o->H b=none->b∉fs->b∉ex->h'.get? b=some o
 slot:∀b o,h.get? b=some o->H b=none->b∈fs->b∉ex->∃sl,h'.get? b=some {o with slots:=sl}
 free:∀b o,h.get? b=some o->H b=none->b∉ex->H' b=none
 there:∀b o,h.get? b=some o->b∉ex->∃o',h'.get? b=some o'
 tups:∀b xs,H b=some (.tup xs)->H' b=some (.tup xs)
 frzs:∀b o u,H b=some (.frz o u)->H' b=some (.frz o u)
 tbls:∀b ps,H b=some (.tbl ps)->∃more,H' b=some (.tbl (ps++more))
section
variable{fs fs' ex ex':List Addr}{H H1 H2:Hp}{h h1 h2 h':Heap}{a x e:Addr}{o:HO}
def Un.any (u:Un fs ex H H1 h h1)(q:h.get? b=some ob)(n:H b=none)(y:b∉ex):∃sl,h1.get? b=some {ob with slots:=sl}:=by
 by_cases j:b∈fs
 ·exact u.slot b ob q n j y
 ·exact{ob.slots,u.keep b ob q n j y}
def Un.kept (k:∀b u,h.get? b=some u->h'.get? b=some u):Un fs ex H H h h':=
 {λb ob q _ _ _=>k b ob q,λb ob q _ _ _=>{ob.slots,k b ob q},λ_ _ _ n _=>n,λb ob q _=>{ob,k b ob q},λ_ _ q=>q,λ_ _ _ q=>q,λ_ ps q=>{#[],by rw[q];simp}}
def Un.refl:Un fs ex H H h h:=Un.kept λ_ _ q=>q
def Un.laid (k:∀b u,h.get? b=some u->h'.get? b=some u)(j:h.objs.size<=a)(hn:H a=none):Un fs ex H (upd H a o) h h' where
 keep:=λb u q _ _ _=>k b u q
 slot:=λb u q _ _ _=>{u.slots,k b u q}
 free:=λb u q n _=>by rw[ao (PH (Pu (Po q) j))];exact n
 there:=λb u q _=>{u,k b u q}
 tups:=λb xs q=>by rw[ao (aS q hn)];exact q
 frzs:=λb u xs q=>by rw[ao (aS q hn)];exact q
 tbls:=λb ps q=>{#[],by rw[ao (aS q hn),q];simp}
def Un.write (mu:EG (H x))(he:e=x\/H e=some (.own x))(k:∀b u,b≠e->h.get? b=some u->h'.get? b=some u)(y:∃u,h'.get? e=some u):Un fs ex H (upd H x o) h h':=by
 have F:∀b,H b=none->b≠x:=λb n z=>by subst z;rw[n] at mu;exact mu
 have B:∀b,H b=none->b≠e:=λb n z=>by
  subst z;rcases he with r|r
  ·exact F b n r
  ·rw[n] at r;cases r
 have hm:∀b u,H b=some u->¬ EG (some u)->b≠x:=λb u q nm z=>by subst z;rw[q] at mu;exact nm mu
 refine{λb u q n _ _=>k b u (B b n) q,λb u q n _ _=>{u.slots,k b u (B b n) q},λb u q n _=>by rw[ao (F b n)];exact n,λb u q _=>?_,
  λb xs q=>by rw[ao (hm b _ q λz=>z)];exact q,λb u xs q=>by rw[ao (hm b _ q λz=>z)];exact q,λb ps q=>{#[],by rw[ao (hm b _ q λz=>z),q];simp}}
 by_cases j:b=e
 ·subst j;exact y
 ·exact{u,k b u j q}
end
noncomputable def Dn (h:Heap)(H:Hp):List Addr:=(List.range h.objs.size).filter λa=>(H a).isSome
def lE (h:Heap)(H:Hp):Heap:=PySem.W.hideAll h (Dn h H)
def zX (h:Heap)(H:Hp):(lE h H).objs.size=h.objs.size:=PySem.W.hideAll_size _ _
def Cn (e:h.get? b=some o)(n:H b=none):(lE h H).get? b=some o:=
 PySem.W.hideAll_get _ e λhm=>by
  have q:(H b).isSome=true:=(QY.mp hm).2;rw[n] at q;simp at q
def F1 (e:(lE h H).get? b=some o):h.get? b=some o/\H b=none:=by
 have j:=PySem.W.of_hideAll (Dn h H) e;refine{j,?_};cases q:H b with
 |none=>rfl
 | some x=>
   have hm:b∈Dn h H:=QY.mpr {QF.mpr (Po j),by simp[q]}
   have z:(lE h H).get? b=none:=PySem.W.hideAll_none (Dn h H) hm;rw[z] at e;cases e
structure Mod (K:O0) (mg:Str->Option O3) (base:Heap):Prop where
 kin:K.In base
 glob:base.Ns mainGlobals mg
 blt:∃mb,base.Ns builtinsNs mb/\∀x:Str,x≠"__name__"->mb x=bootBuiltins x
 nolimit:base.NoLimit
structure Cx where
 prog:PU
 w:PM
 K:O0
 mg:Str->Option O3
 base:Heap
 A:QE
 N:List Str
 s₀:O8
 H₀:Hp
 env:Env
 outer:List Env
 stack:List Env
 ex:List Addr
 fn:Str->Bool
 calm:Bool
 pn:List (Addr×Obj)
 xe:O3->O8->Prop
noncomputable def fu (l:List Env):List Addr:=l.filterMap (·.frame)
abbrev Cx.fs (X:Cx):List Addr:=fu X.outer
def uA (sc:Scope)(x:Str):Prop:=sc.names.lookup x=some .local\/sc.names.lookup x=some .cell\/sc.names.lookup x=some .free
def Loc (sc:Scope)(x:Str):Prop:=sc.names.lookup x=some .local\/sc.names.lookup x=some .cell
def Look (env:Env)(h:Heap)(m:Str->Option O3)(x:Str)(u:O3):Prop:=
 (env.kindOf x=some .local/\m x=some u)\/((env.kindOf x=some .cell\/env.kindOf x=some .free)/\∃c,env.cells.lookup x=some c/\h.IsCell c (some u))
structure Cx.Ok (X:Cx):Prop where
 mod:Mod X.K X.mg X.base
 kind:X.env.scope.kind=.function
 glob:X.env.globals=mainGlobals
 blt:X.env.builtins=builtinsNs
 above:X.s₀.heap.objs.size<=X.env.locals
 inj:∀x y c,X.env.cells.lookup x=some c->X.env.cells.lookup y=some c->x=y
 has:∀x,(X.env.kindOf x=some .cell\/X.env.kindOf x=some .free)->∃c,X.env.cells.lookup x=some c
 cab:∀x c,X.fn x=true->X.env.cells.lookup x=some c->X.s₀.heap.objs.size<=c
 hd:X.calm=true->X.A.handled=none
 frames:X.A.frames=some X.stack
 stk:X.stack=X.outer\/(X.stack=X.env::X.outer/\X.env.frame=some X.env.locals)
 exf:∀b∈X.ex,b≠X.env.locals/\∀x c,X.env.cells.lookup x=some c->c≠b
 bs:∀b o,X.base.get? b=some o->X.s₀.heap.get? b=some o/\X.H₀ b=none
 bsz:X.base.objs.size<=X.s₀.heap.objs.size
 noex:∀b o,X.base.get? b=some o->b∉X.ex
 exfs:∀b∈X.ex,b∉X.fs
 funs:X.s₀.heap.FunFrames X.base X.outer
 frf:∀b∈X.fs,X.H₀ b=none
structure Inv (X:Cx) (pins:List (Addr×Obj)) (σ:List (Option V)) (H:Hp) (s:O8):Prop where
 ok:X.Ok
 os:s.os=X.s₀.os
 bare:AllBare s.gens
 base:Un X.fs X.ex X.H₀ H X.s₀.heap s.heap
 loc:∃m,s.heap.Ns X.env.locals m/\∀(i:Nat) (x:Str) (v:V),X.N[i]?=some x->σ[i]?=some (some v)->uA X.env.scope x->∃u,RelV v u/\Look X.env s.heap m x u
 cell:∀x c,X.env.cells.lookup x=some c->∃v,s.heap.IsCell c v
 free:H X.env.locals=none
 freeC:∀x c,X.env.cells.lookup x=some c->H c=none
 pin:∀p∈X.pn++pins,s.heap.get? p.1=some p.2/\H p.1=none/\p.1≠X.env.locals/\p.1∉X.fs/\∀v,p.2.data≠.cell v
 hok:dH X.prog X.w H s.heap
 len:σ.length=X.N.length
section
variable{X:Cx}{pins:List (Addr×Obj)}{σ:List (Option V)}{H H':Hp}{s:O8}{h':Heap}
def Cx.Ok.nofr (ok:X.Ok)(e:X.base.get? b=some o):b∉X.fs:=λj=>by
 have:=(ok.funs.mem j).1;rw[e] at this;cases this
def Inv.bs (I:Inv X pins σ H s):∀b o,X.base.get? b=some o->s.heap.get? b=some o/\H b=none:=λb o e=>
 {I.base.keep b o (I.ok.bs b o e).1 (I.ok.bs b o e).2 (I.ok.nofr e) (I.ok.noex b o e),I.base.free b o (I.ok.bs b o e).1 (I.ok.bs b o e).2 (I.ok.noex b o e)}
def Inv.bk (I:Inv X pins σ H s):∀b o,X.base.get? b=some o->s.heap.get? b=some o:=λb o e=>(I.bs b o e).1
def Inv.mod (I:Inv X pins σ H s):Mod X.K X.mg X.base:=I.ok.mod
def Inv.kIn (I:Inv X pins σ H s):X.K.In s.heap:=I.ok.mod.kin.keeps I.bk
def Inv.lt (I:Inv X pins σ H s):X.env.locals<s.heap.objs.size:=let{_,hn,_}:=I.loc;hn.lt
def Inv.sz (I:Inv X pins σ H s):X.s₀.heap.objs.size<=s.heap.objs.size:=Pk I.ok.above (Rf I.lt)
def Inv.nofs (I:Inv X pins σ H s)(h:s.heap.objs.size<=a):a∉X.fs:=λj=>by
 obtain⟨_,o,ho,_⟩:=I.ok.funs.mem j;exact absurd (Pu (Po ho) (Pk I.sz h)) (Ql _)
def Inv.cne (I:Inv X pins σ H s):∀x c,X.env.cells.lookup x=some c->c≠X.env.locals:=λx c e z=>by
 obtain⟨v,o,ho,hd⟩:=I.cell x c e;obtain⟨m,⟨o',es,B,y,j,_⟩,_⟩:=I.loc;rw[z,y] at ho;cases ho;rw[j] at hd;cases hd
def Inv.funs (I:Inv X pins σ H s):s.heap.FunFrames X.base X.outer:=by
 have all:∀(l:List Env),(∀b∈fu l,b∈X.fs)->X.s₀.heap.FunFrames X.base l->s.heap.FunFrames X.base l:=by
  intro l;induction l with
  |nil=>intro _ _;trivial
  | cons env r B=>
    intro hs hl;obtain⟨hk,⟨L,o,hf,hn,ho,hd⟩,hr⟩:=hl;have j:=hs L (by unfold fu;rw[Rq,hf];exact Pn)
    obtain⟨sl,e⟩:=I.base.slot L o ho (I.ok.frf L j) j λz=>I.ok.exfs L z j;exact{hk,{L,_,hf,hn,e,hd},B (λb y=>hs b (by unfold fu;rw[Rq,hf];exact Pa _ y)) hr}
 exact all X.outer (λ_ y=>y) I.ok.funs
def Inv.stack (I:Inv X pins σ H s):s.heap.FunFrames X.base X.stack:=by
 rcases I.ok.stk with e|⟨e,hf⟩
 ·rw[e];exact I.funs
 ·rw[e];obtain⟨m,hn,_⟩:=I.loc;refine .cons (by rw[I.ok.kind];decide) hf hn ?_ I.funs
  exact Rr (Pk I.ok.bsz I.ok.above)
def Inv.stkSub (I:Inv X pins σ H s):∀b∈fu X.stack,b∈X.env.locals::X.fs:=λb j=>by
 rcases I.ok.stk with e|⟨e,hf⟩
 ·rw[e] at j;exact Pa _ j
 ·rw[e] at j;unfold fu at j;rw[Rq,hf] at j;exact j
def Inv.stkFree (I:Inv X pins σ H s):∀b∈fu X.stack,H b=none:=λb j=>by
 rcases Pr.mp (I.stkSub b j) with e|j
 ·rw[e];exact I.free
 ·obtain⟨_,o,ho,_⟩:=I.ok.funs.mem j;exact I.base.free b o ho (I.ok.frf b j) λz=>I.ok.exfs b z j
def Inv.step {ch:List Addr}(I:Inv X pins σ H s)
 (B:∀b∈ch,(b∈X.ex\/X.s₀.heap.objs.size<=b)/\b≠X.env.locals/\(∀x c,X.env.cells.lookup x=some c->c≠b)/\∀p∈X.pn++pins,p.1≠b)
 (keep:∀b o,b≠X.env.locals->b∉X.fs->b∉ch->s.heap.get? b=some o->H b=none->h'.get? b=some o)
 (slot:∀b o,b≠X.env.locals->b∈X.fs->b∉ch->s.heap.get? b=some o->H b=none->∃sl,h'.get? b=some {o with slots:=sl}) (free:∀b o,b∉ch->s.heap.get? b=some o->H b=none->H' b=none)
 (there:∀b o,b∉ch->s.heap.get? b=some o->∃o',h'.get? b=some o')
 (tups:∀b xs,H b=some (.tup xs)->H' b=some (.tup xs)) (frzs:∀b o u,H b=some (.frz o u)->H' b=some (.frz o u)) (tbls:∀b ps,H b=some (.tbl ps)->∃more,H' b=some (.tbl (ps++more)))
 (ns:∀m,s.heap.Ns X.env.locals m->h'.Ns X.env.locals m) (hok:dH X.prog X.w H' h') (Y:AllBare g') :
 Inv X pins σ H' {s with heap:=h',gens:=g',drawn:=d',toks:=t'}:=by
 have M:∀b o,X.s₀.heap.get? b=some o->b≠X.env.locals:=λb o e=>PH (Pu (Po e) I.ok.above);have J:∀b o,X.s₀.heap.get? b=some o->b∉X.ex->b∉ch:=λb o e j L=>by
  rcases(B b L).1 with z|z
  ·exact j z
  ·exact absurd (Pu (Po e) z) (Ql _)
 have y:∀x c,X.env.cells.lookup x=some c->∀v,s.heap.IsCell c v->h'.IsCell c v:=λx c e v ⟨o,ho,hd⟩=>by
  have F:=λz=>(B c z).2.2.1 x c e rfl;by_cases R:c∈X.fs
  ·obtain⟨sl,q⟩:=slot c o (I.cne x c e) R F ho (I.freeC x c e);exact{_,q,hd}
  ·exact{o,keep c o (I.cne x c e) R F ho (I.freeC x c e),hd}
 refine{I.ok,I.os,Y,{λb o e n L j=>?_,λb o e n L j=>?_,λb o e n j=>?_,λb o e j=>?_,λb xs e=>tups b xs (I.base.tups b xs e),λb o xs e=>frzs b o xs (I.base.frzs b o xs e),λb ps e=>?_},?_,λx c e=>?_,?_,λx c e=>?_,λp S=>?_,hok,I.len}
 ·exact keep b o (M b o e) L (J b o e j) (I.base.keep b o e n L j) (I.base.free b o e n j)
 ·obtain⟨sl,e1⟩:=I.base.slot b o e n L j;obtain⟨O,e2⟩:=slot b _ (M b o e) L (J b o e j) e1 (I.base.free b o e n j);exact⟨O,e2⟩
 ·obtain⟨o',e1⟩:=I.base.there b o e j;exact free b o' (J b o e j) e1 (I.base.free b o e n j)
 ·obtain⟨o',e1⟩:=I.base.there b o e j;exact there b o' (J b o e j) e1
 ·obtain⟨m1,e1⟩:=I.base.tbls b ps e;obtain⟨m2,e2⟩:=tbls b _ e1;exact{m1++m2,by rw[e2,Array.append_assoc]}
 ·obtain⟨m,hn,hl⟩:=I.loc;refine{m,ns m hn,λi x v e1 e2 W=>?_};obtain⟨u,r,l⟩:=hl i x v e1 e2 W;refine{u,r,?_};rcases l with l|⟨k,c,e,z⟩
  ·exact .inl l
  ·exact .inr {k,c,e,y x c e _ z}
 ·obtain⟨v,z⟩:=I.cell x c e;exact{v,y x c e v z}
 ·obtain⟨m,⟨o,_,_,ho,_⟩,_⟩:=I.loc;exact free _ o (λz=>(B _ z).2.1 rfl) ho I.free
 ·obtain⟨v,o,ho,hd⟩:=I.cell x c e;exact free c o (λz=>(B c z).2.2.1 x c e rfl) ho (I.freeC x c e)
 ·obtain⟨e,n,ne,U,d⟩:=I.pin p S;have F:=λz=>(B p.1 z).2.2.2 p S rfl;exact{keep p.1 p.2 ne U F e n,free p.1 p.2 F e n,ne,U,d}
def Inv.un {t':Nat}(I:Inv X pins σ H s)(u:Un X.fs [] H H' s.heap h')(hok:dH X.prog X.w H' h'):Inv X pins σ H' {s with heap:=h',toks:=t'}:=by
 obtain⟨m,⟨o,es,M,ho,r⟩,_⟩:=id I.loc;obtain⟨sl,J⟩:=u.any ho I.free `s
 exact I.step (ch:=[]) (λ_ z=>nomatch z) (λb o _ F _ e n=>u.keep b o e n F `s) (λb o _ F _ e n=>u.slot b o e n F `s) (λb o _ e n=>u.free b o e n `s) (λb o _ e=>u.there b o e `s) u.tups u.frzs u.tbls (λO hm=>by
  obtain⟨o',B,y,j,L⟩:=hm;rw[ho] at j;cases j;exact{_,B,y,J,L}) hok I.bare
def Inv.call {M:Drawn}{ch:List Addr}(I:Inv X pins σ H s)(u:Un (fu X.stack) ch H H' s.heap h')(hok:dH X.prog X.w H' h')(R:AllBare g')
 (y:∀b∈ch,(b∈X.ex\/X.s₀.heap.objs.size<=b)/\b≠X.env.locals/\(∀x c,X.env.cells.lookup x=some c->c≠b)/\∀p∈X.pn++pins,p.1≠b) :
 Inv X pins σ H' {s with heap:=h',gens:=g',drawn:=M,toks:=t'}:=by
 obtain⟨m,⟨o,es,U,ho,r⟩,_⟩:=id I.loc;obtain⟨sl,L⟩:=u.any ho I.free λz=>(y _ z).2.1 rfl;exact I.step y (λb o L O j e n=>u.keep b o e n (λz=>(Pr.mp (I.stkSub b z)).elim L O) j) (λb o _ _ j e n=>u.any e n j) (λb o j e n=>u.free b o e n j) (λb o j e=>u.there b o e j) u.tups u.frzs u.tbls (λW hm=>by
  obtain⟨o',J,F,B,S⟩:=hm;rw[ho] at B;cases B;exact{_,J,F,L,S}) hok R
def Inv.turned {j:Addr}(I:Inv X pins σ H s)(k:∀b o,b≠j->s.heap.get? b=some o->h'.get? b=some o)(hn:H j=none)(F:j≠X.env.locals)
 (h1:j∈X.ex\/X.s₀.heap.objs.size<=j) (h2:∀x c,X.env.cells.lookup x=some c->c≠j) (h3:∀p∈X.pn++pins,p.1≠j):Inv X pins σ H {s with heap:=h',toks:=t'}:=by
 have B:∀b u,H b=some u->b≠j:=λb u e z=>by rw[z,hn] at e;cases e
 refine I.step (ch:=[j]) (λb L=>?_) (λb o _ _ y e _=>k b o (λz=>y (by simp[z])) e) (λb o _ _ y e _=>{o.slots,k b o (λz=>y (by simp[z])) e}) (λ_ _ _ _ n=>n)
  (λb o y e=>{o,k b o (λz=>y (by simp[z])) e}) (λ_ _ e=>e) (λ_ _ _ e=>e) (λb ps e=>{#[],by rw[e];simp}) (λm hm=>?_) (λb u e=>?_) I.bare
 ·have e:b=j:=by simpa using L
  subst e;exact⟨h1,F,h2,h3⟩
 ·obtain⟨o,es,J,ho,r⟩:=hm;exact{o,es,J,k _ o (Qi F) ho,r}
 ·refine(I.hok b u e).stay (λc v y q=>k c v ?_ q) (λ_ q=>q) λ_ _ q=>q;rcases y with z|z
  ·rw[z];exact B b u e
  ·exact B c _ z
def Inv.tok (I:Inv X pins σ H s)(t:Nat):Inv X pins σ H {s with toks:=t}:=I.un Un.refl I.hok
def Inv.kept (I:Inv X pins σ H s)(k:∀b u,s.heap.get? b=some u->h'.get? b=some u):Inv X pins σ H {s with heap:=h',toks:=t'}:=I.un (Un.kept k) (I.hok.kept k)
def Inv.laid (I:Inv X pins σ H s)(k:∀b u,s.heap.get? b=some u->h'.get? b=some u)(j:s.heap.objs.size<=a)(new:dF X.prog X.w (upd H a o) h' a o) :
 Inv X pins σ (upd H a o) {s with heap:=h',toks:=t'}:=I.un (Un.laid k j (I.hok.fresh j)) (I.hok.laid k j new)
def Inv.write (I:Inv X pins σ H s)(mu:EG (H x))(he:e=x\/H e=some (.own x))(k:∀b u,b≠e->s.heap.get? b=some u->h'.get? b=some u)(j:∃u,h'.get? e=some u)
 (new:dF X.prog X.w (upd H x o) h' x o):Inv X pins σ (upd H x o) {s with heap:=h',toks:=t'}:=I.un (Un.write mu he k j) (I.hok.write mu he k j new)
def Inv.pins_of (I:Inv X pins σ H s)(h:∀p∈j,s.heap.get? p.1=some p.2/\H p.1=none/\p.1≠X.env.locals/\p.1∉X.fs/\∀v,p.2.data≠.cell v):Inv X j σ H s:=
 {I.ok,I.os,I.bare,I.base,I.loc,I.cell,I.free,I.freeC,λp y=>(PJ.mp y).elim (λz=>I.pin p (Qm _ z)) (h p),I.hok,I.len}
def mV {N:List Str}(y:N.Nodup){i j:Nat}(a:N[i]?=some x)(b:N[j]?=some x):i=j:=by
 obtain⟨h1,e1⟩:=O1.mp a;obtain⟨h2,e2⟩:=O1.mp b;exact(List.getElem_inj y).mp (e1.trans e2.symm)
def qt {M:Model}(I:Inv X pins σ H s)(hN:X.N.Nodup)(hi:X.N[i]?=some x)(J:Loc X.env.scope x)(r:RelV v u)
 (h:∀s',Inv X pins (σ.set i (some v)) H s'->(∃a,QX a s.heap s'.heap/\(a=X.env.locals\/X.env.cells.lookup x=some a))->Q () s') (hf:X.fn x=true\/X.env.scope.names.lookup x=some .local:=by first|exact .inl rfl|exact .inr rfl|assumption):wpAny M A (storeName X.env x u) Q E s:=by
 obtain⟨m,hn,hl⟩:=id I.loc;have hcls:(X.env.scope.kind==.class||(X.env.scope.kind==.module&&X.env.locals != X.env.globals))=false:=by rw[I.ok.kind];rfl
 have O:i<σ.length:=by rw[I.len];exact(O1.mp hi).1
 have cne:=I.cne;have B:∀{a:Addr}{h':Heap},(∃o,s.heap.get? a=some o/\H a=none)->QX a s.heap h'->dH X.prog X.w H h':=λ{a h'} ha hs b ob e=>by
  obtain⟨_,_,L⟩:=ha;refine(I.hok b ob e).stay (λc w' F q=>(hs.2 c ?_).trans q) (λ_ q=>q) λ_ _ q=>q;rintro rfl;rcases F with rfl|F
  ·rw[L] at e;cases e
  ·rw[L] at F;cases F
 rcases J with hk|hk
 ·refine wpAny_storeName_local hk hn (λh' hn' hs=>?_) hcls;obtain⟨oL,_,_,hoL,_⟩:=id hn;refine h _ {I.ok,I.os,I.bare,{λb o e n R J=>?_,λb o e n R J=>?_,I.base.free,λb o e J=>?_,I.base.tups,I.base.frzs,I.base.tbls},{_,hn',λj y v' e1 e2 e3=>?_},λy c e=>?_,I.free,I.freeC,λp hp=>?_,B ⟨oL,hoL,I.free⟩ hs,by simpa using I.len} {_,hs,.inl rfl}
  ·exact(hs.2 b (PH (Pu (Po e) I.ok.above))).trans (I.base.keep b o e n R J)
  ·obtain⟨sl,e1⟩:=I.base.slot b o e n R J;exact{sl,(hs.2 b (PH (Pu (Po e) I.ok.above))).trans e1}
  ·obtain⟨o',e1⟩:=I.base.there b o e J;exact{o',(hs.2 b (PH (Pu (Po e) I.ok.above))).trans e1}
  ·by_cases U:j=i
   ·subst U;rw[hi] at e1;cases e1;rw[PK O] at e2;cases e2;exact{u,r,.inl {hk,`s}}
   ·rw[Pc (Qi U)] at e2;obtain⟨u',r',q⟩:=hl j y v' e1 e2 e3;refine{u',r',?_};rcases q with⟨k,e⟩|⟨k,c,e,z⟩
    ·refine .inl {k,?_};have:y≠x:=λe=>U (mV hN e1 (e ▸ hi));simp[this,e]
    ·exact .inr {k,c,e,z.sameBut hs (cne y c e)}
  ·obtain⟨w',z⟩:=I.cell y c e;exact{w',z.sameBut hs (cne y c e)}
  ·obtain⟨e,n,ne,nf,d⟩:=I.pin p hp;exact{(hs.2 p.1 ne).trans e,n,ne,nf,d}
 ·have S:X.fn x=true:=by
   rcases hf with z|z
   ·exact z
   ·rw[z] at hk;cases hk
  obtain⟨c,F⟩:=I.ok.has x (.inl hk);obtain⟨w',z⟩:=I.cell x c F;refine wpAny_storeName_cell I.ok.kind hk F z (λh' W hs=>?_);obtain⟨oc,hoc,hocd⟩:=id z;refine h {s with heap:=h'} {I.ok,I.os,I.bare,{λb o e n R J=>?_,λb o e n R J=>?_,I.base.free,λb o e J=>?_,I.base.tups,I.base.frzs,I.base.tbls},{m,hn.sameBut hs (Qi (cne x c F)),λj y v' e1 e2 e3=>?_},λy c' e=>?_,I.free,I.freeC,λp hp=>?_,B {oc,hoc,I.freeC x c F} hs,by simpa using I.len} {c,hs,.inr F}
  ·exact(hs.2 b (PH (Pu (Po e) (I.ok.cab x c S F)))).trans (I.base.keep b o e n R J)
  ·obtain⟨sl,e1⟩:=I.base.slot b o e n R J;exact{sl,(hs.2 b (PH (Pu (Po e) (I.ok.cab x c S F)))).trans e1}
  ·obtain⟨o',e1⟩:=I.base.there b o e J;exact{o',(hs.2 b (PH (Pu (Po e) (I.ok.cab x c S F)))).trans e1}
  ·by_cases U:j=i
   ·subst U;rw[hi] at e1;cases e1;rw[PK O] at e2;cases e2;exact{u,r,.inr {.inl hk,c,F,W}}
   ·rw[Pc (Qi U)] at e2;obtain⟨u',r',q⟩:=hl j y v' e1 e2 e3;refine{u',r',?_};rcases q with q|⟨k,c',e,z'⟩
    ·exact .inl q
    ·refine .inr {k,c',e,z'.sameBut hs ?_};rintro rfl;exact U (mV hN e1 (I.ok.inj _ _ _ e F ▸ hi))
  ·by_cases Y:c'=c
   ·subst Y;exact{_,W}
   ·obtain⟨w2,z2⟩:=I.cell y c' e;exact{w2,z2.sameBut hs Y}
  ·obtain⟨e,n,ne,nf,d⟩:=I.pin p hp;refine{(hs.2 p.1 ?_).trans e,n,ne,nf,d};intro q;rw[q,hoc] at e;have q':=Ph e;exact d w' (by rw[<- q'];exact hocd)
def sj (I:Inv X pins σ H s)(y:X.N.Nodup)(hi:X.N[i]?=some x)(B:Loc X.env.scope x)(r:RelV v u)
 (h:∀s',Inv X pins (σ.set i (some v)) H s'->Q () s') (hf:X.fn x=true\/X.env.scope.names.lookup x=some .local:=by first|exact .inl rfl|exact .inr rfl|assumption):wpAny M A (storeName X.env x u) Q E s:=
 qt I y hi B r (λs' j _=>h s' j) hf
def Inv.call' (I:Inv X pins σ H s)(ho:s'.os=s.os)(u:Un (fu X.stack) ch H H' s.heap s'.heap)(hok:dH X.prog X.w H' s'.heap)(y:AllBare s'.gens)
 (j:∀b∈ch,(b∈X.ex\/X.s₀.heap.objs.size<=b)/\b≠X.env.locals/\(∀x c,X.env.cells.lookup x=some c->c≠b)/\∀p∈X.pn++pins,p.1≠b):Inv X pins σ H' s':=by
 obtain⟨h',F,B,J,o'⟩:=s';have e:=ho;subst e;exact I.call u hok y j
end
abbrev XK:=O3->Option Addr->Hp->Prop
abbrev St:=List (Option V)
abbrev VK:=V->Hp->Prop
abbrev TE:=St->Hp->VK->Prop
abbrev TT:=St->Hp->(Bool->Hp->Prop)->Prop
abbrev TA:=St->Hp->(List V->Hp->Prop)->Prop
structure Ends where
 nx:St->Hp->Prop
 rt:VK
 bk:St->Hp->Prop:=λ_ _=>False
 ct:St->Hp->Prop:=λ_ _=>False
abbrev TS:=Ends->St->Hp->Prop
def EP (X:Cx)(pins:List (Addr×Obj))(σ:St)(Q:VK)(u:O3)(s':O8):Prop:=∃v H',Inv X pins σ H' s'/\RelV v u/\Q v H'
def TP (X:Cx)(pins:List (Addr×Obj))(σ:St)(Q:Bool->Hp->Prop)(b:Bool)(s':O8):Prop:=∃H',Inv X pins σ H' s'/\Q b H'
def AP (X:Cx)(pins:List (Addr×Obj))(σ:St)(Q:List V->Hp->Prop)(us:List O3)(s':O8):Prop:=∃j H',Inv X pins σ H' s'/\Vals j us/\Q j H'
def SP (X:Cx)(pins:List (Addr×Obj))(D:Ends)(f:Flow)(s':O8):Prop:=
 match f with
 |.next=>∃j H',Inv X pins j H' s'/\D.nx j H'
 |.brk=>∃j H',Inv X pins j H' s'/\D.bk j H'
 |.cont=>∃j H',Inv X pins j H' s'/\D.ct j H'
 |.ret u=>∃v j H',Inv X pins j H' s'/\RelV v u/\D.rt v H'
def PE (X:Cx)(e:Expr)(t:TE):Prop:=
 ∀(pins:List (Addr×Obj)) (s:O8) (σ:St) (H:Hp) (Q:VK),Inv X pins σ H s->t σ H Q->wpAny (model X.prog X.w) X.A (eval e X.env) (EP X pins σ Q) X.xe s
def PT (X:Cx)(e:Expr)(t:TT):Prop:=
 ∀(pins:List (Addr×Obj)) (s:O8) (σ:St) (H:Hp) (Q:Bool->Hp->Prop),Inv X pins σ H s->t σ H Q->wpAny (model X.prog X.w) X.A (isTrue e X.env (eval e X.env)) (TP X pins σ Q) X.xe s
def PW (X:Cx)(e:Expr)(t:TT):Prop:=
 ∀(whole:Sem O3) (pins:List (Addr×Obj)) (s:O8) (σ:St) (H:Hp) (Q:Bool->Hp->Prop),Inv X pins σ H s->t σ H Q->wpAny (model X.prog X.w) X.A (isTrue e X.env whole) (TP X pins σ Q) X.xe s
def PW.pt (h:PW X e t):PT X e t:=h _
def PA (X:Cx)(es:List Expr)(t:TA):Prop:=
 ∀(pos:Pos) (pins:List (Addr×Obj)) (s:O8) (σ:St) (H:Hp) (Q:List V->Hp->Prop),Inv X pins σ H s->t σ H Q->wpAny (model X.prog X.w) X.A (spliced (backTo pos (starEach es X.env))) (AP X pins σ Q) X.xe s
def PS (X:Cx)(st:Stmt)(t:TS):Prop:=
 ∀(pins:List (Addr×Obj)) (s:O8) (σ:St) (H:Hp) (D:Ends),Inv X pins σ H s->t D σ H->wpAny (model X.prog X.w) X.A (exec st X.env) (SP X pins D) X.xe s
def j5 (X:Cx)(st:List Stmt)(t:TS):Prop:=
 ∀(pins:List (Addr×Obj)) (s:O8) (σ:St) (H:Hp) (D:Ends),Inv X pins σ H s->t D σ H->wpAny (model X.prog X.w) X.A (execs st X.env) (SP X pins D) X.xe s
def aQ {j:Type}{t:Sem j}{Q Q':j->O8->Prop}{M:Model}{A:QE}{E:O3->O8->Prop}{s:O8}(h:wpAny M A t Q E s)(y:∀a s,Q a s->Q' a s):wpAny M A t Q' E s:=wpAny_mono h y λ_ _ x=>x
section
variable{X:Cx}
def Bg (i:Nat):TE:=λσ H Q=>∃v,σ[i]?=some (some v)/\Q v H
def tC (v:V):TE:=λ_ H Q=>Q v H
def nQ (J:X.N[i]?=some x)(L:uA X.env.scope x)(hd:(x==("__debug__":Str))=false:=by decide)(B:(x==("__classdict__":Str))=false:=by decide):PE X (.Name x pos) (Bg i):=by
 intro pins s σ H Q I h;obtain⟨v,e,h⟩:=h;obtain⟨m,hn,hl⟩:=I.loc;obtain⟨u,r,l⟩:=hl i x v J e L;have y:EP X pins σ Q u s:=⟨v,H,I,r,h⟩;rcases l with⟨hk,hm⟩|⟨hk,c,F,j⟩
 ·exact wpAny_Name (wpAny_loadName_local I.ok.kind hk hn hm y) hd
 ·rcases hk with hk|hk
  ·exact wpAny_Name (wpAny_loadName_cell I.ok.kind hk F j y) hd
  ·exact wpAny_Name (wpAny_loadName_free I.ok.kind hk F j y B) hd
def zb {i j pos}:PE X (.Constant (.int i) j pos) (tC (.int i)):=λ_ _ _ H _ I h=>wpAny_Constant_int {.int i,H,I.tok _,{_,rfl},h}
def wI {b j pos}:PE X (.Constant (.bool b) j pos) (tC (.bl b)):=λ_ _ _ H _ I h=>Constant_bool {.bl b,H,I,rfl,h}
def IY {j pos}:PE X (.Constant .none j pos) (tC .non):=λ_ _ _ H _ I h=>Constant_none {.non,H,I,rfl,h}
def IU {x j pos}:PE X (.Constant (.str x) j pos) (tC (.str x)):=λ_ _ _ H _ I h=>Calls.Constant_str {.str x,H,I.tok _,{_,rfl},h}
def Gl (X:Cx)(x:Str):Prop:=X.env.kindOf x=some .globalImplicit
def fQ (I:Inv X pins σ H s)(j:Gl X x)(hm:X.mg x=some u)(h:Q u s)
 (hd:(x==("__debug__":Str))=false:=by decide):wpAny (model X.prog X.w) X.A (eval (.Name x pos) X.env) Q E s:=
 Calls.Name_function_global I.ok.kind j (Calls.loadGlobal_global (by rw[I.ok.glob];exact I.mod.glob.keeps I.bk) hm h) hd
def iT (I:Inv X pins σ H s)(j:Gl X x)(hm:X.mg x=none)(y:bootBuiltins x=some u)(h:Q u s)
 (hn:x≠"__name__":=by decide) (hd:(x==("__debug__":Str))=false:=by decide):wpAny (model X.prog X.w) X.A (eval (.Name x pos) X.env) Q E s:=by
 obtain⟨B,h1,h2⟩:=I.mod.blt;exact Calls.Name_function_global I.ok.kind j (Calls.loadGlobal_builtin (by rw[I.ok.glob];exact I.mod.glob.keeps I.bk) hm (by rw[I.ok.blt];exact h1.keeps I.bk) ((h2 x hn).trans y) h) hd
def eU (j:Gl X x)(hm:X.mg x=some u)(r:RelV v u)(hd:(x==("__debug__":Str))=false:=by decide):PE X (.Name x pos) (tC v):=
 λ_ _ _ H _ I h=>fQ I j hm ⟨v,H,I,r,h⟩ hd
def ve (j:Gl X x)(hm:X.mg x=none)(y:bootBuiltins x=some u)(r:RelV v u)(hn:x≠"__name__":=by decide)(hd:(x==("__debug__":Str))=false:=by decide):PE X (.Name x pos) (tC v):=
 λ_ _ _ H _ I h=>iT I j hm y ⟨v,H,I,r,h⟩ hn hd
variable{a b:Expr}{ta tb:TE}{pos:Pos}
variable{tA tB':TT}{rest:List Expr}
def dM (t u:TT):TT:=λσ H Q=>t σ H λc H1=>if c=true then u σ H1 Q else Q false H1
def cT (t u:TT):TT:=λσ H Q=>t σ H λc H1=>if c=true then Q true H1 else u σ H1 Q
def bG (t:TT):TT:=λσ H Q=>t σ H λc H1=>Q (!c) H1
def FL (j:PT X a tA):PW X (.BoolOp .And [a] pos) tA:=by
 intro y pins s σ H Q I h;refine isTrue_and (aQ (j pins s σ H Q I h) λc s1 e=>?_);cases c with
 |true=>exact isTrue_and_nil e
 |false=>exact e
def IK (j:PT X a tA):PW X (.BoolOp .Or [a] pos) tA:=by
 intro y pins s σ H Q I h;refine isTrue_or (aQ (j pins s σ H Q I h) λc s1 e=>?_);cases c with
 |false=>exact isTrue_or_nil e
 |true=>exact e
def IL (B:PT X a tA)(F:PW X (.BoolOp .And (b::rest) pos) tB'):PW X (.BoolOp .And (a::b::rest) pos) (dM tA tB'):=by
 intro J pins s σ H Q I h;refine isTrue_and (aQ (B pins s σ H _ I h) λc s1 ⟨H1,j,y⟩=>?_);cases c with
 |true=>exact F J pins s1 σ H1 Q j y
 |false=>exact⟨H1,j,y⟩
def LC (B:PT X a tA)(F:PW X (.BoolOp .Or (b::rest) pos) tB'):PW X (.BoolOp .Or (a::b::rest) pos) (cT tA tB'):=by
 intro J pins s σ H Q I h;refine isTrue_or (aQ (B pins s σ H _ I h) λc s1 ⟨H1,j,y⟩=>?_);cases c with
 |true=>exact⟨H1,j,y⟩
 |false=>exact F J pins s1 σ H1 Q j y
def IP (j:PT X a tA):PT X (.UnaryOp .Not a pos) (bG tA):=by
 intro pins s σ H Q I h;exact isTrue_not (j pins s σ H (λc H1=>Q (!c) H1) I h)
def Lp (ta tb:TE):TE:=λσ H Q=>ta σ H λx H1=>∃c,x=.bl c/\if c=true then tb σ H1 Q else Q (.bl false) H1
def NO (ta tb:TE):TE:=λσ H Q=>ta σ H λx H1=>∃c,x=.bl c/\if c=true then Q (.bl true) H1 else tb σ H1 Q
def Lm (ta:TE):TE:=λσ H Q=>ta σ H λx H1=>∃c,x=.bl c/\Q (.bl (!c)) H1
def IW {op}(h:PE X a t):PE X (.BoolOp op [a] pos) t:=λpins s σ H Q I j=>BoolOp_one (h pins s σ H Q I j)
def I9 (B:PE X a ta)(F:PE X (.BoolOp .And (b::rest) pos) tb):PE X (.BoolOp .And (a::b::rest) pos) (Lp ta tb):=by
 intro pins s σ H Q I h;refine BoolOp_and (aQ (B pins s σ H _ I h) λv s1 ⟨x,H1,y,r1,j⟩=>?_);obtain⟨c,rfl,j⟩:=j;cases r1;refine tqp ?_;cases c with
 |true=>exact F pins s1 σ H1 Q y j
 |false=>exact{.bl false,H1,y,rfl,j}
def LG (B:PE X a ta)(F:PE X (.BoolOp .Or (b::rest) pos) tb):PE X (.BoolOp .Or (a::b::rest) pos) (NO ta tb):=by
 intro pins s σ H Q I h;refine BoolOp_or (aQ (B pins s σ H _ I h) λv s1 ⟨x,H1,y,r1,j⟩=>?_);obtain⟨c,rfl,j⟩:=j;cases r1;refine tqp ?_;cases c with
 |false=>exact F pins s1 σ H1 Q y j
 |true=>exact{.bl true,H1,y,rfl,j}
def IX (B:PE X a ta):PE X (.UnaryOp .Not a pos) (Lm ta):=by
 intro pins s σ H Q I h;refine UnaryOp_ (aQ (B pins s σ H _ I h) λv s1 ⟨x,H1,y,r1,j⟩=>?_);obtain⟨c,rfl,j⟩:=j;cases r1;exact not_of (tqp {.bl (!c),H1,y,rfl,j})
def tIf (t:TT)(ta tb:TE):TE:=λσ H Q=>t σ H λc H1=>if c=true then ta σ H1 Q else tb σ H1 Q
def sJ (J:PT X c tA)(B:PE X a ta)(F:PE X b tb):PE X (.IfExp c a b pos) (tIf tA ta tb):=by
 intro pins s σ H Q I h;refine wpAny_IfExp (aQ (J pins s σ H _ I h) λd s1 ⟨H1,j,y⟩=>?_);cases d with
 |true=>exact B pins s1 σ H1 Q j y
 |false=>exact F pins s1 σ H1 Q j y
end
def cz (K:O0)(H:Hp)(a:Addr)(xs:List V):Prop:=
 Rd H a (.lst xs)\/
  ∃(o:Obj) (j:Array O3) (n:Nat),K.lookup a=some o/\o.cls=.type "list"/\o.dict=none/\o.data=.seq j n/\j.size<=sizeLine/\Vals xs j.toList
def c8 (K:O0)(H:Hp)(a:Addr)(xs:List V):Prop:=
 Rd H a (.tup xs)\/
  ∃(o:Obj) (j:Array O3) (n:Nat),K.lookup a=some o/\o.cls=.type "tuple"/\o.data=.seq j n/\j.size<=sizeLine/\Vals xs j.toList
noncomputable def OM:O3->Option V
 |.none=>some .non
 |.bool b=>some (.bl b)
 |.int i _=>some (.int i)
 |.str x _=>some (.str x)
 |.bytes b _=>some (.byt b)
 |.float b _=>some (.flt b)
 |.ref a=>some (.ref a)
 |.type n=>some (.ty n)
 |_=>none
def RelV.abs (r:RelV x u):OM u=some x:=by
 cases x with
 |non=>cases r;rfl
 |bl _=>cases r;rfl
 |int _=>obtain⟨t,rfl⟩:=r;rfl
 |str _=>obtain⟨t,rfl⟩:=r;rfl
 |byt _=>obtain⟨t,rfl⟩:=r;rfl
 |flt _=>obtain⟨t,rfl⟩:=r;rfl
 |ref _=>cases r;rfl
 |ty _=>cases r;rfl
def RelV.inj (r:RelV x u)(q:RelV y u):x=y:=Ph (r.abs.symm.trans q.abs)
noncomputable def Vals.inj:∀{xs ys:List V}{us:List O3},Vals xs us->Vals ys us->xs=ys
 |_,_,_,.nil,.nil=>rfl
 |_,_,_,.cons r t,.cons j y=>by rw[r.inj j,Vals.inj t y]
section
variable{X:Cx}{pins:List (Addr×Obj)}{σ:St}{H:Hp}{s:O8}{a:Addr}{xs ys:List V}
def cz.of {K:O0}(h:H a=some (.lst xs)):cz K H a xs:=.inl (.inl h)
def c8.of {K:O0}(h:H a=some (.tup xs)):c8 K H a xs:=.inl (.inl h)
def Inv.list (I:Inv X pins σ H s)(h:cz X.K H a xs):∃j:List O3,Vals xs j/\PlainL s.heap a j.toArray/\xs.length<=sizeLine:=by
 rcases h with h|⟨o,j,n,hk,y,hd,hs,B,r⟩
 ·obtain⟨z,j,n,r,e⟩:=h.ok I.hok;exact{j,r,{_,n,e,rfl,rfl,rfl},z}
 ·refine{j.toList,r,{o,n,I.kIn a o hk,y,hd,by simpa using hs},?_}
  have e:=r.length;simp only[Array.length_toList] at e;omega
def Inv.tuple (I:Inv X pins σ H s)(h:c8 X.K H a xs):∃j:List O3,Vals xs j/\IsTup s.heap a j.toArray/\xs.length<=sizeLine:=by
 rcases h with h|⟨o,j,n,hk,y,hs,B,r⟩
 ·obtain⟨z,j,r,p⟩:=h.ok I.hok;exact⟨j,r,p,z⟩
 ·refine{j.toList,r,{o,I.kIn a o hk,y,n,by simpa using hs},?_}
  have e:=r.length;simp only[Array.length_toList] at e;omega
def Inv.list_inj (I:Inv X pins σ H s)(h:cz X.K H a xs)(h':cz X.K H a ys):xs=ys:=by
 obtain⟨y,r,⟨o,n,e,_,_,d⟩,_⟩:=I.list h;obtain⟨j,J,⟨o',L,F,_,_,B⟩,_⟩:=I.list h';rw[e] at F;cases F;rw[d] at B;injection B with d1 _
 have:y=j:=by simpa using congrArg Array.toList d1
 subst this;exact r.inj J
def Inv.tuple_inj (I:Inv X pins σ H s)(h:c8 X.K H a xs)(h':c8 X.K H a ys):xs=ys:=by
 obtain⟨y,r,⟨o,e,_,n,d⟩,_⟩:=I.tuple h;obtain⟨j,J,⟨o',F,_,L,B⟩,_⟩:=I.tuple h';rw[e] at F;cases F;rw[d] at B;injection B with d1 _
 have:y=j:=by simpa using congrArg Array.toList d1
 subst this;exact r.inj J
end
section
variable{X:Cx}{st:Stmt}{rest:List Stmt}{t u:TS}{e:Expr}{te:TE}{pos:Pos}
def Dq:TS:=λD σ H=>D.nx σ H
def NM (t u:TS):TS:=λD σ H=>t {D with nx:=u D} σ H
def va:j5 X [] Dq:=λ_ _ σ H _ I h=>wpAny_execs_nil ⟨σ,H,I,h⟩
def mQ (h1:PS X st t)(h2:j5 X rest u):j5 X (st::rest) (NM t u):=by
 intro pins s σ H D I h;refine wpAny_execs_cons (aQ (h1 pins s σ H {D with nx:=u D} I h) λf s1 q=>?_)
 cases f with
 | next=>
   obtain⟨j,H',y,q⟩:=q;exact h2 pins s1 j H' D y q
 |ret v=>exact q
 |brk=>exact q
 |cont=>exact q
def FQ:PS X (.Pass pos) Dq:=λ_ _ σ H _ I h=>wpAny_Pass ⟨σ,H,I,h⟩
def Inv.quiet (I:Inv X pins σ H s):interactive X.env=false:=by simp[interactive,I.ok.kind]
def Ln (te:TE):TS:=λD σ H=>te σ H λ_ H1=>D.nx σ H1
def jK (he:PE X e te)(hs:swapsWith e none pos.line X.env=pure false:=by rfl):PS X (.Expr e pos) (Ln te):=by
 intro pins s σ H D I h;exact wpAny_Expr_any (aQ (he pins s σ H _ I h) (by rintro v s1 ⟨x,H1,j,r1,y⟩;exact⟨σ,H1,j,y⟩)) I.quiet hs
def NN (te:TE):TS:=λD σ H=>te σ H D.rt
def yX (he:PE X e te):PS X (.Return (some e) pos) (NN te):=by
 intro pins s σ H D I h;exact wpAny_Return_some (aQ (he pins s σ H _ I h) (by rintro v s1 ⟨x,H1,j,r1,y⟩;exact⟨x,σ,H1,j,r1,y⟩))
def Lk:TS:=λD _ H=>D.rt .non H
def FP:PS X (.Return none pos) Lk:=λ_ _ σ H _ I h=>wpAny_Return_none {.non,σ,H,I,rfl,h}
def NS (c:TT)(t u:TS):TS:=λD σ H=>c σ H λb H1=>if b=true then t D σ H1 else u D σ H1
def LF (J:PT X c tc)(B:j5 X a t)(F:j5 X b u):PS X (.If c a b pos) (NS tc t u):=by
 intro pins s σ H D I h;refine wpAny_If (aQ (J pins s σ H _ I h) λd s1 ⟨H1,j,y⟩=>?_);cases d with
 |true=>exact B pins s1 σ H1 D j y
 |false=>exact F pins s1 σ H1 D j y
end
abbrev TG:=V->St->Hp->(St->Hp->Prop)->Prop
abbrev we:=List V->St->Hp->(St->Hp->Prop)->Prop
def PG (X:Cx)(j:Expr)(t:TG):Prop:=
 ∀(pins:List (Addr×Obj)) (s:O8) (σ:St) (H:Hp) (v:V) (u:O3) (Q:St->Hp->Prop),Inv X pins σ H s->RelV v u->t v σ H Q->
  wpAny (model X.prog X.w) X.A (assign j X.env u) (λ_ s'=>∃y H',Inv X pins y H' s'/\Q y H') X.xe s
def uD (X:Cx)(ts:List Expr)(t:we):Prop:=
 ∀(pins:List (Addr×Obj)) (s:O8) (σ:St) (H:Hp) (B:List V) (y:List O3) (Q:St->Hp->Prop),Inv X pins σ H s->Vals B y->t B σ H Q->
  wpAny (model X.prog X.w) X.A (assignInOrder ((assignEach ts X.env).map (·.2)) y) (λ_ s'=>∃j H',Inv X pins j H' s'/\Q j H') X.xe s
abbrev CU:=V->V->V->Hp->(Hp->Prop)->Prop
def CW (X:Cx)(t:CU):Prop:=
 ∀(pins:List (Addr×Obj)) (s:O8) (σ:St) (H:Hp) (o i v:V) (y j u:O3) (Q:Hp->Prop),Inv X pins σ H s->RelV o y->RelV i j->RelV v u->t o i v H Q->
  wpAny (model X.prog X.w) X.A (setItem y j u) (λ_ s'=>∃H',Inv X pins σ H' s'/\Q H') X.xe s
section
variable{X:Cx}{pos:Pos}
def L7 (i:Nat):TG:=λv σ H Q=>Q (σ.set i (some v)) H
def pz (y:X.N.Nodup)(hi:X.N[i]?=some x)(B:Loc X.env.scope x)(hf:X.fn x=true\/X.env.scope.names.lookup x=some .local:=by first|exact .inl rfl|exact .inr rfl|assumption):PG X (.Name x pos) (L7 i):=by
 intro pins s σ H v u Q I r h;exact wpAny_assign_Name (sj I y hi B r (λs' j=>{_,H,j,h}) hf)
noncomputable def ba:we:=λj σ H Q=>j=[]/\Q σ H
def aM (t:TG)(u:we):we:=λy σ H Q=>∃v r,y=v::r/\t v σ H λj H'=>u r j H' Q
def vc:uD X [] ba:=by
 intro pins s σ H y j Q I r h;obtain⟨e,h⟩:=h;subst e;cases r;exact assignInOrder_nil ⟨σ,H,I,h⟩
def mU (h1:PG X e t)(h2:uD X es u)
 (hs:(assignEach (e::es) X.env).map (·.2)=assign e X.env::(assignEach es X.env).map (·.2):=by rfl):uD X (e::es) (aM t u):=by
 intro pins s σ H L J Q I r h;obtain⟨v,vr,e1,h⟩:=h;subst e1;cases r with
 | cons r F=>
   rw[hs];refine assignInOrder_cons (aQ (h1 pins s σ H _ _ _ I r h) λ_ s1 ⟨j,H1,y,B⟩=>?_);exact h2 pins s1 j H1 _ _ Q y F B
def aU (K:O0)(n:Nat)(t:we):TG:=λv σ H Q=>∃a xs,v=.ref a/\c8 K H a xs/\xs.length=n/\t xs σ H Q
def sG (J:X.calm=true)(h:uD X es t)
 (hn:(assignEach es X.env).length=n:=by rfl) (j:(assignEach es X.env).findIdx? (·.1)=none:=by rfl):PG X (.Tuple es k pos) (aU X.K n t):=by
 intro pins s σ H v u Q I r y;obtain⟨a,xs,e1,L,hl,y⟩:=y;subst e1;cases r;obtain⟨R,B,M,S⟩:=I.tuple L;refine assign_Tuple_tuple (I.ok.hd J) M (by simp[hn,<- hl,B.length]) j λh' O=>?_
 have F:=I.kept (t':=s.toks) λb o e=>O b o (PH (Po e)) e;exact h pins _ σ H xs _ Q F (by simpa using B) y
def Ow (to y:TE)(t:CU):TG:=λv σ H Q=>to σ H λo H1=>y σ H1 λi H2=>t o i v H2 λj=>Q σ j
def y3 (ho:PE X o to)(hi:PE X i ti)(hs:CW X t)
 (O:∀v,assign (.Subscript o i pos) X.env v=(do
  let j <- holding [v] (eval o X.env)
  let B <- holding [v,j] (eval i X.env)
  standAt pos
  holding [v,j,B] (setItem j B v)
  release [v,j,B] []):=by intro _;rfl):PG X (.Subscript o i pos) (Ow to ti t):=by
 intro pins s σ H v u Q I r h;rw[O];refine tqa (tqo (aQ (ho pins s σ H _ I h) λj s1 ⟨x,H1,J,r1,R⟩=>?_));refine tqa (tqo (aQ (hi pins s1 σ H1 _ J R) λB s2 ⟨y,H2,L,r2,S⟩=>?_));refine tqa (wpAny_standAt (tqa (tqo (aQ (hs pins s2 σ H2 x y v j B u _ L r1 r2 r S) λ_ W ⟨F,M,U⟩=>?_))));exact wpAny_release ⟨σ,F,M,U⟩
def NU (te:TE)(g:TG):TS:=λD σ H=>te σ H λx H1=>g x σ H1 D.nx
def nO (he:PE X e te)(y:PG X tg g)(hs:swapsWithSole [tg] e pos.line X.env=pure false:=by rfl)(B:swappedStores [tg] e X.env=pure none:=by rfl)
 (h1:(assignEach [tg] X.env).map (·.2)=[assign tg X.env]:=by rfl):PS X (.Assign [tg] e pos) (NU te g):=by
 intro pins s σ H D I h;refine wpAny_Assign_stores (aQ (he pins s σ H _ I h) λv s1 ⟨x,H1,j,r1,F⟩=>?_) hs B;rw[h1];exact aQ (y pins s1 σ H1 x v _ j r1 F) λ_ s2 q=>q
end
section
variable{X:Cx}{pos:Pos}
def HP (c:TT)(tb:TS):TS:=λD σ H=>∃W:Nat->St->Hp->Prop,(∃m,W m σ H)/\∀m σ H,W m σ H->
 c σ H λb H1=>if b=true then ∃N:St->Hp->Prop,(∀j H',N j H'->∃y,y<m/\W y j H')/\tb {D with nx:=N,ct:=N,bk:=D.nx} σ H1 else D.nx σ H1
def BI (hp:PassesOwn (model X.prog X.w) X.A X.env X.xe)(hc:PT X c tc)(hb:j5 X body tb):PS X (.While c body [] pos) (HP tc tb):=by
 intro pins s σ H D I h;obtain⟨W,⟨m0,w0⟩,turn⟩:=h;refine wpAny_While (codeAny_whileLoop (λn s'=>∃F H',Inv X pins F H' s'/\W n F H') ?_ m0 ⟨σ,H,I,w0⟩);rintro n s1 ⟨y,H1,I1,w1⟩;refine wpAny_passesOwn hp (aQ (hc pins s1 y H1 _ I1 (turn n y H1 w1)) λb s2 ⟨H2,U,J⟩=>?_);cases b with
 | true=>
   obtain⟨N,Y,J⟩:=J;rw[if_pos rfl];refine wpAny_passesOwn hp (aQ (hb pins s2 y H2 _ U J) λf s3 L=>?_);cases f with
   | next=>
     obtain⟨j,B,M,R⟩:=L;obtain⟨O,hm,S⟩:=Y j B R;exact⟨O,hm,j,B,M,S⟩
   | cont=>
     obtain⟨j,B,M,R⟩:=L;obtain⟨O,hm,S⟩:=Y j B R;exact⟨O,hm,j,B,M,S⟩
   |brk=>exact L
   |ret v=>exact L
 | false=>
   rw[if_neg PC];exact wpAny_execs_nil ⟨y,H2,U,J⟩
end
structure It where
 go:Nat->Hp->Prop
 yld:Nat->Hp->V->Hp->Prop
 stop:Nat->Hp->Prop
def ef (X:Cx)(pins:List (Addr×Obj))(H:Hp)(b:Addr):Prop:=
 H b=none/\b≠X.env.locals/\b∉X.fs/\(b∈X.ex\/X.s₀.heap.objs.size<=b)/\(∀x c,X.env.cells.lookup x=some c->c≠b)/\∀p∈X.pn++pins,p.1≠b
def Inv.fpOk (I:Inv X pins σ H s)(j:s.heap.objs.size<=b)(hn:H' b=none):ef X pins H' b:=by
 refine{hn,Qg (Pu I.lt j),I.nofs j,.inr (Pk I.sz j),λx c e z=>?_,λp y z=>?_}
 ·obtain⟨v,q⟩:=I.cell x c e;exact absurd (Pu q.lt (by rw[z];exact j)) (Ql _)
 ·exact absurd (Pu (Po (I.pin p y).1) (by rw[z];exact j)) (Ql _)
structure Turn (P:PU) (w:PM) (K:O0) (tg:Expr) (J:It) (fp:List Addr) (it:Addr) (tn:Nat->Heap->Prop):Prop where
 mem:it∈fp
 obj:∀i h,tn i h->∀b∈fp,∃o,h.get? b=some o/\∀v,o.data≠.cell v
 keep:∀i h h',tn i h->(∀b∈fp,∀o,h.get? b=some o->h'.get? b=some o)->tn i h'
 item:∀(X:Cx),X.prog=P->X.w=w->X.K=K->X.calm=true->∀(i:Nat) (pins:List (Addr×Obj)) (s:O8) (σ:St) (H:Hp) (E:O3->O8->Prop),Inv X pins σ H s->(∀b∈fp,ef X pins H b)->tn i s.heap->J.go i H->
  wpAny (model P w) X.A (pyNext (.ref it)) (λr s1=>∃u,r=some u/\
   wpAny (model P w) X.A (letOwnedTupleGo tg (.ref it) u) (λ_ s2=>∃x H',Inv X pins σ H' s2/\RelV x u/\J.yld i H x H'/\tn (i+1) s2.heap/\∀b∈fp,H' b=none) E s1) E s
 done:∀(X:Cx),X.prog=P->X.w=w->X.K=K->X.calm=true->∀(i:Nat) (pins:List (Addr×Obj)) (s:O8) (σ:St) (H:Hp) (E:O3->O8->Prop),Inv X pins σ H s->(∀b∈fp,ef X pins H b)->tn i s.heap->J.stop i H->
  wpAny (model P w) X.A (pyNext (.ref it)) (λr s1=>r=none/\Inv X pins σ H s1) E s
 self:∀(A:QE) (i:Nat) (s:O8) (Q:O3->O8->Prop) (E:O3->O8->Prop),tn i s.heap->Q (.ref it) s->wpAny (model P w) A (pyIter (.ref it)) Q E s
abbrev TI:=St->Hp->(It->Hp->Prop)->Prop
def KY (X:Cx)(pins:List (Addr×Obj))(σ:St)(tg:Expr)(R:It->Hp->Prop)(j:O3)(s2:O8):Prop:=
 ∃(B:Addr) (y:List Addr) (F:Nat->Heap->Prop) (J:It) (H':Hp),j=.ref B/\Inv X pins σ H' s2/\Turn X.prog X.w X.K tg J y B F/\F 0 s2.heap/\(∀b∈y,ef X pins H' b)/\R J H'
def PI (X:Cx)(tg j:Expr)(y:TI):Prop:=
 ∀(pins:List (Addr×Obj)) (s:O8) (σ:St) (H:Hp) (R:It->Hp->Prop),Inv X pins σ H s->y σ H R->
  wpAny (model X.prog X.w) X.A (eval j X.env) (λv s1=>wpAny (model X.prog X.w) X.A (pyIter v) (KY X pins σ tg R) X.xe s1) X.xe s
def rR (ho:s.heap.get? it=some o)(y:o.cls=.type n)(hd:o.data=.fields vs)
 (hn:["enumerate","zip","dict_itemiterator","dict_reverseitemiterator","odict_iterator","itertools.zip_longest","itertools.pairwise"].contains n=false) (j:Q () s):wpAny M A (letOwnedTupleGo tg (.ref it) u) Q E s:=by
 cases tg<;>first
  |exact tqb j
  |(cases u<;>first
   |exact tqb j
   | (refine tqa (wpAny_load ho ?_)
      rw[y,hd];show wpAny M A (if (["enumerate","zip","dict_itemiterator","dict_reverseitemiterator","odict_iterator","itertools.zip_longest","itertools.pairwise"].contains n&&vs[0]?==some (rawInt _))=true then _ else _) Q E s;rw[if_neg (by intro h;rw[hn,Bool.false_and] at h;cases h)]
      exact tqb j))
def K9 (K:O0)(a:Addr):It:=
 {λi H=>∃xs x,cz K H a xs/\xs[i]?=some x,λi H x H'=>H'=H/\∀xs,cz K H a xs->xs[i]?=some x,λi H=>∃xs,cz K H a xs/\xs.length<=i}
def K5 (K:O0)(a:Addr):It:=
 {λi H=>∃xs x,c8 K H a xs/\xs[i]?=some x,λi H x H'=>H'=H/\∀xs,c8 K H a xs->xs[i]?=some x,λi H=>∃xs,c8 K H a xs/\xs.length<=i}
def EH (lo:Int)(n:Nat):It:={λi _=>i<n,λi H x H'=>H'=H/\x=.int (lo+i),λi _=>n<=i}
def yu {K:O0}(a y:Addr):Turn P w K tg (K9 K a) [y] y (λi h=>h.IsListIter y a i) where
 mem:=`s
 obj:=λi h st b j=>by
  have e:b=y:=by simpa using j
  subst e;obtain⟨o,e,c,d⟩:=st;exact{o,e,λv z=>by rw[d] at z;cases z}
 keep:=λi h h' st k=>st.at λo e=>k y `s o e
 item:=by
  intro X S Y R hc i pins s σ H E I hf st U;subst S Y R;obtain⟨xs,x,F,hx⟩:=U;obtain⟨its,rv,p,hz⟩:=I.list F;obtain⟨u,hu,ru⟩:=rv.get hx;obtain⟨J,f1,f2,L,M,O⟩:=hf y `s
  refine wpAny_pyNext_list_item st p.isList (by simpa using hu) λh' B sb=>?_
  have I1:=I.turned (t':=s.toks) (λb o j e=>(sb.2 b j).trans e) J f1 L M O;obtain⟨o,e,c,d⟩:=id B;exact{u,rfl,rR e c d `d {x,H,I1,ru,{rfl,λys hy=>by rw[I.list_inj hy F];exact hx},B,λb j=>(hf b j).1}}
 done:=by
  intro X S Y R hc i pins s σ H E I hf st U;subst S Y R;obtain⟨xs,F,hx⟩:=U;obtain⟨its,rv,p,hz⟩:=I.list F;obtain⟨J,f1,f2,L,M,O⟩:=hf y `s
  have hl:=rv.length;exact wpAny_pyNext_list_end (I.ok.hd hc) st p.isList `o λh' eb=>{rfl,I.turned (λb o j e=>eb b o j e) J f1 L M O}
 self:=λ_ _ _ _ _ st h=>wpAny_pyIter_listiter st h
def wt {K:O0}(a y:Addr):Turn P w K tg (K5 K a) [y] y (λi h=>h.IsTupleIter y a i) where
 mem:=`s
 obj:=λi h st b j=>by
  have e:b=y:=by simpa using j
  subst e;obtain⟨o,e,c,d⟩:=st;exact{o,e,λv z=>by rw[d] at z;cases z}
 keep:=λi h h' st k=>st.at λo e=>k y `s o e
 item:=by
  intro X S Y R hc i pins s σ H E I hf st U;subst S Y R;obtain⟨xs,x,F,hx⟩:=U;obtain⟨its,rv,p,hz⟩:=I.tuple F;obtain⟨u,hu,ru⟩:=rv.get hx;obtain⟨J,f1,f2,L,M,O⟩:=hf y `s
  refine wpAny_pyNext_tuple_item st (p) (by simpa using hu) λh' B sb=>?_
  have I1:=I.turned (t':=s.toks) (λb o j e=>(sb.2 b j).trans e) J f1 L M O;obtain⟨o,e,c,d⟩:=id B;exact{u,rfl,rR e c d `d {x,H,I1,ru,{rfl,λys hy=>by rw[I.tuple_inj hy F];exact hx},B,λb j=>(hf b j).1}}
 done:=by
  intro X S Y R hc i pins s σ H E I hf st U;subst S Y R;obtain⟨xs,F,hx⟩:=U;obtain⟨its,rv,p,hz⟩:=I.tuple F;obtain⟨J,f1,f2,L,M,O⟩:=hf y `s
  have hl:=rv.length;exact wpAny_pyNext_tuple_end (I.ok.hd hc) st (p) `o λh' eb=>{rfl,I.turned (λb o j e=>eb b o j e) J f1 L M O}
 self:=λ_ _ _ _ _ st h=>wpAny_pyIter_tupleiter st h
def wu {K:O0}(j:Addr)(lo:Int)(n:Nat):Turn P w K tg (EH lo n) [j] j (λi h=>IsRangeIter h j (lo+(i:Nat)*1) ((n:Int)-(i:Nat)) 1) where
 mem:=`s
 obj:=λi h st b y=>by
  have e:b=j:=by simpa using y
  subst e;exact{_,st,λv z=>by
   have z':=z;cases z'}
 keep:=λi h h' st k=>k j `s _ st
 item:=by
  intro X R Y O S i pins s σ H E I hf st U;subst R Y O;obtain⟨F,f1,f2,J,L,M⟩:=hf j `s
  have W:=Walks.range (prog:=X.prog) (w:=X.w) (I.ok.hd S) j lo 1 n;refine W.item i s _ _ U st λv h' tk hv B kk=>?_;obtain⟨t,rfl⟩:=hv;have I1:Inv X pins σ H {s with heap:=h',toks:=tk}:=I.turned (λb o y e=>kk b o (by simpa using y) e) F f1 J L M
  refine{_,rfl,rR B rfl rfl `d {.int (lo+i),H,I1,{t,?_},⟨rfl,rfl⟩,B,λb y=>(hf b y).1}}
  rw[Int.mul_one]
 done:=by
  intro X R Y O S i pins s σ H E I hf st U;subst R Y O;obtain⟨F,f1,f2,J,L,M⟩:=hf j `s
  exact wpAny_pyNext_range_end (I.ok.hd S) st (by have:n<=i:=U;omega) λh' eb=>{rfl,I.turned (λb o y e=>eb b o y e) F f1 J L M}
 self:=λ_ _ _ _ _ st h=>wpAny_pyIter_rangeiter st h
section
variable{X:Cx}{tg:Expr}
def L6 (K:O0)(tl:TE):TI:=λσ H R=>tl σ H λx H1=>∃a,x=.ref a/\(∃xs,cz K H1 a xs)/\R (K9 K a) H1
def Ov (K:O0)(tl:TE):TI:=λσ H R=>tl σ H λx H1=>∃a,x=.ref a/\(∃xs,c8 K H1 a xs)/\R (K5 K a) H1
def FU (hl:PE X l tl):PI X tg l (L6 X.K tl):=by
 intro pins s σ H R I h;refine aQ (hl pins s σ H _ I h) ?_;rintro v s1 ⟨x,H1,j,r1,J⟩;obtain⟨a,e,⟨xs,B⟩,q⟩:=J;subst e;cases r1;obtain⟨F,M,p,L⟩:=j.list B;refine wpAny_pyIter_list p.isList ?_;refine{s1.heap.objs.size,[s1.heap.objs.size],_,_,H1,rfl,j.kept λb o e=>O5 _ e,yu a _,{_,PD _ rfl,rfl,rfl},λb y=>?_,q};have e:b=s1.heap.objs.size:=by simpa using y
 subst e;exact j.fpOk (O4 _) (j.hok.fresh (O4 _))
def IS (hl:PE X l tl):PI X tg l (Ov X.K tl):=by
 intro pins s σ H R I h;refine aQ (hl pins s σ H _ I h) ?_;rintro v s1 ⟨x,H1,j,r1,J⟩;obtain⟨a,e,⟨xs,B⟩,q⟩:=J;subst e;cases r1;obtain⟨F,M,p,L⟩:=j.tuple B;refine wpAny_pyIter_tuple (p) ?_;refine{s1.heap.objs.size,[s1.heap.objs.size],_,_,H1,rfl,j.kept λb o e=>O5 _ e,wt a _,{_,PD _ rfl,rfl,rfl},λb y=>?_,q};have e:b=s1.heap.objs.size:=by simpa using y
 subst e;exact j.fpOk (O4 _) (j.hok.fresh (O4 _))
def BF {lo hi:Int}(I:Inv X pins σ H s)(h1:-(2^62)<=lo)(h2:lo<2^62)(h3:-(2^62)<=hi)(h4:hi<2^62)
 (q:R (EH lo (hi-lo).toNat) H):wpAny (model X.prog X.w) X.A (pyIter (.ref s.heap.objs.size)) (KY X pins σ tg R) E {s with heap:=s.heap.push {cls:=.type "range",data:=.fields #[.int lo t,.int hi u,.int 1 v]},toks:=tk}:=by
 refine wpAny_pyIter_range (IsRange.new ..) (small_one h1 h2 h3 h4) ?_;have j:Inv X pins σ H {s with heap:=s.heap.push {cls:=.type "range",data:=.fields #[.int lo t,.int hi u,.int 1 v]},toks:=tk}:=I.kept λb o e=>O5 _ e
 refine{(s.heap.push {cls:=.type "range",data:=.fields #[.int lo t,.int hi u,.int 1 v]}).objs.size,[(s.heap.push {cls:=.type "range",data:=.fields #[.int lo t,.int hi u,.int 1 v]}).objs.size],_,_,H,rfl,
  j.kept λb o e=>O5 _ e,wu _ lo (hi-lo).toNat,?_,λb y=>?_,q}
 ·have e1:lo+((0:Nat):Int)*1=lo:=`s
  have e2:(((hi-lo).toNat:Nat):Int)-((0:Nat):Int)=Builtin.Range.rangeSize lo hi 1:=by rw[rangeSize_one];split<;>omega
  rw[e1,e2];exact PD _ rfl
 ·have e:b=(s.heap.push {cls:=.type "range",data:=.fields #[.int lo t,.int hi u,.int 1 v]}).objs.size:=by simpa using y
  subst e;exact j.fpOk (O4 _) (j.hok.fresh (O4 _))
def L5 (ta:TA):TI:=λσ H R=>ta σ H λy H1=>∃j:Int,y=[.int j]/\-(2^62)<=j/\j<2^62/\R (EH 0 j.toNat) H1
def y0 {ta:TA}{p pos:Pos}(J:Gl X "range")(hm:X.mg "range"=none)(F:PA X [a] ta)(hs:starEach [a] X.env=[(false,eval a X.env)]:=by rfl):PI X tg (.Call (.Name "range" p) [a] [] pos) (L5 ta):=by
 intro pins s σ H R I h;refine Call_ (iT I J hm boot_range (QR (aQ (F pos pins s σ H _ I h) λO s1 ⟨S,H1,B,r1,y⟩=>?_) hs rfl));obtain⟨j,e,y,L,q⟩:=y;subst e;cases r1 with
 | cons r M=>
   cases M;obtain⟨t,rfl⟩:=r;exact call_range_1 (BF B `a `a y L (by simpa using q))
def NT (wi:TI)(g:TG)(tb:TS):TS:=λD σ H=>wi σ H λJ H1=>∃W:Nat->Nat->St->Hp->Prop,(∃m,W 0 m σ H1)/\∀i m σ H,W i m σ H->
 (J.stop i H/\D.nx σ H)\/(J.go i H/\∃N:St->Hp->Prop,(∀σ' H',N σ' H'->∃m',m'<m/\W (i+1) m' σ' H')/\∀x H',J.yld i H x H'->g x σ H' λσ2 H2=>tb {D with nx:=N,ct:=N,bk:=D.nx} σ2 H2)
noncomputable def nP (j:List Addr)(h:Heap):List (Addr×Obj):=j.filterMap λb=>(h.get? b).map λo=>(b,o)
def ir (j:b∈fp)(e:h.get? b=some o):(b,o)∈nP fp h:=List.mem_filterMap.mpr {b,j,by rw[e];rfl}
def zh (B:p∈nP fp h):p.1∈fp/\h.get? p.1=some p.2:=by
 obtain⟨b,y,e⟩:=List.mem_filterMap.mp B;cases q:h.get? b with
 |none=>rw[q] at e;cases e
 | some o=>
   rw[q] at e;have j:=Ph e;subst j;exact⟨y,q⟩
def Inv.pinned (I:Inv X pins σ H s)(hf:∀b∈y,ef X pins H b)(ho:∀b∈y,∃o,s.heap.get? b=some o/\∀v,o.data≠.cell v):Inv X (pins++nP y s.heap) σ H s:=
 I.pins_of λp L=>(PJ.mp L).elim (λz=>I.pin p (PR _ z)) λz=>by
  obtain⟨B,e⟩:=zh z;obtain⟨F,f1,J,_⟩:=hf p.1 B;obtain⟨o,j,d⟩:=ho p.1 B;rw[e] at j;cases j;exact⟨e,F,f1,J,d⟩
def Inv.unpinned (I:Inv X (pins++pl) σ H s):Inv X pins σ H s:=I.pins_of λp j=>I.pin p (PR _ (Qm _ j))
def IQ (hp:PassesOwn (model X.prog X.w) X.A X.env X.xe)(hc:X.calm=true)(hi:PI X tg iter wi)(hg:PG X tg g)(L:j5 X body tb)
 (hs:∀x,foldedSetIterable iter X.env x=pure x:=by intro _;rfl):PS X (.For tg iter body [] pos) (NT wi g tb):=by
 intro pins s σ H D I h;refine wpAny_For (aQ (hi pins s σ H _ I h) λv s1 h1=>aQ h1 λitv s2 h2=>?_) hs;obtain⟨it,Y,tn,J,H2,e,I2,T,st2,f2,W,⟨m0,w0⟩,turn⟩:=h2;subst e;have M:∀{H':Hp},(∀b∈Y,H' b=none)->∀b∈Y,ef X pins H' b:=λhn b L=>{hn b L,(f2 b L).2};refine codeAny_forLoop_any (λn s'=>∃i O H',Inv X pins O H' s'/\tn i s'.heap/\(∀b∈Y,H' b=none)/\W i n O H') ?_ m0 {0,σ,H2,I2,st2,λb L=>(f2 b L).1,w0};rintro n s3 ⟨i,R,H3,I3,st3,fr3,w3⟩;rcases turn i n R H3 w3 with⟨stop,qn⟩|⟨go,N,hN,step⟩
 ·refine wpAny_passesOwn hp (aQ (T.done X rfl rfl rfl hc i pins s3 R H3 X.xe I3 (M fr3) st3 stop) λr s4 ⟨hr,I4⟩=>?_);subst hr;exact wpAny_execs_nil ⟨R,H3,I4,qn⟩
 ·refine wpAny_passesOwn hp (aQ (T.item X rfl rfl rfl hc i pins s3 R H3 X.xe I3 (M fr3) st3 go) λr s4 ⟨u,hr,h4⟩=>?_);subst hr;refine wpAny_passesOwn hp (aQ h4 λ_ s5 ⟨x,H5,I5,r5,y5,U,fr5⟩=>?_);have I5':=I5.pinned (M fr5) (T.obj _ _ U);refine wpAny_passesOwn hp (aQ (hg _ s5 R H5 x u _ I5' r5 (step x H5 y5)) λ_ s6 ⟨σ6,H6,I6,q6⟩=>?_);refine wpAny_passesOwn hp (aQ (L _ s6 σ6 H6 _ I6 q6) λf s7 S=>?_);have F:∀{j:St}{y:Hp},Inv X (pins++nP Y s5.heap) j y s7->N j y->∃m,m<n/\∃i O H',Inv X pins O H' s7/\tn i s7.heap/\(∀b∈Y,H' b=none)/\W i m O H':=λ{j y} B n7=>by
   obtain⟨m',hm,w7⟩:=hN j y n7;refine{m',hm,i+1,j,y,B.unpinned,T.keep _ _ _ U λb L o e=>(B.pin (b,o) (PR _ (PR _ (ir L e)))).1,λb L=>?_,w7};obtain⟨o,e,d⟩:=T.obj _ _ U b L;exact(B.pin (b,o) (PR _ (PR _ (ir L e)))).2.1
  cases f with
  |next=>obtain⟨j,y,B,n7⟩:=S;exact F B n7
  |cont=>obtain⟨j,y,B,n7⟩:=S;exact F B n7
  |brk=>obtain⟨j,y,B,S⟩:=S;exact⟨j,y,B.unpinned,S⟩
  |ret v=>obtain⟨x7,j,y,B,r7,S⟩:=S;exact⟨x7,j,y,B.unpinned,r7,S⟩
end
abbrev R2:=V->V->Hp->VK->Prop
def bN (X:Cx)(f:O3->O3->Sem O3)(r:R2):Prop:=
 ∀(pins:List (Addr×Obj)) (s:O8) (σ:St) (H:Hp) (x y:V) (v u:O3) (Q:VK),Inv X pins σ H s->RelV x v->RelV y u->r x y H Q->
  wpAny (model X.prog X.w) X.A (f v u) (EP X pins σ Q) X.xe s
def KW (X:Cx)(f:O3->Sem O3)(r:V->Hp->VK->Prop):Prop:=
 ∀(pins:List (Addr×Obj)) (s:O8) (σ:St) (H:Hp) (x:V) (v:O3) (Q:VK),Inv X pins σ H s->RelV x v->r x H Q->
  wpAny (model X.prog X.w) X.A (f v) (EP X pins σ Q) X.xe s
def cb (X:Cx)(f:O3)(r:List V->Hp->VK->Prop):Prop:=
 ∀(pins:List (Addr×Obj)) (s:O8) (σ:St) (H:Hp) (xs:List V) (j:List O3) (Q:VK),Inv X pins σ H s->Vals xs j->r xs H Q->
  wpAny (model X.prog X.w) X.A (call f j) (EP X pins σ Q) X.xe s
def ON (X:Cx)(r:V->Hp->(Bool->Hp->Prop)->Prop):Prop:=
 ∀(pins:List (Addr×Obj)) (s:O8) (σ:St) (H:Hp) (x:V) (v:O3) (Q:Bool->Hp->Prop),Inv X pins σ H s->RelV x v->r x H Q->
  wpAny (model X.prog X.w) X.A (truthy v) (TP X pins σ Q) X.xe s
def yD (r:R2)(ta tb:TE):TE:=λσ H Q=>ta σ H λx H1=>tb σ H1 λy H2=>r x y H2 Q
def tUn (r:V->Hp->VK->Prop)(ta:TE):TE:=λσ H Q=>ta σ H λx H1=>r x H1 Q
def rI (C:Int->Int->Prop)(g:Int->Int->V):R2:=λx y H Q=>∃i j,x=.int i/\y=.int j/\C i j/\Q (g i j) H
def qz (g:Int->Int->V):R2:=λx y H Q=>∃i j,x=.int i/\y=.int j/\Q (g i j) H
def rU (g:Int->V):V->Hp->VK->Prop:=λx H Q=>∃i,x=.int i/\Q (g i) H
section
variable{X:Cx}{a b c:Expr}{ta tb tc:TE}{pos:Pos}
def CN (L:PE X a ta)(M:PE X b tb){R:V->V->Hp->Prop}(I:Inv X pins σ H s)
 (h:ta σ H λx H1=>tb σ H1 λy H2=>R x y H2) {f:O3->O3->Sem O3}
 (hf:∀v u s2 x y H2,Inv X pins σ H2 s2->RelV x v->RelV y u->R x y H2->wpAny (model X.prog X.w) X.A (f v u) Q X.xe s2) :
 wpAny (model X.prog X.w) X.A (eval a X.env) (λv j=>wpAny (model X.prog X.w) X.A (eval b X.env) (λu B=>wpAny (model X.prog X.w) X.A (f v u) Q X.xe B) X.xe j) X.xe s:=by
 refine aQ (L pins s σ H _ I h) ?_;rintro v s1 ⟨x,H1,F,r1,O⟩;refine aQ (M pins s1 σ H1 _ F O) ?_;rintro u s2 ⟨y,H2,J,r2,S⟩;exact hf v u s2 x y H2 J r1 r2 S
def LH {r:R2}(ho:bN X (binaryOp op) r)(B:PE X a ta)(F:PE X b tb):PE X (.BinOp a op b pos) (yD r ta tb):=by
 intro pins s σ H Q I h;exact wpAny_BinOp (CN B F I h λv u s2 x y H2 j J L q=>ho pins s2 σ H2 x y v u Q j J L q)
def Dz (ho:KW X (unaryOp op) r)(y:PE X a ta):PE X (.UnaryOp op a pos) (tUn r ta):=by
 intro pins s σ H Q I h;exact UnaryOp_ (aQ (y pins s σ H _ I h) (by rintro v s1 ⟨x,H1,j,r1,B⟩;exact ho pins s1 σ H1 x v Q j r1 B))
def DD {g:Int->Int->Int}
 (rule:∀(i j:Int) (t u:Tok) (s:O8) (Q:O3->O8->Prop) (E:O3->O8->Prop),C i j->Q (.int (g i j) s.toks) {s with toks:=s.toks+1}->wpAny (model X.prog X.w) X.A (f (.int i t) (.int j u)) Q E s) :
 bN X f (rI C λi j=>.int (g i j)):=by
 intro pins s σ H x y v u Q I F J h;obtain⟨i,j,rfl,rfl,B,q⟩:=h;obtain⟨t,rfl⟩:=F;obtain⟨L,rfl⟩:=J;exact rule i j t L s _ _ B {.int (g i j),H,I.tok _,{_,rfl},q}
def Ji {g:Int->Int->Int}
 (rule:∀(i j:Int) (t u:Tok) (s:O8) (Q:O3->O8->Prop) (E:O3->O8->Prop),Q (.int (g i j) s.toks) {s with toks:=s.toks+1}->wpAny (model X.prog X.w) X.A (f (.int i t) (.int j u)) Q E s) :
 bN X f (qz λi j=>.int (g i j)):=by
 intro pins s σ H x y v u Q I B F h;obtain⟨i,j,rfl,rfl,q⟩:=h;obtain⟨t,rfl⟩:=B;obtain⟨J,rfl⟩:=F;exact rule i j t J s _ _ {.int (g i j),H,I.tok _,{_,rfl},q}
def wM {g:Int->Int->Bool}
 (rule:∀(i j:Int) (t u:Tok) (s:O8) (Q:O3->O8->Prop) (E:O3->O8->Prop),Q (.bool (g i j)) s->wpAny (model X.prog X.w) X.A (f (.int i t) (.int j u)) Q E s) :
 bN X f (qz λi j=>.bl (g i j)):=by
 intro pins s σ H x y v u Q I B F h;obtain⟨i,j,rfl,rfl,q⟩:=h;obtain⟨t,rfl⟩:=B;obtain⟨J,rfl⟩:=F;exact rule i j t J s _ _ {.bl (g i j),H,I,rfl,q}
def Lc (i j:Int):Prop:=0<j/\j<1073741824
def Lb (i j:Int):Prop:=0<=j/\j<=1000000/\i.natAbs<2^64
def C0 (i j:Int):Prop:=(-(2^64)<i/\i<2^64)\/(-(2^64)<j/\j<2^64)
def C0.ok {i j:Int}(h:C0 i j):IntMulOk i j:=by
 rcases h with⟨h1,h2⟩|⟨h1,h2⟩
 ·exact .of_left (intBits_le_64 h1 h2)
 ·exact .of_right (intBits_le_64 h1 h2)
def Jh:bN X (binaryOp .Add) (qz λi j=>.int (i+j)):=Ji λ_ _ _ _ _ _ _ q=>add_int q
def Ja:bN X (binaryOp .Sub) (qz λi j=>.int (i-j)):=Ji λ_ _ _ _ _ _ _ q=>sub_int q
def Jd:bN X (binaryOp .Mult) (rI C0 λi j=>.int (i*j)):=DD λ_ _ _ _ _ _ _ y q=>mul_int q y.ok
def FY:bN X (binaryOp .FloorDiv) (rI Lc λi j=>.int (i / j)):=DD λi j _ _ _ _ _ y q=>by
 have h1:=y.1;have h2:=y.2;exact floordiv_int `a (by rw[Int.fdiv_eq_ediv_of_nonneg i `a];exact q) (.inl (PyProof.noPylong_small `a))
def Je:bN X (binaryOp .Mod) (rI (λ_ j=>0<j) λi j=>.int (i % j)):=DD λi j _ _ _ _ _ y q=>by
 have h1:=y;exact mod_int' `a (by rw[Int.fmod_eq_emod_of_nonneg i `a];exact q)
def Jc:bN X (binaryOp .Pow) (rI Lb λi j=>.int (i^j.toNat)):=DD λ_ _ _ _ _ _ _ y q=>pow_int_small y.1 y.2.1 y.2.2 q
def unI {g:Int->Int}
 (rule:∀(i:Int) (t:Tok) (s:O8) (Q:O3->O8->Prop) (E:O3->O8->Prop),Q (.int (g i) s.toks) {s with toks:=s.toks+1}->wpAny (model X.prog X.w) X.A (f (.int i t)) Q E s) :
 KW X f (rU λi=>.int (g i)):=by
 intro pins s σ H x v Q I j h;obtain⟨i,rfl,q⟩:=h;obtain⟨t,rfl⟩:=j;exact rule i t s _ _ {.int (g i),H,I.tok _,{_,rfl},q}
def yb:KW X (unaryOp .USub) (rU λi=>.int (-i)):=unI λ_ _ _ _ _ q=>neg_int q
end
noncomputable def H9:V->V->Bool
 |.non,.non=>true|.non,.int _=>true|.int _,.non=>true|.non,.bl _=>true|.bl _,.non=>true|.non,.str _=>true|.str _,.non=>true
 |.int _,.int _=>true|.bl _,.bl _=>true|.str _,.str _=>true|.byt _,.byt _=>true
 |.int _,.str _=>true|.str _,.int _=>true|.bl _,.str _=>true|.str _,.bl _=>true
 |_,_=>false
def rEq:R2:=λx y H Q=>H9 x y=true/\Q (.bl (decide (x=y))) H
def rNe:R2:=λx y H Q=>H9 x y=true/\Q (.bl (!decide (x=y))) H
def vV {i j:Int}:decide (V.int i=V.int j)=(i==j):=by
 rw[QA];simp
def Ah:decide (V.bl i=V.bl j)=(i==j):=by
 rw[QA];simp
def mn:decide (V.str i=V.str j)=(i==j):=by
 rw[QA];simp
def vW:decide (V.byt i=V.byt j)=(i.toList==j.toList):=by
 rw[QA];cases i;cases j;simp
section
variable{X:Cx}{a b c:Expr}{ta tb tc:TE}{pos:Pos}
def bz (I:Inv X pins σ H s)(q:Q (.bl k) H)(e:k=k'):EP X pins σ Q (.bool k') s:=by
 subst e;exact{.bl k,H,I,rfl,q}
def LR:bN X (compareOp .Eq) rEq:=by
 intro pins s σ H x y v u Q I J B h;obtain⟨hs,q⟩:=h;cases x with
 | non=>
   cases J;cases y with
   |non=>cases B;exact PySem.EqNone.eq_none_none (bz I q `s)
   |bl j=>cases B;exact PySem.EqNone.eq_none_bool (bz I q `s)
   |int j=>obtain⟨F,rfl⟩:=B;exact PySem.EqNone.eq_none_int (bz I q `s)
   |str j=>obtain⟨F,rfl⟩:=B;exact PySem.EqNone.eq_none_str (bz I q `s)
   |_=>exact absurd (hs) PC
 | bl i=>
   cases J;cases y with
   |non=>cases B;exact PySem.EqNone.eq_bool_none (bz I q `s)
   |bl j=>cases B;exact eq_bool (bz I q Ah)
   |str j=>obtain⟨F,rfl⟩:=B;exact PySem.EqMixed.eq_bool_str (bz I q `s)
   |_=>exact absurd (hs) PC
 | int i=>
   obtain⟨t,rfl⟩:=J;cases y with
   |non=>cases B;exact PySem.EqNone.eq_int_none (bz I q `s)
   |int j=>obtain⟨F,rfl⟩:=B;exact eq_int (bz I q vV)
   |str j=>obtain⟨F,rfl⟩:=B;exact PySem.EqMixed.eq_int_str (bz I q `s)
   |_=>exact absurd (hs) PC
 | str i=>
   obtain⟨t,rfl⟩:=J;cases y with
   |non=>cases B;exact PySem.EqNone.eq_str_none (bz I q `s)
   |bl j=>cases B;exact PySem.EqMixed.eq_str_bool (bz I q `s)
   |int j=>obtain⟨F,rfl⟩:=B;exact PySem.EqMixed.eq_str_int (bz I q `s)
   |str j=>obtain⟨F,rfl⟩:=B;exact eq_str (bz I q mn)
   |_=>exact absurd (hs) PC
 | byt i=>
   obtain⟨t,rfl⟩:=J;cases y with
   |byt j=>obtain⟨F,rfl⟩:=B;exact PySem.W.eq_bytes (bz I q vW)
   |_=>exact absurd (hs) PC
 |_=>cases y<;>exact absurd (hs) PC
def LM:bN X (compareOp .NotEq) rNe:=by
 intro pins s σ H x y v u Q I J B h;obtain⟨hs,q⟩:=h;cases x with
 | non=>
   cases J;cases y with
   |non=>cases B;exact PySem.EqNone.ne_none_none (bz I q `s)
   |bl j=>cases B;exact PySem.EqNone.ne_none_bool (bz I q `s)
   |int j=>obtain⟨F,rfl⟩:=B;exact PySem.EqNone.ne_none_int (bz I q `s)
   |str j=>obtain⟨F,rfl⟩:=B;exact PySem.EqNone.ne_none_str (bz I q `s)
   |_=>exact absurd (hs) PC
 | bl i=>
   cases J;cases y with
   |non=>cases B;exact PySem.EqNone.ne_bool_none (bz I q `s)
   |bl j=>cases B;exact ne_bool (bz I q (congrArg not Ah))
   |str j=>obtain⟨F,rfl⟩:=B;exact PySem.EqMixed.ne_bool_str (bz I q `s)
   |_=>exact absurd (hs) PC
 | int i=>
   obtain⟨t,rfl⟩:=J;cases y with
   |non=>cases B;exact PySem.EqNone.ne_int_none (bz I q `s)
   |int j=>obtain⟨F,rfl⟩:=B;exact ne_int (bz I q (congrArg not vV))
   |str j=>obtain⟨F,rfl⟩:=B;exact PySem.EqMixed.ne_int_str (bz I q `s)
   |_=>exact absurd (hs) PC
 | str i=>
   obtain⟨t,rfl⟩:=J;cases y with
   |non=>cases B;exact PySem.EqNone.ne_str_none (bz I q `s)
   |bl j=>cases B;exact PySem.EqMixed.ne_str_bool (bz I q `s)
   |int j=>obtain⟨F,rfl⟩:=B;exact PySem.EqMixed.ne_str_int (bz I q `s)
   |str j=>obtain⟨F,rfl⟩:=B;exact ne_str (bz I q (congrArg not mn))
   |_=>exact absurd (hs) PC
 | byt i=>
   obtain⟨t,rfl⟩:=J;cases y with
   |byt j=>obtain⟨F,rfl⟩:=B;exact PySem.W.ne_bytes (bz I q (congrArg not vW))
   |_=>exact absurd (hs) PC
 |_=>cases y<;>exact absurd (hs) PC
def LN:bN X (compareOp .Lt) (qz λi j=>.bl (decide (i<j))):=wM λ_ _ _ _ _ _ _ q=>lt_int q
def LO:bN X (compareOp .LtE) (qz λi j=>.bl (decide (i<=j))):=wM λ_ _ _ _ _ _ _ q=>le_int q
def LP:bN X (compareOp .Gt) (qz λi j=>.bl (decide (j<i))):=wM λ_ _ _ _ _ _ _ q=>gt_int q
def LQ:bN X (compareOp .GtE) (qz λi j=>.bl (decide (j<=i))):=wM λ_ _ _ _ _ _ _ q=>ge_int q
def zg:bN X (compareOp .In) (λx y H Q=>∃i j,x=.str i/\y=.str j/\Q (.bl (!(Builtin.Str.occurrences j i 0 j.length 1).isEmpty)) H):=by
 intro pins s σ H x y v u Q I B F h;obtain⟨i,j,rfl,rfl,q⟩:=h;obtain⟨t,rfl⟩:=B;obtain⟨J,rfl⟩:=F;exact in_str (bz I q rfl)
def Jf:bN X (compareOp .Is) (λx y H Q=>y=.non/\Q (.bl (decide (x=.non))) H):=by
 intro pins s σ H x y v u Q I j B h;obtain⟨rfl,q⟩:=h;cases B;refine is_none_gen (bz I q ?_);cases x<;>first
  |(cases j;rfl)
  |(obtain⟨t,rfl⟩:=j;rfl)
def FX:bN X (compareOp .IsNot) (λx y H Q=>y=.non/\Q (.bl (!decide (x=.non))) H):=by
 intro pins s σ H x y v u Q I j B h;obtain⟨rfl,q⟩:=h;cases B;refine isnot_none_gen (bz I q ?_);cases x<;>first
  |(cases j;rfl)
  |(obtain⟨t,rfl⟩:=j;rfl)
def sM:bN X (compareOp .NotIn) (λx y H Q=>∃i j,x=.str i/\y=.str j/\Q (.bl (!(!(Builtin.Str.occurrences j i 0 j.length 1).isEmpty))) H):=by
 intro pins s σ H x y v u Q I B F h;obtain⟨i,j,rfl,rfl,q⟩:=h;obtain⟨t,rfl⟩:=B;obtain⟨J,rfl⟩:=F;exact notIn_str (bz I q rfl)
def pA {r:R2}(ho:bN X (compareOp op) r)(B:PE X a ta)(F:PE X b tb)(hm:behindInMarks op b=false):PE X (.Compare a [op] [b] pos) (yD r ta tb):=by
 intro pins s σ H Q I h;exact wpAny_Compare1 (CN B F I h λv u s2 x y H2 j J L q=>ho pins s2 σ H2 x y v u Q j J L q) hm
def Dp (t:TE):TT:=λσ H Q=>t σ H λx H'=>∃k,x=.bl k/\Q k H'
def pq (ho:bN X (compareOp op) r)(L:PE X a ta)(M:PE X b tb)(hm:behindInMarks op b=false):PT X (.Compare a [op] [b] pos) (Dp (yD r ta tb)):=by
 intro pins s σ H Q I h;refine wpAny_isTrue_Compare1 (aQ (L pins s σ H _ I h) λv s1 ⟨x,H1,B,r1,O⟩=>aQ (M pins s1 σ H1 _ B O) λu s2 ⟨y,H2,F,r2,R⟩=>
  aQ (ho pins s2 σ H2 x y v u _ F r1 r2 R) λc W ⟨z,j,J,U,k,e,S⟩=>?_) hm
 subst e;cases U;exact tqp ⟨j,J,S⟩
def sg (r r':R2)(ta tb tc:TE):TE:=λσ H Q=>ta σ H λx H1=>tb σ H1 λy H2=>r x y H2 λz j=>∃k,z=.bl k/\
 (if k=true then tc σ j λF B=>r' y F B Q else Q (.bl false) j)
def BL (ho:bN X (compareOp op) r)(j:bN X (compareOp op') r')(S:PE X a ta)(U:PE X b tb)(W:PE X c tc)
 (hm:lastMarks [op,op'] [b,c]=false:=by with_unfolding_all rfl):PE X (.Compare a [op,op'] [b,c] pos) (sg r r' ta tb tc):=by
 intro pins s σ H Q I h;refine Compare_chain (aQ (S pins s σ H _ I h) λv s1 ⟨x,H1,M,r1,Y⟩=>chain_link (aQ (U pins s1 σ H1 _ M Y) λu s2 ⟨y,H2,O,r2,q2⟩=>
  aQ (ho pins s2 σ H2 x y v u _ O r1 r2 q2) λd s3 ⟨z,B,F,r3,k,e,J⟩=>?_)) hm
 subst e;cases r3;refine tqp ?_;cases k with
 |false=>exact ite_ff {.bl false,B,F,rfl,J}
 |true=>exact ite_tt (chain_last (aQ (W pins s3 σ B _ F J) (by rintro w' s4 ⟨z',L,R,r4,q4⟩;exact j pins s4 σ L y z' u w' Q R r2 r4 q4)))
def BH (ho:bN X (compareOp op) r)(j:bN X (compareOp op') r')(Y:PE X a ta)(hb:PE X b tb)(hc:PE X c tc)
 (hm:lastMarks [op,op'] [b,c]=false:=by with_unfolding_all rfl):PT X (.Compare a [op,op'] [b,c] pos) (Dp (sg r r' ta tb tc)):=by
 intro pins s σ H Q I h;refine isTrue_chain (aQ (Y pins s σ H _ I h) λv s1 ⟨x,H1,O,r1,q1⟩=>test_link (aQ (hb pins s1 σ H1 _ O q1) λu s2 ⟨y,H2,R,r2,q2⟩=>
  aQ (ho pins s2 σ H2 x y v u _ R r1 r2 q2) λd s3 ⟨z,B,F,r3,k,e,J⟩=>?_)) hm
 subst e;cases r3;refine tqp ?_;cases k with
 | false=>
   obtain⟨k',W,q'⟩:=J;cases W;exact ite_ff ⟨B,F,q'⟩
 | true=>
   refine ite_tt (test_last (aQ (hc pins s3 σ B _ F J) λw' s4 ⟨z',L,S,r4,q4⟩=>aQ (j pins s4 σ L y z' u w' _ S r2 r4 q4) λd' s5 ⟨z2,M,U,r5,k2,e2,q5⟩=>?_));subst e2;cases r5;exact tqp ⟨M,U,q5⟩
def CT (K:O0)(x:V)(H:Hp)(k:Bool):Prop:=
 match x with
 |.non=>k=false
 |.bl b=>k=b
 |.int i=>k=(i != 0)
 |.str y=>y.length<=sizeLine/\k=((y.length:Int) != 0)
 |.byt y=>y.size<=sizeLine/\k=((y.size:Int) != 0)
 |.ref p=>(∃xs,cz K H p xs/\k=!xs.isEmpty)\/(∃xs,c8 K H p xs/\k=!xs.isEmpty)\/∃kvs,H p=some (.dK kvs)/\k=!kvs.isEmpty
 |_=>False
def xn {κ:Type}{kvs:List (κ×V)}{vs:List (κ×O3)}(r:KV kvs vs):(!vs.isEmpty)=!kvs.isEmpty:=by
 cases r<;>rfl
def kB {xs:List V}{its:List O3}(r:Vals xs its):(!its.toArray.isEmpty)=!xs.isEmpty:=by
 cases r<;>simp
def iS:(sizeLine:Nat)<2^63:=by rw[sizeLine_eq];decide
def HM:ON X (λx H Q=>∃k,CT X.K x H k/\Q k H):=by
 intro pins s σ H x v Q I rx h;obtain⟨k,e,q⟩:=h;have hl:=iS;have hs:=sizeLine_eq;cases x with
 | non=>
   cases rx;have e':=e;subst e';exact truthy_none ⟨H,I,q⟩
 | bl b=>
   cases rx;have e':=e;subst e';exact tqp ⟨H,I,q⟩
 | int i=>
   obtain⟨t,rfl⟩:=rx;have e':=e;subst e';exact PySem.P.truthy_int ⟨H,I,q⟩
 | str y=>
   obtain⟨t,rfl⟩:=rx;obtain⟨hy,e'⟩:y.length<=sizeLine/\k=((y.length:Int) != 0):=e;subst e';exact PySem.P.truthy_str `a {H,I.tok _,q}
 | byt y=>
   obtain⟨t,rfl⟩:=rx;obtain⟨hy,e'⟩:y.size<=sizeLine/\k=((y.size:Int) != 0):=e;subst e';exact PySem.W.truthy_bytes `a {H,I.tok _,q}
 | ref p=>
   cases rx;have e':=e;rcases e' with⟨xs,hx,e'⟩|⟨xs,hx,e'⟩|⟨kvs,hx,e'⟩
   ·subst e';obtain⟨its,r,pl,hz⟩:=I.list hx;have hlen:=r.length;exact wpAny_truthy_list pl.isList (by simp only[Pd];omega) {H,I.tok _,by rw[kB r];exact q}
   ·subst e';obtain⟨its,r,pl,hz⟩:=I.tuple hx;have hlen:=r.length;exact truthy_tuple pl (by simp only[Pd];omega) {H,I.tok _,by rw[kB r];exact q}
   ·subst e';obtain⟨hz,hS,vs,r,m⟩:kvs.length<=sizeLine/\(p==sysModules)=false/\∃vs,KV kvs vs/\s.heap.DictOf (jS X.prog X.w) p vs:=I.hok p _ hx;have hlen:=Paired.length r;exact wpAny_truthy_dict hS m `a {H,I.tok _,by rw[xn r];exact q}
 |_=>exact(e).elim
def BG (y:PE X a ta)(he:∀whole,isTrue a X.env whole=(do let v <- whole;standAt a.pos;holding [v] (truthy v))) :
 PT X a (λσ H Q=>ta σ H λx H'=>∃k,CT X.K x H' k/\Q k H'):=by
 intro pins s σ H Q I h;exact isTrue_plain (aQ (y pins s σ H _ I h) (by rintro v s1 ⟨x,H1,j,r1,B⟩;exact HM pins s1 σ H1 x v Q j r1 B)) (he _)
def wL:bN X (binaryOp .Add) (λx y H Q=>∃i j,x=.str i/\y=.str j/\i.length+j.length<=sizeLine/\Q (.str (i++j)) H):=by
 intro pins s σ H x y v u Q I F J h;obtain⟨i,j,rfl,rfl,B,q⟩:=h;obtain⟨t,rfl⟩:=F;obtain⟨L,rfl⟩:=J;exact add_str (λL tk=>{.str (i++j),H,I.tok _,{_,rfl},q}) B
def vals1 (r:Vals [x] us):∃u,us=[u]/\RelV x u:=by
 cases r with
 |cons r1 r2=>cases r2;exact{_,rfl,r1}
def vals2 (r:Vals [x,y] us):∃u j,us=[u,j]/\RelV x u/\RelV y j:=by
 cases r with
 | cons r1 r2=>
   cases r2 with
   |cons B F=>cases F;exact{_,_,rfl,r1,B}
end
structure CY (h:Heap) (x dx C:Addr) (mA:Str->Option O3):Prop where
 obj:h.get? x=some (PySem.W.instObj C dx)
 ns:h.Ns1 dx mA
 ne:dx≠x
set_option tactic.hygienic true in
def qD {h:Heap}(n:h.Ns1 dx mA):∃od,h.get? dx=some od/\∀name,PySem.W.lookIn name od=some (mA name):=by
 obtain⟨o,es,I,ho,hd,hk,_,hm⟩:=n;refine{o,ho,λname=>?_};have e:=hm name;unfold nsFind findBy at e;rw[<- Array.find?_toList] at e;unfold PySem.W.lookIn;rw[hd];dsimp only;split
 ·rename_i y q;rw[q] at e;exact congrArg some e
 ·rename_i q;rw[q] at e;have a:es.toList.any (·.refKey)=false:=by
   rw[List.any_eq_false];intro y F;obtain⟨z,t,j⟩:=hk y (Array.mem_toList_iff.mp F);simp[DictEntry.refKey,j]
  have B:¬ es.toList.any (·.refKey)=true:=by rw[a];exact PC
  rw[if_neg B];exact congrArg some e
def CY.look (I:CY h x dx C mA):∃od,Q5 h x (PySem.W.instObj C dx) C (some od)/\∀name,PySem.W.lookIn name od=some (mA name):=
 let⟨od,ho,hl⟩:=qD I.ns
 {od,⟨I.obj,rfl,rfl,ho⟩,hl}
def qj.some_of (r:qj (some v) o):∃u,o=some u/\RelV v u:=by
 cases o with
 |none=>exact(r).elim
 |some u=>exact⟨u,rfl,r⟩
section
variable{P:PU}{w:PM}{H H':Hp}{h h':Heap}{a C dx:Addr}{fs fs':List (Str×V)}
def Gq (hok:dH P w H h)(e:H a=some (.ins C dx fs)):∃mA,CY h a dx C mA/\(∀f,qj (fs.lookup f) (mA f))/\PySem.Within mA (fs.map (·.1))/\fs.length<=1000/\H dx=some (.own a):=by
 obtain⟨d,z,ne,ob,mA,n,r,q⟩:=(hok a _ e);exact{mA,⟨ob,n,ne⟩,r,q,z,d}
end
structure wj (K:O0) (C:Addr):Prop where
 pg:PySem.W.plainGet K C Str.empty=true
 hd:PySem.W.hasDictIn K C=true
 po:PySem.W.plainOver K C=true
 sa:PySem.W.findIn K (.ref C) "__setattr__"=some (some (.builtin "object.__setattr__"))
def wj.get {K:O0}(c:wj K C)(f:Str):PySem.W.plainGet K C f=true:=c.pg
def K0 (K:O0)(C:Addr)(f:Str):Prop:=PySem.W.findIn K (.ref C) f=some none
structure Meth (K:O0) (C:Addr) (m:Str) (f:Addr):Prop where
 at_:PySem.W.findIn K (.ref C) m=some (some (.ref f))
 fn:PySem.W.isFn K (.ref f)=true
 kp:PySem.W.keepIn K (.ref f)=true
section
variable{X:Cx}{pins:List (Addr×Obj)}{σ:St}{H:Hp}{s:O8}{a C dx:Addr}{fs:List (Str×V)}{f:Str}{v:V}{A:QE}{E:O3->O8->Prop}
def Hc (y:attributeBase e f env (eval e env)=eval e env)
 (h:wpAny (model prog w) A (eval e env) (λo j=>wpAny (model prog w) A (getAttr o f true) Q E j) E s):wpAny (model prog w) A (eval (.Attribute e f pos) env) Q E s:=
 Attribute_any_ h (by rw[arm_eval_Attribute,y])
end
section
variable{X:Cx}{pins:List (Addr×Obj)}{σ:St}{H:Hp}{s:O8}{A:QE}{E:O3->O8->Prop}{Q:O3->O8->Prop}{c:O3}{b:Bool}
inductive ic (K:O0) (H:Hp):V->O3->Prop where
 |non:ic K H .non (.type "NoneType")
 |bl (x:Bool):ic K H (.bl x) (.type "bool")
 |int (i:Int):ic K H (.int i) (.type "int")
 |str (x:Str):ic K H (.str x) (.type "str")
 |flt (x:UInt64):ic K H (.flt x) (.type "float")
 |lst {a:Addr}{xs:List V} (e:H a=some (.lst xs)):ic K H (.ref a) (.type "list")
 |frz {a:Addr}{o:Obj}{xs:List V} (e:H a=some (.frz o (.lst xs))):ic K H (.ref a) (.type "list")
 |tup {a:Addr}{xs:List V} (e:H a=some (.tup xs)):ic K H (.ref a) (.type "tuple")
 |dK {a:Addr}{kvs:List (Key×V)} (e:H a=some (.dK kvs)):ic K H (.ref a) (.type "dict")
 |dT {a:Addr}{kvs:List (List Key×V)} (e:H a=some (.dT kvs)):ic K H (.ref a) (.type "dict")
 |ins {a C dx:Addr}{fs:List (Str×V)} (e:H a=some (.ins C dx fs)) (cl:wj K C) (ha:PySem.W.findIn K (.ref C) "__class__"=some (some (.builtin "object.__class__")))
  (hn:PySem.W.specialIn K (.builtin "object.__class__") "__get__"=some (some (.builtin "getset_descriptor.__get__"))) (htk:PySem.W.takesIn K (.builtin "object.__class__")=some true)
  (hm:PySem.W.mroIn K C (.type "object")=some true):ic K H (.ref a) (.ref C)
def jc (I:Inv X pins σ H s)(j:RelV x u)(ty:ic X.K H x t)(e:PySem.W.kitOne X.K t c=some b)(h:∀tk,Q (.bool b) {s with toks:=tk}) :
 wpAny (model X.prog X.w) A (call (.builtin "isinstance") [u,c]) Q E s:=by
 cases ty with
 |non=>cases (j);exact Qd PySem.W.kitx_none I.kIn True.intro e (λz=>nomatch z) h
 |bl y=>cases (j);exact Qd PySem.W.kitx_bool I.kIn True.intro e (λz=>nomatch z) h
 |int i=>obtain⟨t,q⟩:=(j);cases q;exact Qd PySem.W.kitx_int I.kIn True.intro e (λz=>nomatch z) h
 |str y=>obtain⟨t,q⟩:=(j);cases q;exact Qd PySem.W.kitx_str I.kIn True.intro e (λz=>nomatch z) h
 |flt y=>obtain⟨t,q⟩:=(j);cases q;exact Qd PySem.W.kitx_float I.kIn True.intro e (λz=>nomatch z) h
 | @lst a xs ea=>
   cases (j);obtain⟨_,_,n,_,h1⟩:=(I.hok a _ ea);exact Qd PySem.W.kitx_list I.kIn {_,h1,rfl} e (λz=>nomatch z) h
 | @frz a ob xs ea=>
   cases (j);obtain⟨_,_,_,n,_,h1⟩:=(I.hok a _ ea);exact Qd PySem.W.kitx_list I.kIn {_,h1,rfl} e (λz=>nomatch z) h
 | @tup a xs ea=>
   cases (j);obtain⟨_,_,_,p⟩:=(I.hok a _ ea);obtain⟨o,h1,h2,_⟩:=p;exact Qd PySem.W.kitx_tuple I.kIn ⟨o,h1,h2⟩ e (λz=>nomatch z) h
 | @dK a F ea=>
   cases (j);obtain⟨_,_,R,_,p⟩:=(I.hok a _ ea);obtain⟨o,es,L,h1,h2,_⟩:=p;exact Qd PySem.W.kitx_dict I.kIn ⟨o,h1,h2.1⟩ e (λz=>nomatch z) h
 | @dT a F ea=>
   cases (j);obtain⟨_,_,xs,_,o,es,L,h1,h2,_⟩:=(I.hok a _ ea);exact Qd PySem.W.kitx_dict I.kIn ⟨o,h1,h2.1⟩ e (λz=>nomatch z) h
 | @ins a C dx fs ea cl M hn B hm=>
   cases (j);obtain⟨mA,O,_⟩:=Gq I.hok ea;obtain⟨od,J,_⟩:=O.look;exact Qd (PySem.W.kitx_own (cl.get _) cl.hd M hn B hm) I.kIn J e (λz=>nomatch z) h
end
structure b5 (k:Nat) (A:QE):Prop where
 hd:A.handled=none
 dp:A.depth+3*k+5<recursionLimit
 un:A.units+16*k+200<cLine
 gd:A.guards=some []
def b5.mono (r:b5 k A)(h:j<=k):b5 j A:={r.hd,by have:=r.dp;omega,by have:=r.un;omega,r.gd}
def b5.deeper (r:b5 (k+1) A)(env:Env):b5 k (A.deeper env):=
 {r.hd,by have:=r.dp;show A.depth+1+3*k+5<_;omega,by have:=r.un;show A.units+3+16*k+200<_;omega,r.gd}
def wX {A:QE}:(A.under (.builtin "type.__call__" {.ref C::us,kw})).depth=A.depth+1:=by
 first|rfl|simp[Around.under,Code.weight,Code.isCreation,Code.isGuard,Code.isCaller,Code.frames,Code.isFrame,guardIds]
def wW {A:QE}:(A.under (.builtin "type.__call__" {.ref C::us,kw})).units=A.units+1:=by
 first|rfl|simp[Around.under,Code.cUnits,Code.frames,Code.isFrame]
def b5.make (r:b5 (k+1) A)(C:Addr)(us:List O3)(j:List (Str×O3)):b5 k (A.under (.builtin "type.__call__" {.ref C::us,j})):=
 {r.hd,by have:=r.dp;rw[wX];omega,by have:=r.un;rw[wW];omega,r.gd}
def b5.depth (r:b5 k A):A.depth<recursionLimit:=by have:=r.dp;omega
def b5.units (r:b5 k A):A.units+64<cLine:=by have:=r.un;omega
def NP:TA:=λ_ H Q=>Q [] H
def Lo (ta:TE)(j:TA):TA:=λσ H Q=>ta σ H λx H1=>j σ H1 λxs H2=>Q (x::xs) H2
section
variable{X:Cx}{e:Expr}{es:List Expr}{te:TE}{t:TA}{pos:Pos}
def cx:PA X [] NP:=λ_ _ _ _ H Q I h=>Calls.spliced_nil {[],H,I,.nil,h}
def bE (B:PE X e te)(hr:PA X es t)(hs:starEach (e::es) X.env=(false,eval e X.env)::starEach es X.env:=by rfl):PA X (e::es) (Lo te t):=by
 intro pos pins s σ H Q I h;rw[hs];refine Calls.spliced_cons (aQ (B pins s σ H _ I h) λu s1 ⟨x,H1,j,r1,F⟩=>?_);exact aQ (hr pos pins s1 σ H1 _ j F) (by rintro L s2 ⟨xs,H2,y,r2,J⟩;exact{x::xs,H2,y,.cons r1 r2,J})
def NL (t:TA):TE:=λσ H Q=>t σ H λxs H1=>xs.length<=sizeLine/\∀p,H1 p=none->Q (.ref p) (upd H1 p (.tup xs))
def NQ (t:TA):TE:=λσ H Q=>t σ H λxs H1=>xs.length<=sizeLine/\∀p,H1 p=none->Q (.ref p) (upd H1 p (.lst xs))
def za {x1}(h:PA X es t):PE X (.Tuple es x1 pos) (NL t):=by
 intro pins s σ H Q I y;refine wpAny_Tuple_spliced (aQ (h pos pins s σ H _ I y) λB s1 ⟨xs,H1,j,r,z,q⟩=>{by rw[<- r.length];exact z,?_})
 have hf:=j.hok.fresh (O4 _);refine{.ref s1.heap.objs.size,upd H1 s1.heap.objs.size (.tup xs),j.laid (λb u e=>O5 _ e) (O4 _) ?_,rfl,q _ hf};exact{z,B,r,{_,PD _ rfl,rfl,_,rfl}}
def IZ (h:PA X es t):PE X (.List es pos) (NQ t):=by
 intro pins s σ H Q I y;refine wpAny_List_spliced (aQ (h pos pins s σ H _ I y) λB s1 ⟨xs,H1,j,r,z,q⟩=>{by rw[<- r.length];exact z,?_})
 have hf:=j.hok.fresh (O4 _);refine{.ref s1.heap.objs.size,upd H1 s1.heap.objs.size (.lst xs),j.laid (λb u e=>O5 _ e) (O4 _) ?_,rfl,q _ hf};exact{z,B,0,r,PD _ rfl}
end
abbrev Sp:=List V->Hp->VK->XK->Prop
abbrev uH:=List Env->Hp->O8->XK->O3->O8->Prop
structure nA (P:PU) (w:PM) (K:O0) (mg:Str->Option O3) (base:Heap) (A:QE) (outer:List Env) (s:O8) (H:Hp):Prop where
 frames:A.frames=some outer
 mod:Mod K mg base
 bs:∀b o,base.get? b=some o->s.heap.get? b=some o/\H b=none
 bsz:base.objs.size<=s.heap.objs.size
 funs:s.heap.FunFrames base outer
 frf:∀b∈fu outer,H b=none
 hok:dH P w H s.heap
 bare:AllBare s.gens
def CE (outer:List Env)(P:PU)(w:PM)(H:Hp)(s:O8)(Q:VK)(u:O3)(s':O8):Prop:=
 ∃v H',s'.os=s.os/\AllBare s'.gens/\Un (fu outer) [] H H' s.heap s'.heap/\dH P w H' s'.heap/\RelV v u/\Q v H'
def CR (CX:uH)(outer:List Env)(P:PU)(w:PM)(H:Hp)(s:O8)(Q:VK)(E:XK)(r:Result)(s':O8):Prop:=
 match r with
 |.ok (.ret u)=>CE outer P w H s Q u s'
 |.ok _=>False
 |.error e=>CX outer H s E e s'
structure jG (P:PU) (w:PM) (K:O0) (mg:Str->Option O3) (base:Heap) (CX:uH) (k:Nat) (f:Addr) (fd:FuncData) (ps:List Str) (sp:Sp):Prop where
 len:∀vs H Q E,sp vs H Q E->vs.length=ps.length
 run:∀(A:QE) (outer:List Env) (s:O8) (H:Hp) (args:Args) (us:List O3) (vs:List V) (Q:VK) (E:XK),b5 k A->nA P w K mg base A outer s H->BindsTo s fd args (ps.zip us)->Vals vs us->sp vs H Q E->
  codeAny (model P w) A (.call (.ref f) args) (CR CX outer P w H s Q E) s
def nA.make {K:O0}(e:nA P w K mg base A outer s H)(C:Addr)(us:List O3)(j:List (Str×O3)) :
 nA P w K mg base (A.under (.builtin "type.__call__" {.ref C::us,j})) outer s H:={by first|exact e.frames|(simpa[Around.under,Code.envs,Code.isFrame,pushEnvs] using e.frames),e.mod,e.bs,e.bsz,e.funs,e.frf,e.hok,e.bare}
section
variable{X:Cx}{pins:List (Addr×Obj)}{σ:St}{H:Hp}{s s':O8}
def Inv.env0 (I:Inv X pins σ H s):nA X.prog X.w X.K X.mg X.base X.A X.stack s H:=
 {I.ok.frames,I.ok.mod,I.bs,Pk I.ok.bsz I.sz,I.stack,I.stkFree,I.hok,I.bare}
def Inv.after (I:Inv X pins σ H s)(h:CE X.stack X.prog X.w H s Q u s'):EP X pins σ Q u s':=by
 obtain⟨v,H',os,bare,un,hok,r,q⟩:=h;obtain⟨y,g,d,t,j⟩:=s';obtain rfl:j=s.os:=os;exact{v,H',I.call un hok bare (λb z=>absurd z `s),r,q}
end
def Dr (sp:Sp)(dvs:List V)(E:XK)(t:TA):TE:=λσ H Q=>t σ H λvs H1=>sp (vs++dvs) H1 Q E
def Binds (K:O0)(fd:FuncData)(ps:List Str)(ds:List O3):Prop:=
 ∀(s:O8) (j:List O3),K.In s.heap->(j++ds).length=ps.length->BindsTo s fd {j,[]} (ps.zip (j++ds))
def Binds.all {K:O0}(h:∀us:List O3,us.length=ps.length->bindArgs fd {us,[]}=pure (ps.zip us)):Binds K fd ps []:=λs us _ hl=>by
 rw[Qz] at hl ⊢;exact .of_eq (h us hl)
def Passes (CX:uH)(X:Cx)(E:XK):Prop:=∀(pins:List (Addr×Obj)) (σ:St) (H:Hp) (s:O8) (e:O3) (s':O8),Inv X pins σ H s->CX X.stack H s E e s'->X.xe e s'
section
variable{X:Cx}{CX:uH}{k:Nat}{f C:Addr}{fd:FuncData}{ps:List Str}{sp:Sp}{dvs:List V}{ds:List O3}{E:XK}{x m:Str}{p pos apos:Pos}{e o:Expr}{es:List Expr}{ta:TE}{t:TA}
def yS (F:jG X.prog X.w X.K X.mg X.base CX k f fd ps sp)(hr:b5 k X.A)(y:Binds X.K fd ps ds)(hd:Vals dvs ds)(B:Passes CX X E)
 (I:Inv X pins σ H s) (r:Vals vs us) (h:sp (vs++dvs) H Q E):wpAny (model X.prog X.w) X.A (call (.ref f) us) (EP X pins σ Q) X.xe s:=by
 have r2:=r.append hd;have hl:(us++ds).length=ps.length:=by rw[<- r2.length];exact F.len _ _ _ _ h
 refine wpAny_call (codeAny_mono (F.run X.A X.stack s H {us,[]} (us++ds) (vs++dvs) Q E hr I.env0 (y s us I.kIn hl) r2 h) λr s' j=>?_);cases r with
 |error e=>exact B pins σ H s e s' I j
 | ok fl=>
   cases fl with
   |ret u=>exact I.after j
   |next=>exact False.elim j
   |brk=>exact False.elim j
   |cont=>exact False.elim j
def FV (F:jG X.prog X.w X.K X.mg X.base CX k f fd ps sp)(hr:b5 k X.A)(M:Gl X x)(hm:X.mg x=some (.ref f))(hk:PySem.W.keepIn X.K (.ref f)=true)(L:Binds X.K fd ps ds)(hd:Vals dvs ds)(O:Passes CX X E)
 (J:PA X (e::es) t) (j:(x==("__debug__":Str))=false:=by decide) (he:starEach (e::es) X.env=(false,eval e X.env)::starEach es X.env:=by rfl) (y:(backTo pos (starEach es X.env)).any (·.1)=false:=by rfl) :
 PE X (.Call (.Name x p) (e::es) [] pos) (Dr sp dvs E t):=by
 intro pins s σ H Q I h;refine wpAny_Call_Name_kw (fQ I M hm ?_ j);refine Rv I.ok.mod.kin hk (aQ (J pos pins s σ H _ I h) λR s1 ⟨S,H1,B,r,q⟩=>{B.kIn,?_}) he y;exact yS F hr L hd O B r q
structure Mk (K:O0) (C f:Addr):Prop where
 makes:PySem.W.makesIn K C=true
 init:PySem.W.findIn K (.ref C) "__init__"=some (some (.ref f))
 fn:PySem.W.isFn K (.ref f)=true
 kp:PySem.W.keepIn K (.ref C)=true
end
structure fW (N P:List Str) (sc:Scope):Prop where
 kind:sc.kind=.function
 co:sc.isCoroutine=false
 gen:sc.isGenerator=false
 nd:N.Nodup
 pre:N.take P.length=P
 par:∀x∈P,sc.names.lookup x=some .local\/sc.names.lookup x=some .cell
 nofree:∀y∈sc.names,y.2≠.free
noncomputable def qZ {j:Str->Option NameKind}:∀{binds:List (Str×O3)}{m:Str->Option O3},(∀v,(x,v)∉binds)->bindL j binds m x=m x
 |[],_,_=>rfl
 | (n,v)::r,m,h=>by
   unfold bindL;rw[qZ λw y=>h w (Pa _ y)];split
   ·have:x≠n:=by rintro rfl;exact h v Pn
    simp[this]
   ·rfl
noncomputable def q9 {j:Str->Option NameKind}:∀{binds:List (Str×O3)}{m:Str->Option O3},(∀v,(x,v)∉binds)->bindC j binds m x=m x
 |[],_,_=>rfl
 | (n,v)::r,m,h=>by
   unfold bindC;rw[q9 λw y=>h w (Pa _ y)];split
   ·rfl
   ·have:x≠n:=by rintro rfl;exact h v Pn
    simp[this]
theorem q8 {j:Str->Option NameKind}:∀{P:List Str}{vs:List O3}{i:Nat}{m:Str->Option O3},P.Nodup->P[i]?=some x->vs[i]?=some v->j x=some .local->
 bindL j (P.zip vs) m x=some v
 |[],_,_,_,_,h,_,_=>by simp at h
 |_::_,[],_,_,_,_,h,_=>by simp at h
 | p::P,w::vs,0,m,nd,h1,h2,hk=>by
   simp at h1 h2;subst h1;subst h2;show bindL j ((p,w)::P.zip vs) m p=_;unfold bindL;rw[qZ λv y=>(Qy.mp nd).1 (List.of_mem_zip y).1,if_pos hk];simp
 | p::P,w::vs,i+1,m,nd,h1,h2,hk=>by
   unfold bindL;exact q8 (Qy.mp nd).2 (by simpa using h1) (by simpa using h2) hk
theorem ra {j:Str->Option NameKind}:∀{P:List Str}{vs:List O3}{i:Nat}{m:Str->Option O3},P.Nodup->P[i]?=some x->vs[i]?=some v->j x≠some .local->
 bindC j (P.zip vs) m x=some v
 |[],_,_,_,_,h,_,_=>by simp at h
 |_::_,[],_,_,_,_,h,_=>by simp at h
 | p::P,w::vs,0,m,nd,h1,h2,hk=>by
   simp at h1 h2;subst h1;subst h2;show bindC j ((p,w)::P.zip vs) m p=_;unfold bindC;rw[q9 λv y=>(Qy.mp nd).1 (List.of_mem_zip y).1,if_neg hk];simp
 | p::P,w::vs,i+1,m,nd,h1,h2,hk=>by
   unfold bindC;exact ra (Qy.mp nd).2 (by simpa using h1) (by simpa using h2) hk
noncomputable def start (N:List Str)(vs:List V):St:=vs.map some++List.replicate (N.length-vs.length) none
noncomputable def dY (CX:uH)(P:PU)(w:PM)(K:O0)(mg:Str->Option O3)(base:Heap)(N:List Str)(qual:Str)(j:Scope)(f:Addr)(cd:O3)(A:QE)(outer:List Env)(s:O8)(H:Hp)(E:XK):Cx where
 prog:=P
 w:=w
 K:=K
 mg:=mg
 base:=base
 A:=A.deeper (envOfC qual j s.heap.objs.size f cd)
 N:=N
 s₀:=s
 H₀:=H
 env:=envOfC qual j s.heap.objs.size f cd
 outer:=outer
 stack:=envOfC qual j s.heap.objs.size f cd::outer
 ex:=[]
 calm:=true
 fn:=λ_=>true
 pn:=[]
 xe:=λe s'=>wpAny (model P w) (A.deeper (envOfC qual j s.heap.objs.size f cd)) (leaving (envOfC qual j s.heap.objs.size f cd) e) (λ_ y=>CX outer H s E e y) (λB y=>CX outer H s E B y) s'
def ud {sc:Scope}(h:sc.names.lookup x=some .cell):∃c,(cellsFrom n sc.names []).lookup x=some c:=by
 have q:=PySem.W.cellsFrom_some sc.names n [] (.inl h);exact Option.isSome_iff_exists.mp q
def zT {K:O0}
 (S:fW N ps scope) (hd:A.handled=none) (j:nA P w K mg base A outer s H) (hl:vs.length=ps.length) (r:Vals vs us)
 (x:InCallC s s.heap.objs.size (bindL (envOfC qual scope s.heap.objs.size f cd).kindOf (ps.zip us) λ_=>none) (cellsFrom (s.heap.objs.size+1) scope.names []) (bindC (envOfC qual scope s.heap.objs.size f cd).kindOf (ps.zip us) λ_=>none) s1) :
 Inv (dY CX P w K mg base N qual scope f cd A outer s H E) [] (start N vs) H s1:=by
 have O:ps.length<=N.length:=by have:=congrArg List.length S.pre;rw[Qf] at this;omega
 obtain⟨h1,tk,rfl,hk⟩:=x.done;have F:∀b:Addr,b∉(dY CX P w K mg base N qual scope f cd A outer s H E).ex:=λb z=>absurd (show b∈([]:List Addr) from z) `s
 refine{{j.mod,S.kind,rfl,rfl,O4 _,λy z c h1 h2=>?_,λy B=>?_,λy c _ h=>?_,λ_=>hd,Around.frames_deeper j.frames,.inr ⟨rfl,rfl⟩,λb z=>absurd z (F b),j.bs,j.bsz,λb _ _=>F b,λb z=>absurd z (F b),j.funs,j.frf},
  rfl,j.bare,Un.kept hk,{_,x.toInCall.ns,λi y v h1 h2 h3=>?_},λy c h=>{_,x.cell y c h},j.hok.fresh (O4 _),λy c h=>?_,λp I=>absurd (show p∈([]:List (Addr×Obj)) from I) `s,j.hok.kept hk,?_}
 ·exact name_of_addr x.apart (Ro h1) (Ro h2)
 ·have B:=B;rcases B with B|B
  ·exact ud B
  ·exact absurd rfl (S.nofree _ (Ro B))
 ·exact Rf (x.above y c (Ro h))
 ·have hi:i<vs.length:=by
   unfold start at h2;by_cases hi:i<vs.length
   ·exact hi
   ·rw[Py (by simpa using hi)] at h2
    rw[Ra] at h2;split at h2<;>cases h2
  have M:vs[i]?=some v:=by
   unfold start at h2;rw[O9 (by simpa using hi),PZ] at h2
   cases e:vs[i]? with
   |none=>rw[e] at h2;cases h2
   |some a=>rw[e] at h2;cases h2;rfl
  obtain⟨u,L,R⟩:=r.get M;have I:ps[i]?=some y:=by
   rw[<- S.pre,List.getElem?_take_of_lt `a];exact h1
  have J:ps.Nodup:=by rw[<- S.pre];exact S.nd.sublist (List.take_sublist _ _)
  refine{u,R,?_};rcases S.par y (PF I) with k|k
  ·exact .inl {k,q8 J I L k}
  ·obtain⟨c,e⟩:=ud k;refine .inr {.inl k,c,e,?_};have q:=x.cell y c e;rw[ra J I L (by show scope.names.lookup y≠_;rw[k];decide)] at q
   exact q
 ·exact j.hok.fresh (Rf (x.above y c (Ro h)))
 ·unfold start;show _=N.length;rw[Pt,O7,QK];omega
def L8 {K:O0}{dV kV M pm j ct oc:O3}
 (lk:K.lookup f=some {oc,od,.func (PySem.W.fnOf name qual params body scope dV kV M pm an j ct),osl}) (Y:PySem.W.codeIn K j qual=true) (S:fW N ps scope)
 (len:∀vs H Q E,sp vs H Q E->vs.length=ps.length)
 (F:∀(A:QE) (outer:List Env) (s:O8) (H:Hp) (vs:List V) (Q:VK) (E:XK),b5 k (A.deeper (envOfC qual scope s.heap.objs.size f j))->sp vs H Q E->
  ∃t,j5 (dY CX P w K mg base N qual scope f j A outer s H E) body t/\t {nx:=λ_ H'=>Q .non H',rt:=Q} (start N vs) H) :
 jG P w K mg base CX (k+1) f (PySem.W.fnOf name qual params body scope dV kV M pm an j ct) ps sp:=by
 refine{len,λA outer s H args us vs Q E hr O hb r U=>?_};have hl:=len _ _ _ _ U;have KX:=O.mod.kin.keeps λb o e=>(O.bs b o e).1;have lim:=O.mod.nolimit.keeps λb o e=>(O.bs b o e).1;have L:∀y∈ps.zip us,scope.names.lookup y.1=some .local\/(scope.names.lookup y.1=some .cell/\((cellsFrom (s.heap.objs.size+1) scope.names []).lookup y.1).isSome=true):=λ⟨n,v⟩ hy=>by
  rcases S.par n (List.of_mem_zip hy).1 with q|q
  ·exact .inl q
  ·exact .inr {q,PySem.W.cellsFrom_some _ _ _ (.inl q)}
 refine codeAny_call_function hr.depth (KX _ _ lk) rfl S.co S.gen rfl (PySem.W.codeRec_of KX Y) (hb _ _ _ _ ?_);refine wpAny_newFunctionEnv_cells S.kind L λenv he s1 x=>?_;subst he;refine{lim.keeps x.toInCall.keep,codeAny_func ?_};obtain⟨t,ht,hq⟩:=F A outer s H vs Q E (hr.deeper _) U;have I:Inv (dY CX P w K mg base N qual scope f j A outer s H E) [] (start N vs) H s1:=zT S hr.hd O hl r x;refine wpAny_mono (ht [] s1 (start N vs) H _ I hq) (λfl s' hs=>?_) λe s' hs=>hs;have R:∀{B:St}{H':Hp}{v:V}{u:O3},Inv (dY CX P w K mg base N qual scope f j A outer s H E) [] B H' s'->RelV v u->Q v H'->CE outer P w H s Q u s':=
  λ{B H' v u} J rv q=>⟨v,H',J.os,J.bare,J.base,J.hok,rv,q⟩
 cases fl with
 | ret u=>
   obtain⟨v,B,H',J,rv,q⟩:=hs;exact R J rv q
 | next=>
   obtain⟨B,H',J,q⟩:=hs;exact R (v:=V.non) J rfl q
 | brk=>
   obtain⟨_,_,_,q⟩:=hs;exact False.elim q
 | cont=>
   obtain⟨_,_,_,q⟩:=hs;exact False.elim q
section
variable{X:Cx}{x:Str}{p pos:Pos}{e:Expr}{es:List Expr}{t:TA}{id T:String}{r:List V->Hp->VK->Prop}
def M8 (r:List V->Hp->VK->Prop)(t:TA):TE:=λσ H Q=>t σ H λj H1=>r j H1 Q
def eG (J:cb X (.builtin id) r)(L:Gl X x)(hm:X.mg x=none)(M:bootBuiltins x=some (.builtin id))(F:PA X (e::es) t)(hn:x≠"__name__":=by decide)(j:(x==("__debug__":Str))=false:=by decide)
 (he:starEach (e::es) X.env=(false,eval e X.env)::starEach es X.env:=by rfl) (y:(backTo pos (starEach es X.env)).any (·.1)=false:=by rfl):PE X (.Call (.Name x p) (e::es) [] pos) (M8 r t):=by
 intro pins s σ H Q I h;refine wpAny_Call_Name_kw (iT I L hm M ?_ hn j);exact PyProof.Rows.callWith_builtin1 (aQ (F pos pins s σ H _ I h) (by rintro R s1 ⟨S,H1,B,r1,O⟩;exact J pins s1 σ H1 S R Q B r1 O)) he y
def zc (J:cb X (.type T) r)(L:Gl X x)(hm:X.mg x=none)(M:bootBuiltins x=some (.type T))(F:PA X (e::es) t)(hn:x≠"__name__":=by decide)(j:(x==("__debug__":Str))=false:=by decide)
 (he:starEach (e::es) X.env=(false,eval e X.env)::starEach es X.env:=by rfl) (y:(backTo pos (starEach es X.env)).any (·.1)=false:=by rfl):PE X (.Call (.Name x p) (e::es) [] pos) (M8 r t):=by
 intro pins s σ H Q I h;refine wpAny_Call_Name_kw (iT I L hm M ?_ hn j);exact QR (aQ (F pos pins s σ H _ I h) (by rintro R s1 ⟨S,H1,B,r1,O⟩;exact J pins s1 σ H1 S R Q B r1 O)) he y
end
end L2
namespace HT
open PySem PyProof.Rows
section
variable{prog:PU}{w:PM}{A:QE}{E:O3->O8->Prop}{s:O8}
def G8 (Y:IsTup s.heap t vs.toArray)(U:IsTup s.heap b ws.toArray)(S:vs≠[])
 (h1:ws=[]->Q (.ref t) s) (h2:ws≠[]->Q (.ref s.heap.objs.size) {s with heap:=s.heap.push {cls:=.type "tuple",data:=.seq (vs++ws).toArray}})
 (hsz:vs.length+ws.length<=sizeLine):wpAny (model prog w) A (binaryOp .Add (.ref t) (.ref b)) Q E s:=by
 obtain⟨⟨cls,R,data,sl⟩,ho,W,n,hd⟩:=id Y;obtain⟨⟨O,y,J,B⟩,j,L,n2,M⟩:=id U;subst W hd L M;have e:vs.toArray++ws.toArray=(vs++ws).toArray:=`s
 by_cases I:ws=[]
 ·exact concat_meets {_,ho,rfl} {_,j,rfl} noFill_tuple_add seq_tuple_add PySem.F.slot_tuple_add PySem.F.entry_tuple_add (PySem.F.args_tuple_add_2 _ _)
   (tuple_addW1 t b vs.toArray ws.toArray n n2 R y sl B (by simpa using S) (by simp[I])) {ho,j,h1 I}
 ·refine concat_meets {_,ho,rfl} {_,j,rfl} noFill_tuple_add seq_tuple_add PySem.F.slot_tuple_add PySem.F.entry_tuple_add (PySem.F.args_tuple_add_2 _ _)
   (tuple_addW2 t b vs.toArray ws.toArray n n2 R y sl B (by simpa using S) (by simpa using I) (by rw[Pd,Pd];exact hsz)) {ho,j,?_}
  rw[e];exact h2 I
noncomputable def aK (n d:Nat):Option Int->Nat
 |none=>d
 |some v=>if v<0 then(v+(n:Int)).toNat else min v.toNat n
def v3 (v:Int)(n d:Nat):(if v<0 then max (v+(n:Int)) 0 else min v (n:Int))=((aK n d (some v):Nat):Int):=by
 show(if v<0 then max (v+(n:Int)) 0 else min v (n:Int))=(((if v<0 then(v+(n:Int)).toNat else min v.toNat n):Nat):Int);by_cases j:v<0
 ·simp only[if_pos j];omega
 ·simp only[if_neg j];omega
def xH (lo hi:Option Int)(n:Nat):Builtin.Slice.sliceAdjust lo hi 1 (n:Int)=(((aK n 0 lo:Nat):Int),((aK n n hi:Nat):Int)):=by
 refine Prod.ext ?_ ?_
 ·cases lo with
  |none=>rfl
  |some v=>exact v3 v n 0
 ·cases hi with
  |none=>rfl
  |some v=>exact v3 v n n
def wG (i j:Nat):Builtin.Slice.slicePlaces (i:Int) (j:Int) 1=j-i:=by
 unfold Builtin.Slice.slicePlaces;split<;>omega
def nK (p:IsPart v o)(h:Q o s):wpAny (model prog w) A (Builtin.Slice.slicePartIndex v) Q E s:=by
 cases p with
 |none=>exact slicePart_none h
 |int i t=>exact slicePart_int h
def iO {lo hi:Option Int}{Q:Int×Int×Nat->O8->Prop}(hs:s.heap.IsSliceOf sl vl vu .none)(pl:IsPart vl lo)(pu:IsPart vu hi)
 (h:Q (((aK n 0 lo:Nat):Int),1,aK n n hi-aK n 0 lo) s):wpAny (model prog w) A (Builtin.Slice.sliceApplied (.ref sl) (pure (n:Int))) Q E s:=by
 obtain⟨os,y,B,j⟩:=id hs;refine tqa (tqa (tqf y j rfl (tqa (tqf y j rfl (tqa (tqf y j rfl (tqb ?_)))))));refine tqa (slicePart_none ?_);rw[if_neg `d]
 refine tqa (nK pl (tqa (nK pu (tqa (tqb ?_)))));show wpAny _ _ (match Builtin.Slice.sliceAdjust lo hi 1 (n:Int) with|(lo,hi)=>pure (lo,(1:Int),Builtin.Slice.slicePlaces lo hi 1)) _ _ s
 rw[xH lo hi n];show wpAny _ _ (pure (((aK n 0 lo:Nat):Int),(1:Int),Builtin.Slice.slicePlaces ((aK n 0 lo:Nat):Int) ((aK n n hi:Nat):Int) 1)) _ _ s;rw[wG];exact tqb h
def BK (xs:Array O3)(i k:Nat):((List.range k).filterMap λ(m:Nat)=>xs[((i:Int)+(m:Int)*1).toNat]?).toArray=((xs.toList.drop i).take k).toArray:=by
 have e:(λ(m:Nat)=>xs[((i:Int)+(m:Int)*1).toNat]?)=λm=>xs[i+m]?:=by
  funext m
  have:((i:Int)+(m:Int)*1).toNat=i+m:=`a
  rw[this]
 rw[e];have:=pick_run xs i k;rw[List.filterMap_map] at this;have e2:((λx=>xs[x]?)∘λx=>i+x)=λm=>xs[i+m]?:=rfl;rw[e2] at this;rw[this]
def mC {lo hi:Option Int}(y:IsTup s.heap t items)(hs:s.heap.IsSliceOf sl vl vu .none)(pl:IsPart vl lo)(pu:IsPart vu hi)
 (M:¬ (aK items.size 0 lo=0/\aK items.size items.size hi=items.size))
 (h:Q (.ref s.heap.objs.size) {s with heap:=s.heap.push {cls:=.type "tuple",data:=.seq ((items.toList.drop (aK items.size 0 lo)).take (aK items.size items.size hi-aK items.size 0 lo)).toArray}})
 (hsz:items.size<=sizeLine):wpAny (model prog w) A (getItem (.ref t) (.ref sl)) Q E s:=by
 have j:sizeOk (.seq ((items.toList.drop (aK items.size 0 lo)).take (aK items.size items.size hi-aK items.size 0 lo)).toArray):=by
  show((items.toList.drop (aK items.size 0 lo)).take (aK items.size items.size hi-aK items.size 0 lo)).toArray.size<=sizeLine;rw[Pd,Qf,QL,Array.length_toList];omega
 obtain⟨os,J,F,L⟩:=id hs;have B:s.TypeIs (.ref sl) "slice":=⟨os,J,F⟩;unfold getItem;try with_reducible refine tqo ?_
 first|refine tqa (tqb ?_)|skip
 refine tqa (wpAny_sequenceKey y.typeIs `d ?_)
 refine tqa (wpAny_callSpecial?_slot y.typeIs P6
  (wpAny_call_entry P6 y.typeIs entry_tuple_getitem ?_ (args_tuple_getitem _ _)))
 show wpAny _ _ (Builtin.Tuple.tupleItemsOf (.ref t) >>= _) _ _ s;refine tqa (tupleItemsOf_ y ?_);refine tqa (wpAny_typeOf B ?_);rw[if_pos `d]
 refine tqa (iO hs pl pu ?_);have I:¬ ((((aK items.size 0 lo:Nat):Int)==0&&(1:Int)==1&&(aK items.size items.size hi-aK items.size 0 lo)==items.size)=true):=by
  intro q;rw[O2,O2] at q;have O:=eq_of_beq q.1.1;have R:=eq_of_beq q.2;exact M {`a,`a}
 show wpAny _ _ (if (((aK items.size 0 lo:Nat):Int)==0&&(1:Int)==1&&(aK items.size items.size hi-aK items.size 0 lo)==items.size)=true then _ else _) _ _ s;rw[if_neg I,BK];first
  |exact tqa (wpAny_newObj_type (tqb {_,rfl,tqb h}) j)
  |exact tqa (wpAny_newObj_type (tqa (tqb (tqb {_,rfl,tqb h}))) j)
  |exact tqa (tqa (wpAny_newObj_type (tqb (tqb {_,rfl,tqb h})) j))
  |exact tqa (tqa (wpAny_newObj_type (tqb {_,rfl,tqb h}) j))
end
end HT
namespace L2
open PySem PySem.Spec PyProof.Rows
abbrev TO:=St->Hp->(Option Int->Hp->Prop)->Prop
def PO (X:Cx)(e:Option Expr)(t:TO):Prop:=
 ∀(pins:List (Addr×Obj)) (s:O8) (σ:St) (H:Hp) (Q:Option Int->Hp->Prop),Inv X pins σ H s->t σ H Q->
  wpAny (model X.prog X.w) X.A (evalPart e X.env) (λu s'=>∃o H',Inv X pins σ H' s'/\IsPart u o/\Q o H') X.xe s
def Ff:TO:=λ_ H Q=>Q none H
def Ll (t:TE):TO:=λσ H Q=>t σ H λx H1=>∃i,x=.int i/\Q (some i) H1
section
variable{X:Cx}{e:Expr}{te:TE}{lo hi:Option Expr}{tl th:TO}{pos p2:Pos}
def FT:PO X none Ff:=by
 intro pins s σ H Q I h;rw[evalPart_none];exact tqb {none,H,I,.none,h}
def FR (h:PE X e te):PO X (some e) (Ll te):=by
 intro pins s σ H Q I y;rw[evalPart_some];refine aQ (h pins s σ H _ I y) ?_;rintro u s1 ⟨x,H1,j,r1,B⟩;obtain⟨i,rfl,q⟩:=B;obtain⟨t,rfl⟩:=r1;exact{some i,H1,j,.int i t,q}
def kU (X:Cx)(r:V->Option Int->Option Int->Hp->VK->Prop):Prop:=
 ∀(pins:List (Addr×Obj)) (s:O8) (σ:St) (H:Hp) (x:V) (v j y:O3) (lo hi:Option Int) (sl:Addr) (Q:VK),Inv X pins σ H s->RelV x v->s.heap.IsSliceOf sl j y .none->IsPart j lo->IsPart y hi->r x lo hi H Q->
  ∃T id,typeLookup (.type T) "__getitem__"=pure (some (.builtin id))/\s.TypeIs v T/\wpAny (model X.prog X.w) X.A (getItem v (.ref sl)) (EP X pins σ Q) X.xe s
def kU.or (h:kU X r)(h':kU X r'):kU X (λx lo hi H Q=>r x lo hi H Q\/r' x lo hi H Q):=by
 intro pins s σ H x v y B lo hi sl Q I j hs pl pu q;rcases q with q|q
 ·exact h pins s σ H x v y B lo hi sl Q I j hs pl pu q
 ·exact h' pins s σ H x v y B lo hi sl Q I j hs pl pu q
def tSl (r:V->Option Int->Option Int->Hp->VK->Prop)(te:TE)(tl th:TO):TE:=λσ H Q=>te σ H λx H1=>tl σ H1 λl H2=>th σ H2 λu j=>r x l u j Q
def sI (hr:kU X r)(he:PE X e te)(hl:PO X lo tl)(W:PO X hi th):PE X (.Subscript e (.Slice lo hi none p2) pos) (tSl r te tl th):=by
 intro pins s σ H Q I h;refine Subscript_ (aQ (he pins s σ H _ I h) λv s1 ⟨x,H1,J,r1,Y⟩=>?_);refine wpAny_Slice (aQ (hl pins s1 σ H1 _ J Y) λy s2 ⟨l,H2,L,pl,q2⟩=>aQ (W pins s2 σ H2 _ L q2) λB j ⟨u,F,M,pu,q3⟩=>?_);rw[evalPart_none];refine tqb ?_;have O:Inv X pins σ F {j with heap:=j.heap.push {cls:=.type "slice",data:=.fields #[y,B,.none]}}:=M.kept λb ob q=>O5 _ q
 obtain⟨T,id,R,U,S⟩:=hr pins {j with heap:=j.heap.push {cls:=.type "slice",data:=.fields #[y,B,.none]}} σ F x v y B l u j.heap.objs.size Q O r1 (Heap.IsSliceOf.new ..) pl pu q3
 exact tail_any U R S (by with_unfolding_all rfl)
def pX (xs:List V)(lo hi:Option Int):List V:=(xs.drop (HT.aK xs.length 0 lo)).take (HT.aK xs.length xs.length hi-HT.aK xs.length 0 lo)
def mD (xs:List V)(lo hi:Option Int):(pX xs lo hi).length<=xs.length:=by
 unfold pX;rw[Qf,QL];omega
def IB (K:O0):V->Option Int->Option Int->Hp->VK->Prop:=λx lo hi H Q=>∃a xs,x=.ref a/\c8 K H a xs/\
 ¬ (HT.aK xs.length 0 lo=0/\HT.aK xs.length xs.length hi=xs.length)/\∀p,H p=none->Q (.ref p) (upd H p (.tup (pX xs lo hi)))
def HW:kU X (IB X.K):=by
 intro pins s σ H x v O R lo hi sl Q I M hs pl pu h;obtain⟨a,xs,rfl,L,J,q⟩:=h;cases M;obtain⟨y,r,B,F⟩:=I.tuple L;have j:y.toArray.size=xs.length:=by rw[Pd];exact r.length.symm
 refine{"tuple",_,P6.lookup,B.typeIs,?_};refine HT.mC B hs pl pu (by rw[j];exact J) ?_ (by rw[j];exact F)
 rw[j];refine{.ref s.heap.objs.size,_,I.laid (λb ob q=>O5 _ q) (O4 _) ?_,rfl,q _ (I.hok.fresh (O4 _))};exact{Pk (mD xs lo hi) F,_,(r.drop (HT.aK xs.length 0 lo)).take (HT.aK xs.length xs.length hi-HT.aK xs.length 0 lo),IsTup.new _ _}
def LB (K:O0):R2:=λx y H Q=>∃a b xs ys,x=.ref a/\y=.ref b/\c8 K H a xs/\c8 K H b ys/\xs≠[]/\xs.length+ys.length<=sizeLine/\
 (ys=[]->Q (.ref a) H)/\(ys≠[]->∀p,H p=none->Q (.ref p) (upd H p (.tup (xs++ys))))
def Vals.nil_iff (r:Vals xs us):us=[]↔xs=[]:=by
 cases r with
 |nil=>simp
 |cons _ _=>simp
def FZ:bN X (binaryOp .Add) (LB X.K):=by
 intro pins s σ H x y v u Q I S U h;obtain⟨a,b,xs,ys,rfl,rfl,F,J,L,j,O,R⟩:=h;cases S;cases U;obtain⟨M,r1,p1,_⟩:=I.tuple F;obtain⟨B,r2,p2,_⟩:=I.tuple J;refine HT.G8 p1 p2 (λz=>L (r1.nil_iff.mp z)) (λz=>{.ref a,H,I,rfl,O (r2.nil_iff.mp z)}) (λz=>?_) (by rw[<- r1.length,<- r2.length];exact j)
 refine{.ref s.heap.objs.size,_,I.laid (λb ob q=>O5 _ q) (O4 _) ?_,rfl,R (λw=>z (r2.nil_iff.mpr w)) _ (I.hok.fresh (O4 _))};exact{by rw[Pt];exact j,_,r1.append r2,IsTup.new _ _}
end
def bO (n:Nat)(i:Int):Option Nat:=if 0<=i then(if i<n then some i.toNat else none) else if -(n:Int)<=i then some (i+n).toNat else none
def rg {y:Type}(xs:List y)(i:Int):Option y:=(bO xs.length i).bind λj=>xs[j]?
def vF {n:Nat}{i:Int}{j:Nat}(h:bO n i=some j):seqIndex? i n=some j/\j<n/\-(n:Int)<=i/\i<n:=by
 unfold bO at h;by_cases y:0<=i
 ·rw[if_pos y] at h;by_cases h1:i<n
  ·rw[if_pos h1] at h;have e:=Ph h;exact{by rw[seqIndex_of y h1,e],`a,`a,h1}
  ·rw[if_neg h1] at h;cases h
 ·rw[if_neg y] at h;by_cases h1:-(n:Int)<=i
  ·rw[if_pos h1] at h;have e:=Ph h;exact{by rw[seqIndex_neg `a h1,e],`a,h1,`a}
  ·rw[if_neg h1] at h;cases h
def qg {y:Type}{xs:List y}{i:Int}{v:y}(h:rg xs i=some v):∃j,seqIndex? i xs.length=some j/\xs[j]?=some v/\j<xs.length/\-(xs.length:Int)<=i/\i<xs.length:=by
 unfold rg at h;cases e:bO xs.length i with
 |none=>rw[e] at h;cases h
 | some j=>
   rw[e] at h;obtain⟨h1,h2,h3,h4⟩:=vF e;exact⟨j,h1,h,h2,h3,h4⟩
def iM (b:Expr):Prop:=∀o i,subscripted b false o i=operate [o,i] (getItem o i)
def ju (X:Cx)(r:R2):Prop:=
 ∀(value j:Expr) (pins:List (Addr×Obj)) (s:O8) (σ:St) (H:Hp) (x y:V) (v u:O3) (Q:VK),Inv X pins σ H s->RelV x v->RelV y u->r x y H Q->
  subscripted j false v u=operate [v,u] (getItem v u)->wpAny (model X.prog X.w) X.A (subscriptTail value j v u) (EP X pins σ Q) X.xe s
def K1 (X:Cx)(id:String)(r:V->List V->Hp->VK->Prop):Prop:=
 ∀(pins:List (Addr×Obj)) (s:O8) (σ:St) (H:Hp) (x:V) (xs:List V) (v:O3) (j:List O3) (Q:VK),Inv X pins σ H s->RelV x v->Vals xs j->r x xs H Q->
  wpAny (model X.prog X.w) X.A (call (.builtin id) (v::j)) (EP X pins σ Q) X.xe s
section
variable{X:Cx}{a b:Expr}{ta tb:TE}{pos:Pos}
def ju.or (h:ju X r)(h':ju X r'):ju X (λx y H Q=>r x y H Q\/r' x y H Q):=by
 intro value j pins s σ H x y v u Q I B F q hs;rcases q with q|q
 ·exact h value j pins s σ H x y v u Q I B F q hs
 ·exact h' value j pins s σ H x y v u Q I B F q hs
def wH (hr:ju X r)(B:PE X a ta)(F:PE X b tb)(hs:iM b):PE X (.Subscript a b pos) (yD r ta tb):=by
 intro pins s σ H Q I h;exact Subscript_ (CN B F I h λv u s2 x y H2 j J L q=>hr a b pins s2 σ H2 x y v u Q j J L q (hs _ _))
def IG (K:O0):R2:=λx y H Q=>∃p xs i v,x=.ref p/\y=.int i/\cz K H p xs/\rg xs i=some v/\Q v H
def IE (K:O0):R2:=λx y H Q=>∃p xs i v,x=.ref p/\y=.int i/\c8 K H p xs/\rg xs i=some v/\Q v H
def IF:R2:=λx y H Q=>∃z i c,x=.str z/\y=.int i/\z.length<=sizeLine/\rg z.cps.toList i=some c/\Q (.str {#[c]}) H
def Gn:ju X (IG X.K):=by
 intro value M pins s σ H x y v u Q I W Y h hs;obtain⟨p,xs,i,z,rfl,rfl,U,he,q⟩:=h;cases W;obtain⟨t,rfl⟩:=Y;obtain⟨J,r,pl,hz⟩:=I.list U;obtain⟨j,h1,h2,h3,h4,S⟩:=qg he;obtain⟨w,O,L⟩:=r.get h2;have hl:=r.length;have hn:=iS;have B:EP X pins σ Q w s:=⟨z,H,I,L,q⟩;by_cases R:0<=i
 ·have F:i.toNat=j:=by
   rw[seqIndex_of R S] at h1;exact Ph h1
  exact item_listR pl.isList R `a (by rw[F];simpa using O) B hs
 ·have F:(i+(J.toArray.size:Int)).toNat=j:=by
   rw[seqIndex_neg `a h4] at h1
   rw[Pd,<- hl];exact Ph h1
  exact subscriptTail_builtinR pl.isList.typeIs slot_list_getitem.lookup
   (wpAny_getItem_list_neg pl.isList `a (by rw[Pd]<;>omega) `a (by rw[F];simpa using O) ⟨rfl,B⟩) hs
def JS:ju X (IE X.K):=by
 intro value J pins s σ H x y v u Q I R S h hs;obtain⟨p,xs,i,z,rfl,rfl,M,he,q⟩:=h;cases R;obtain⟨t,rfl⟩:=S;obtain⟨O,r,pl,W⟩:=I.tuple M;obtain⟨j,h1,h2,h3,h4,U⟩:=qg he;obtain⟨w,L,F⟩:=r.get h2;have hl:=r.length;have hn:=iS;have B:EP X pins σ Q w s:=⟨z,H,I,F,q⟩;exact subscriptTail_builtinR pl.typeIs slot_tuple_getitem.lookup
  (getItem_tuple pl `a `a (by rw[Pd,<- hl];exact h1) (by simpa using L) ⟨rfl,B⟩) hs
def JT:ju X IF:=by
 intro value B pins s σ H x y v u Q I J L h hs;obtain⟨z,i,c,rfl,rfl,M,he,q⟩:=h;obtain⟨t,rfl⟩:=J;obtain⟨O,rfl⟩:=L;obtain⟨j,h1,h2,h3,h4,F⟩:=qg he;have hl:z.cps.toList.length=z.length:=by simp[Str.length]
 rw[hl] at h1 h4 F;have hn:=iS;exact tail_any (typeIs_str s z t) slot_str_getitem.lookup (getItem_str (by
  have e1:decide (i < -(2^63:Int))=false:=decide_eq_false `a
  have e2:decide (i≥2^63)=false:=decide_eq_false `a
  rw[e1,e2,Bool.or_false]) (by rw[h1];simpa using h2) {.str {#[c]},H,I.tok _,{_,rfl},q}) hs
def IH (K:O0):R2:=λx y H Q=>IG K x y H Q\/IE K x y H Q\/IF x y H Q
def JU:ju X (IH X.K):=Gn.or (JS.or JT)
def wV (its:List O3)(n j:Nat)(u:O3):Obj.mapSeq (·.setIfInBounds j u) {cls:=.type "list",data:=.seq its.toArray n}={cls:=.type "list",data:=.seq (its.set j u).toArray n}:=by
 simp[Obj.mapSeq]
def Inv.lst (I:Inv X pins σ H s)(h:H p=some (.lst xs)) :
 ∃(j:List O3) (n:Nat),Vals xs j/\s.heap.get? p=some {cls:=.type "list",data:=.seq j.toArray n}/\xs.length<=sizeLine:=by
 obtain⟨z,j,n,r,e⟩:=I.hok p _ h;exact⟨j,n,r,e,z⟩
def Inv.lstUpd {pins:List (Addr×Obj)}{σ:St}{H:Hp}{s:O8}{p:Addr}{xs ys:List V}{j its':List O3}{n n':Nat}{f:Obj->Obj}(I:Inv X pins σ H s)(h:H p=some (.lst xs))
 (ho:s.heap.get? p=some {cls:=.type "list",data:=.seq j.toArray n}) (hf:f {cls:=.type "list",data:=.seq j.toArray n}={cls:=.type "list",data:=.seq its'.toArray n'}) (r:Vals ys its') (hz:ys.length<=sizeLine) (t:Nat) :
 Inv X pins σ (upd H p (.lst ys)) {s with heap:=s.heap.update p f,toks:=t}:=by
 have e:(s.heap.update p f).get? p=some {cls:=.type "list",data:=.seq its'.toArray n'}:=by
  rw[QB f ho (by rw[hf]<;>rfl),hf]
 refine I.write (by rw[h];trivial) (.inl rfl) (λb u y q=>(Qh _ _ (Qi y)).trans q) {_,e} ?_
 exact⟨hz,its',n',r,e⟩
def Dy:V->V->V->Hp->(Hp->Prop)->Prop:=λo i v H Q=>∃p xs k j,o=.ref p/\i=.int k/\H p=some (.lst xs)/\bO xs.length k=some j/\Q (upd H p (.lst (xs.set j v)))
def set_list:CW X Dy:=by
 intro pins s σ H o i v U S u Q I ro O R h;obtain⟨p,xs,k,j,rfl,rfl,J,L,q⟩:=h;cases ro;obtain⟨t,rfl⟩:=O;obtain⟨y,n,r,ho,M⟩:=I.lst J;obtain⟨h1,h2,h3,h4⟩:=vF L;have hl:=r.length;have hn:=iS;have B:Inv X pins σ (upd H p (.lst (xs.set j v))) {s with heap:=s.heap.update p (Obj.mapSeq (·.setIfInBounds j u))}:=
  I.lstUpd J ho (wV y n j u) (r.set R j) (by rw[List.length_set];exact M) s.toks
 by_cases F:0<=k
 ·have hk:k.toNat=j:=by
   rw[seqIndex_of F h4] at h1;exact Ph h1
  exact PySem.W.ki_setAt ho F `a (by rw[Pd,<- hl];exact h4) (by rw[hk];exact{_,B,q})
 ·have hk:(k+(y.toArray.size:Int)).toNat=j:=by
   rw[seqIndex_neg `a h3] at h1
   rw[Pd,<- hl];exact Ph h1
  exact PySem.W.ki_setBack ho `a (by rw[Pd,<- hl];exact h3) `a (by rw[hk];exact{_,B,q})
def so (lo hi:Option Int)(n:Nat):(sliceBounds lo hi none n).1=((HT.aK n 0 lo:Nat):Int)/\(sliceBounds lo hi none n).2.1=((HT.aK n n hi:Nat):Int)/\(sliceBounds lo hi none n).2.2=1:=by
 refine{?_,?_,rfl}
 ·cases lo with
  |none=>simp[sliceBounds,HT.aK]
  | some i=>
    simp only[sliceBounds,HT.aK,Option.getD_none,show(1:Int) > 0 by decide,if_true]
    by_cases h:i<0
    ·simp only[h,if_true]<;>omega
    ·simp only[h,if_false]<;>omega
 ·cases hi with
  |none=>simp[sliceBounds,HT.aK]
  | some i=>
    simp only[sliceBounds,HT.aK,Option.getD_none,show(1:Int) > 0 by decide,if_true]
    by_cases h:i<0
    ·simp only[h,if_true]<;>omega
    ·simp only[h,if_false]<;>omega
def rA (j:List O3)(lo hi:Option Int):slicePick j.toArray lo hi none=((j.drop (HT.aK j.length 0 lo)).take (HT.aK j.length j.length hi-HT.aK j.length 0 lo)).toArray:=by
 obtain⟨h1,h2,h3⟩:=so lo hi j.toArray.size;unfold slicePick;rw[h1,h2,h3];simp only[sliceRange_one,pick_run,Pd]<;>rfl
def IC (K:O0):V->Option Int->Option Int->Hp->VK->Prop:=λx lo hi H Q=>∃a xs,x=.ref a/\cz K H a xs/\∀p,H p=none->Q (.ref p) (upd H p (.lst (pX xs lo hi)))
def Fs:kU X (IC X.K):=by
 intro pins s σ H x v M O lo hi sl Q I L hs pl pu h;obtain⟨a,xs,rfl,B,q⟩:=h;cases L;obtain⟨J,r,y,F⟩:=I.list B;have j:=r.length;refine{"list",_,slot_list_getitem.lookup,y.isList.typeIs,?_};refine wpAny_getItem_list_slice y.isList hs pl pu .none `s ?_ (by rw[Pd]<;>omega)
 rw[rA,<- j];refine{.ref s.heap.objs.size,_,I.laid (λb ob q=>O5 _ q) (O4 _) ?_,rfl,q _ (I.hok.fresh (O4 _))};exact{Pk (mD xs lo hi) F,_,0,(r.drop (HT.aK xs.length 0 lo)).take (HT.aK xs.length xs.length hi-HT.aK xs.length 0 lo),PD _ rfl}
def uh:cb X (.builtin "len") (λxs H Q=>∃p ys,xs=[.ref p]/\(cz X.K H p ys\/c8 X.K H p ys)/\Q (.int ys.length) H):=by
 intro pins s σ H xs M Q I r h;obtain⟨p,ys,rfl,y,q⟩:=h;obtain⟨u,rfl,L⟩:=vals1 r;cases L;have hn:=iS;rcases y with y|y
 ·obtain⟨B,F,pl,J⟩:=I.list y;have j:=F.length;exact Calls.call_len_list pl.isList (by simp only[Pd]<;>omega) {.int ys.length,H,I.tok _,{s.toks+1,by rw[Pd,j]},q}
 ·obtain⟨B,F,pl,J⟩:=I.tuple y;have j:=F.length;exact len_tuple pl (by simp only[Pd]<;>omega) {.int ys.length,H,I.tok _,{s.toks+1,by rw[Pd,j]},q}
def ug:cb X (.builtin "len") (λxs H Q=>∃z,xs=[.str z]/\z.length<=sizeLine/\Q (.int z.length) H):=by
 intro pins s σ H xs y Q I r h;obtain⟨z,rfl,j,q⟩:=h;obtain⟨u,rfl,t,rfl⟩:=vals1 r;have hn:=iS;exact len_str `a {.int z.length,H,I.tok _,{_,rfl},q}
def cb.or (h:cb X f r)(h':cb X f r'):cb X f (λxs H Q=>r xs H Q\/r' xs H Q):=by
 intro pins s σ H xs j Q I rs q;rcases q with q|q
 ·exact h pins s σ H xs j Q I rs q
 ·exact h' pins s σ H xs j Q I rs q
def uf:cb X (.type "list") (λxs H Q=>∃p ys,xs=[.ref p]/\(cz X.K H p ys\/c8 X.K H p ys)/\∀l,H l=none->Q (.ref l) (upd H l (.lst ys))):=by
 intro pins s σ H xs S Q I r h;obtain⟨p,ys,rfl,L,q⟩:=h;obtain⟨u,rfl,R⟩:=vals1 r;cases R;have F:∀(j:List O3),Vals ys j->ys.length<=sizeLine->∀(h':Heap) (y:Nat),(∀b o',s.heap.get? b=some o'->h'.get? b=some o')->
  h'.get? s.heap.objs.size=some {cls:=.type "list",dict:=none,data:=.seq j.toArray y,slots:=#[]}->EP X pins σ Q (.ref s.heap.objs.size) {s with heap:=h'}:=λj B M h' y kp e=>
  {.ref s.heap.objs.size,_,I.laid kp (O4 _) (show dF X.prog X.w _ h' _ (.lst ys) from⟨M,j,y,B,e⟩),rfl,q _ (I.hok.fresh (O4 _))}
 rcases L with L|L
 ·obtain⟨j,B,pl,M⟩:=I.list L;have J:=B.length;obtain⟨o,ho,O,n,hd⟩:=pl.isList;exact call_list_seq p (.inl rfl) ho O hd (λh' y kp e=>F j B M h' y kp e) (by simp only[Pd]<;>omega)
 ·obtain⟨j,B,pl,M⟩:=I.tuple L;have J:=B.length;obtain⟨o,ho,O,n,hd⟩:=pl;exact call_list_seq p (.inr rfl) ho O hd (λh' y kp e=>F j B M h' y kp e) (by simp only[Pd]<;>omega)
def rC:cb X (.type "tuple") (λxs H Q=>∃p ys,xs=[.ref p]/\((cz X.K H p ys/\∀l,H l=none->Q (.ref l) (upd H l (.tup ys)))\/(c8 X.K H p ys/\Q (.ref p) H))):=by
 intro pins s σ H xs R Q I r h;obtain⟨p,ys,rfl,h⟩:=h;obtain⟨u,rfl,O⟩:=vals1 r;cases O;rcases h with⟨y,q⟩|⟨y,q⟩
 ·obtain⟨j,B,pl,L⟩:=I.list y;have J:=B.length;refine call_tuple_list pl.isList (λh' kp=>?_) (by simp only[Pd]<;>omega)
  have F:=I.kept (t':=s.toks) kp;have M:Inv X pins σ (upd H h'.objs.size (.tup ys)) {s with heap:=h'.push {cls:=.type "tuple",data:=.seq j.toArray}}:=
   F.laid (λb o e=>O5 _ e) (O4 _) ({L,j,B,IsTup.new _ _})
  exact{.ref h'.objs.size,_,M,rfl,q _ (F.hok.fresh (O4 _))}
 ·obtain⟨j,B,pl,L⟩:=I.tuple y;exact call_tuple_same pl {.ref p,H,I,rfl,q}
def MV (K:O0)(T:String)(x:V)(H:Hp):Prop:=match x with
 |.str _=>T="str"
 |.int _=>T="int"
 |.ref p=>(T="list"/\∃xs,cz K H p xs)\/(T="tuple"/\∃o,K.lookup p=some o/\o.cls=.type "tuple"/\o.dict=none)\/
  (T="dict"/\((∃kvs,H p=some (.dK kvs))\/(∃kvs,H p=some (.dT kvs))\/∃es,H p=some (.dn es)))\/(T="set"/\∃S n,H p=some (.set S n))
 |_=>False
def HK (I:Inv X pins σ H s)(r:RelV x v)(ty:MV X.K T x H) :
 s.TypeIs v T/\∀a,v=.ref a->∃ob,s.heap.get? a=some ob/\ob.dict=none:=by
 cases x with
 | str z=>
   obtain⟨t,rfl⟩:=r;cases (ty);exact{typeIs_str s z t,λ_ e=>nomatch e}
 | int i=>
   obtain⟨t,rfl⟩:=r;cases (ty);exact{typeIs_int s i t,λ_ e=>nomatch e}
 | ref p=>
   cases r;rcases ty with⟨rfl,xs,B⟩|⟨rfl,o,hk,y,hd⟩|⟨rfl,hk⟩|⟨rfl,S,n,hk⟩
   ·obtain⟨F,_,pl,_⟩:=I.list B;refine{pl.isList.typeIs,λa e=>?_};cases e;obtain⟨o,n,e,c,hd,_⟩:=pl;exact⟨o,e,hd⟩
   ·refine{{o,I.kIn p o hk,y},λa e=>?_};cases e;exact{o,I.kIn _ o hk,hd}
   ·have z:∃o,s.heap.get? p=some o/\o.ExactDict:=by
     rcases hk with⟨j,hk⟩|⟨j,hk⟩|⟨es,hk⟩
     rotate_left 2
     ·obtain⟨_,_,o,e,ex,_⟩:=I.hok p _ hk;exact⟨o,e,ex⟩
     ·obtain⟨_,_,_,_,o,_,_,e,ex,_⟩:=I.hok p _ hk;exact⟨o,e,ex⟩
     ·obtain⟨_,_,_,_,o,_,_,e,ex,_⟩:=I.hok p _ hk;exact⟨o,e,ex⟩
    obtain⟨o,e,ex⟩:=z;refine{⟨o,e,ex.1⟩,λa e2=>?_};cases e2;exact⟨o,e,ex.2.1⟩
   ·obtain⟨o,_,_,_,e,ex,_⟩:=I.hok p _ hk;refine{⟨o,e,ex.1⟩,λa e2=>?_};cases e2;exact⟨o,e,ex.2.1⟩
 |_=>exact False.elim ty
def tBM (K:O0)(T:String)(r:V->List V->Hp->VK->Prop)(to:TE)(t:TA):TE:=λσ H Q=>to σ H λx H1=>MV K T x H1/\t σ H1 λxs H2=>r x xs H2 Q
variable{o e:Expr}{es:List Expr}{to:TE}{t:TA}{name:Str}{apos cpos:Pos}{T id:String}{r:V->List V->Hp->VK->Prop}
def rG (S:PlainAttrs T)(slot:Slot T name id)(J:typeOf (.builtin id)=pure (.type "method_descriptor"))(hm:K1 X id r)(ho:PE X o to)(R:PA X (e::es) t)
 (y:attributeBase o name X.env (eval o X.env)=eval o X.env:=by rfl)
 (F:((backTo cpos (starEach (e::es) X.env)).all (λx=>!x.1)&&(backToKw cpos (keywordEach [] X.env)).all (λx=>x.1.isSome)
  && decide ((e::es).length+([]:List Keyword).length+(if ([]:List Keyword).isEmpty then 0 else 1)<30))=true:=by rfl)
 (B:(apos.endLine==cpos.line)=true:=by rfl) (hs:starEach (e::es) X.env=(false,eval e X.env)::starEach es X.env:=by rfl) (j:(backTo cpos (starEach es X.env)).any (·.1)=false:=by rfl) :
 PE X (.Call (.Attribute o name apos) (e::es) [] cpos) (tBM X.K T r to t):=by
 intro pins s σ H Q I h;refine wpAny_Call_method_late y F B rfl (aQ (ho pins s σ H _ I h) λv s1 ⟨x,H1,L,r1,ty,U⟩=>?_);obtain⟨h1,h2⟩:=HK L r1 ty;refine{T,id,S,slot,J,h1,h2,?_};have M:=R cpos pins s1 σ H1 _ L U;rw[hs] at M ⊢;refine Calls.callWith_builtin (by show(false||(backTo cpos (starEach es X.env)).any (·.1))=false;rw[j]<;>rfl) (Calls.evalArgs_plain ?_)
 exact aQ M (by rintro Y s2 ⟨vs,H2,O,r2,W⟩;exact hm pins s2 σ H2 x vs v Y Q O r1 r2 W)
end
def MtM (X:Cx)(id:String)(r:V->List V->Hp->VK->Prop):Prop:=
 ∀(pins:List (Addr×Obj)) (s:O8) (σ:St) (H:Hp) (x:V) (xs:List V) (v:O3) (j:List O3) (Q:VK),Inv X pins σ H s->RelV x v->Vals xs j->r x xs H Q->
  wpAny (model X.prog X.w) X.A (call (.builtin id) (v::j)) (EP X pins σ Q) X.xe s
def Vals.one:∀{x:V}{us:List O3},Vals [x] us->∃u,us=[u]/\RelV x u
 |_,_,.cons r .nil=>{_,rfl,r}
noncomputable def Vals.rep (h:Vals xs us):∀k:Nat,Vals (List.replicate k xs).flatten (List.replicate k us).flatten
 |0=>.nil
 | k+1=>by
   rw[QP,QP,Ri,Ri];exact Vals.append h (Vals.rep h k)
theorem foldl_rep (j:List O3):∀(k:Nat) (acc:List O3),
 List.foldl (λx1 x2=>x1++x2) acc.toArray (List.replicate k j.toArray)=(acc++(List.replicate k j).flatten).toArray
 |0,acc=>`s
 | k+1,acc=>by
   have e:acc.toArray++j.toArray=(acc++j).toArray:=`s
   have e2:(acc++j)++(List.replicate k j).flatten=acc++(List.replicate (k+1) j).flatten:=by
    rw[QP,Ri,Qv]
   rw[<- e2,<- foldl_rep j k (acc++j),<- e,QP,List.foldl_cons]
section
variable{X:Cx}{pins:List (Addr×Obj)}{σ:St}{H:Hp}{s:O8}{l b:Addr}{xs ys zs:List V}
def Inv.lset {j its':List O3}(I:Inv X pins σ H s)(y:H l=some (.lst xs))
 (e:s.heap.get? l=some {cls:=.type "list",data:=.seq j.toArray n}) (hf:f j.toArray=its'.toArray) (J:Vals ys its') (hz:ys.length<=sizeLine) :
 Inv X pins σ (upd H l (.lst ys)) {s with heap:=s.heap.update l (Obj.mapSeq f),toks:=t'}:=by
 have q:=PySem.IsL.update e f;rw[hf] at q;refine I.write (by rw[y];exact trivial) (.inl rfl) (λL u B F=>(Qh s.heap (Obj.mapSeq f) (Qi B)).trans F) {_,q} ?_
 exact{hz,its',_,J,q}
def Inv.lnew (I:Inv X pins σ H s)(j:Vals ys its)(hz:ys.length<=sizeLine) :
 Inv X pins σ (upd H s.heap.objs.size (.lst ys)) {s with heap:=s.heap.push {cls:=.type "list",data:=.seq its.toArray},toks:=t'}:=
 I.laid (λ_ _ q=>O5 _ q) (O4 _) {hz,its,0,j,PD _ rfl}
def Inv.fresh (I:Inv X pins σ H s):H s.heap.objs.size=none:=I.hok.fresh (O4 _)
def Inv.lstM (I:Inv X pins σ H s)(y:H l=some (.lst xs)):xs.length<=sizeLine/\∃(j:List O3) (n:Nat),Vals xs j/\xs.length=j.length/\s.heap.get? l=some {cls:=.type "list",data:=.seq j.toArray n}:=by
 obtain⟨z,j,n,r,e⟩:=I.hok l _ y;exact⟨z,j,n,r,r.length,e⟩
def BU (h:n<=sizeLine):Builtin.List.listTooLong n=false:=by
 exact decide_eq_false `a
end
section
variable{X:Cx}
def FJ:V->List V->Hp->VK->Prop:=λx j H Q=>∃l xs y,x=.ref l/\j=[y]/\H l=some (.lst xs)/\xs.length<sizeLine/\Q .non (upd H l (.lst (xs++[y])))
def lz:MtM X "list.append" FJ:=by
 intro pins s σ H x S v R Q I M L h;obtain⟨l,xs,y,rfl,rfl,B,O,q⟩:=h;cases M;obtain⟨u,rfl,J⟩:=L.one;obtain⟨z,j,n,r,hl,e⟩:=I.lstM B;refine call_meets F.slot_list_append {_,e,rfl} F.entry_list_append (F.args_list_append_2 _ _) (PySem.list_append l j.toArray n u (by rw[Pd];omega)) {e,?_}
 refine{.non,_,I.lset B e `s (r.append (.cons J .nil)) ?_,rfl,q}
 rw[Pt,QJ];omega
def N0:R2:=λx y H Q=>∃l b xs zs,x=.ref l/\y=.ref b/\H l=some (.lst xs)/\H b=some (.lst zs)/\xs.length+zs.length<=sizeLine/\∀p,H p=none->Q (.ref p) (upd H p (.lst (xs++zs)))
def Jg:bN X (binaryOp .Add) N0:=by
 intro pins s σ H x y v u Q I M O h;obtain⟨l,b,xs,zs,rfl,rfl,J,F,R,q⟩:=h;cases M;cases O;obtain⟨z,B,n,r,hl,e⟩:=I.lstM J;obtain⟨S,j,n2,r2,L,e2⟩:=I.lstM F;refine PySem.P.add_list e e2 ?_ (by rw[Pd,Pd];omega)
 have ea:B.toArray++j.toArray=(B++j).toArray:=`s
 rw[ea];exact{.ref _,_,I.lnew (r.append r2) (by rw[Pt];omega),rfl,q _ I.fresh}
def NY:R2:=λx y H Q=>∃l k xs,x=.ref l/\y=.int k/\H l=some (.lst xs)/\-(2^63)<=k/\k<2^63/\xs.length*k.toNat<=sizeLine/\
 ∀p,H p=none->Q (.ref p) (upd H p (.lst (List.replicate k.toNat xs).flatten))
def len_rep {y:Type}(xs:List y)(k:Nat):(List.replicate k xs).flatten.length=k*xs.length:=by
 induction k with
 |zero=>simp
 |succ k j=>rw[QP,Ri,Pt,j,Nat.succ_mul,Nat.add_comm]
def Jb:bN X (binaryOp .Mult) NY:=by
 intro pins s σ H x y v u Q I W Y h;obtain⟨l,k,xs,rfl,rfl,U,h1,h2,R,q⟩:=h;cases W;obtain⟨t,rfl⟩:=Y;obtain⟨z,j,n,r,hl,e⟩:=I.lstM U;have M:j.toArray.size*k.toNat<=sizeLine:=by rw[Pd,<- hl];exact R
 have J:¬ j.toArray.size*k.toNat > (2^63-1) / 8:=by
  have:(sizeLine:Nat)<=(2^63-1) / 8:=`d
  omega
 have L:¬ (!Builtin.List.listFitsIndex k)=true:=by
  rw[fitsIndex_both h1 h2];exact PC
 have B:¬ Builtin.List.listTooLong (j.toArray.size*k.toNat)=true:=by
  rw[BU M];exact PC
 have O:List.foldl (λx1 x2=>x1++x2) #[] (List.replicate (if j.toArray.isEmpty=true then 0 else k.toNat) j.toArray)=(List.replicate k.toNat j).flatten.toArray:=by
  have S:=λm=>by
   have:=foldl_rep j m [];rw[Rg] at this;exact this
  rw[S];cases j with
  |nil=>simp
  |cons a r'=>rw[if_neg `s]
 refine wpAny_binaryOp_repeat_ref `d {_,e,rfl} (λs'=>typeIs_int s' k t) noFill_list_mul F.fills_int_mul F.slot_int_rmul repeat_list F.slot_int_index.lookup
  (call_meets F.slot_int_rmul (typeIs_int s k t) F.entry_int_rmul (F.args_int_rmul_2 _ _) (int___rmul___int_list k t l j.toArray n)
   {e,rfl,{_,e,rfl},call_meets F.slot_list_mul {_,e,rfl} F.entry_list_mul (F.args_list_mul_2 _ _) (AutoListH.list___mul___list_int_3 l j.toArray n k t L J B) {e,?_}})
 rw[O];exact{.ref _,_,I.lnew (r.rep k.toNat) (by rw[len_rep,Nat.mul_comm];exact R),rfl,q _ I.fresh}
end
end L2
namespace Att
open PySem PySem.W PySem.Calls PyProof.Rows
def oh:∀(ns:List Int) (vs:List O3),WellAll P h vs (ns.map WData.int)->IntsAre vs ns:=by
 intro ns;induction ns with
 | nil=>
   intro vs w;rw[List.map_nil] at w;cases w;exact .nil
 | cons n ns j=>
   intro vs w;rw[Qt] at w;cases w with
   | cons a b=>
     cases a;exact .cons _ _ (j _ b)
def yQ {l:OpenLaw}(hn:l.most=some n)
 (j:l.row.toRowW.claim.pre args=true) (J:WellAll P h vals args) :
 ∃a vs ns,vals=[Value.ref a]/\args=[WData.list (ns.map WData.int)]/\h.get? a=some {cls:=.type "list",data:=.seq vs.toArray}/\IntsAre vs ns/\ns.length<=n:=by
 have I:WShape.hasAll [] args [.list .int]=true:=(pre_splitW j).1;have L:l.pre.holds [] {args:=args}=true:=(pre_splitW j).2;obtain⟨d,r,rfl,h1,h2⟩:=hasAllW_cons I;obtain rfl:=hasAllW_nil h2;obtain⟨xs,rfl,h3⟩:=hasW_list h1;obtain⟨ns,rfl⟩:=items_int h3;have B:ns.length<=n:=by
  have h4:(WTm.not (.lt (.lit (.int (n:Int))) (.len (.arg 0)))).holds [] {args:=[.list (ns.map .int)]}=true:=by
   have h4:=(holds_andW L).1;rw[hn] at h4;exact h4
  have F:=condW_of h4 (w_not (w_lt w_lit (w_len_list (w_arg rfl))));rw[O7] at F;refine Nat.le_of_not_lt λq=>?_;first
   |(rw[decide_eq_true q'] at F;exact absurd F `d)
   |(simp at F;omega)
 cases J with
 | cons M w2=>
   cases w2;cases M with
   |list ho y=>exact{_,_,ns,rfl,rfl,ho,oh ns _ y,B}
def yZ (l:OpenLaw)(args:List WData):l.row.toRowW.claim.post args (.bool true) args=true:=
 postW_of
  (show WShape.has [] (.bool true) .bool=true by first|rfl|decide|simp[WShape.has,WShape.arms,WShape.armsAll])
  (w_eq_bool (w_res rfl) w_lit) rfl
def attach_call {l:OpenLaw}
 (hn:l.most=some n) (M:d.params.defaults=[])
 (call:∀(w:PM) (s₀ j:O8) (mg S:Str->Option O3) (fa:Addr) (o:Obj) (pm cd y:O3) (a:Addr) (vs:List O3) (ns:List Int),
  Ground q loose [] XP w s₀ mg S j.heap->YP w j.heap->
  j.heap.get? fa=some o->o.data=.func (docDef d.name d.params d.body d.scope pm cd y)->j.heap.CodeRec cd d.name->mg d.name=some (.ref fa)->
  j.heap.get? a=some {cls:=.type "list",data:=.seq vs.toArray}->IntsAre vs ns->ns.length<=n->j.gens=#[]->
  codeAny (model l.prog w) callerA (.call (.ref fa) {[.ref a],[]}) (λr s'=>r=.ok (.ret (.bool true))/\OldK j.heap s'.heap/\s'.os=j.os/\AllBare s'.gens) j) :
 WalkO q loose XP YP l.row.toRowW d [] (λf vs=>PySem.call f vs):=by
 intro w s₀ j mg S G Y fa o pm cd y dV kV ho hd L W O hg U vals as J hlay hrd R hlo;obtain rfl:dV=.none:=Dflts.none W M;obtain rfl:kV=.none:=Dflts.noKw W;obtain⟨a,vs,ns,rfl,rfl,I,B,F⟩:=yQ hn J R;refine enter_call (codeAny_mono (call w s₀ j mg S fa o pm cd y a vs ns G Y ho (fd_plain hd) L O I B F hg) λr s' hq=>?_);obtain⟨rfl,h2,h3,h4⟩:=hq;exact{.inl {.bool true,.bool true,[],rfl,λ_=>rfl,.bool true,yZ l _,λ_=>{List.Pairwise.nil,λ_ hm=>(nomatch hm)}},h2,h3,h4}
end Att
namespace L2
open PySem PySem.Spec PyProof.Rows
noncomputable def ql:∀{vs:List O3}{ns:List Int},IntsAre vs ns->Vals (ns.map V.int) vs
 |_,_,.nil=>.nil
 |_,_,.cons n t h=>.cons ⟨t,rfl⟩ (ql h)
def xM (H:Hp):Prop:=∀b,H b=none\/∃o xs,H b=some (.frz o (.lst xs))
def B8 {K:O0}
 (KX:K.In s₁.heap) (M:s₁.heap.Ns mainGlobals mg) (j:s₁.heap.Ns builtinsNs mb) (hbb:∀x:Str,x≠"__name__"->mb x=bootBuiltins x) (L:s₁.heap.NoLimit) (hg:s₁.gens=#[])
 (Y:s₁.heap.get? a=some {cls:=.type "list",data:=.seq vs.toArray}) (hi:IntsAre vs ns) (hl:ns.length<=sizeLine) (hr:b5 k callerA)
 (F:∀base:Heap,K.In base->base.Ns mainGlobals mg->jG P w K mg base CX k fa fd [x] sp) (I:∀(s:O8) (u:O3),BindsTo s fd {[u],[]} [(x,u)])
 (hsp:∀H:Hp,xM H->cz K H a (ns.map V.int)->sp [.ref a] H (λv _=>v=.bl true) λ_ _ _=>False)
 (hCX:∀H e s',CX [] H s₁ (λ_ _ _=>False) e s'->False) :
 codeAny (model P w) callerA (.call (.ref fa) {[.ref a],[]}) (λr s'=>r=.ok (.ret (.bool true))/\OldK s₁.heap s'.heap/\s'.os=s₁.os/\AllBare s'.gens) s₁:=by
 have rv:=ql hi;have R:=hi.length;have B:∀H:Hp,xM H->cz K H a (ns.map V.int)->dH P w H s₁.heap->(∀b,H b≠none->b=a)->(H a≠none->K.lookup a=none)->
  codeAny (model P w) callerA (.call (.ref fa) {[.ref a],[]}) (λr s'=>r=.ok (.ret (.bool true))/\OldK s₁.heap s'.heap/\s'.os=s₁.os/\AllBare s'.gens) s₁:=by
  intro H hO hS hok hA hK;have fS:∀{b:Addr}{o:Obj},s₁.heap.get? b=some o->H b=none->(lE s₁.heap H).get? b=some o:=λe n=>Cn e n;have noA:∀{b:Addr}{o:Obj}{es:Array QS}{U:Nat},s₁.heap.get? b=some o->o.data=.dict es U->H b=none:=λ{b o es U} e d=>by
   cases q:H b with
   |none=>rfl
   | some u=>
     have e':=hA b (by rw[q];simp)
     subst e';rw[Y] at e;cases e;have d':=d;cases d'
  have y:∀{b:Addr}{m:Str->Option O3},s₁.heap.Ns b m->(lE s₁.heap H).Ns b m:=λ{b m} ⟨o,es,U,e,d,r⟩=>{o,es,U,fS e (noA e d),d,r};have J:=λb o e=>fS (KX b o e) (by
   cases q:H b with
   |none=>rfl
   | some u=>
     have e':=hA b (by rw[q];simp)
     subst e';rw[hK (by rw[q];simp)] at e;cases e)
  have hM:Mod K mg (lE s₁.heap H):={J,y M,{mb,y j,hbb},let⟨mc,h1,h2⟩:=L;{mc,y h1,h2}}
  have e0:nA P w K mg (lE s₁.heap H) callerA [] s₁ H:={rfl,hM,λb o e=>F1 e,Nat.le_of_eq (zX _ _),trivial,λb j=>absurd (show b∈([]:List Addr) from j) `s,hok,.of_eq hg}
  refine codeAny_mono ((F _ J (y M)).run callerA [] s₁ H {[.ref a],[]} [.ref a] [.ref a] _ _ hr e0 (I s₁ (.ref a)) (.cons rfl .nil) (hsp H hO hS)) λr s' h=>?_;cases r with
  |error e=>exact(hCX H e s' h).elim
  | ok fl=>
    cases fl with
    |next=>exact False.elim h
    |brk=>exact False.elim h
    |cont=>exact False.elim h
    | ret u=>
      obtain⟨v,H',os,bare,un,O,r',q⟩:=h;have q':=q;subst q';obtain rfl:u=Value.bool true:=r';refine{rfl,OldK.of_keep λb o e=>?_,os,bare};cases q:H b with
      |none=>exact un.keep b o e q (by intro z;exact absurd (show b∈([]:List Addr) from z) `s) `s
      | some u=>
        rcases hO b with z|⟨ob,xs,z⟩
        ·rw[q] at z;cases z
        ·have z2:=un.frzs b ob _ z;obtain⟨e1,_⟩:=hok b _ z;obtain⟨e2,_⟩:=O b _ z2;rw[e] at e1;cases e1;exact e2
 cases hk:K.lookup a with
 | some o=>
   have e:=KX a o hk;rw[Y] at e;cases e;refine B (λ_=>none) (λ_=>.inl rfl) (.inr {_,vs.toArray,_,hk,rfl,rfl,rfl,by rw[Pd,R];exact hl,by simpa using rv}) (λb u z=>by have S:=z;cases S) (λb z=>absurd rfl z) λz=>absurd rfl z
 | none=>
   refine B (λb=>if b=a then some (.frz {cls:=.type "list",data:=.seq vs.toArray} (.lst (ns.map V.int))) else none) (λb=>?_) (.inl (.inr {{cls:=.type "list",data:=.seq vs.toArray},if_pos rfl})) (λb u z=>?_) (λb z=>?_) λ_=>hk
   ·by_cases j:b=a
    ·exact .inr {_,_,if_pos j}
    ·exact .inl (if_neg j)
   ·by_cases j:b=a
    ·have S:=(if_pos j).symm.trans z;cases S;subst j;exact{Y,by rw[O7];exact hl,vs,_,rv,Y}
    ·have S:=(if_neg j).symm.trans z;cases S
   ·by_cases j:b=a
    ·exact j
    ·exact absurd (if_neg j) z
def ES {l:PySem.W.OpenLaw}{K:QO->O0}{CX:PM->uH}{sp:PM->Sp}
 (hn:l.most=some n) (O:n<=sizeLine) (L:d.params.defaults=[]) (hr:b5 k callerA)
 (hY:∀(w:PM) (h:Heap),YP w h->(K w.params).In h)
 (F:∀(w:PM) (mg:Str->Option O3) (fa:Addr) (h:Heap),(K w.params).In h->h.Ns mainGlobals mg->mg d.name=some (.ref fa)->
  ∃fd:FuncData,(∀(s:O8) (u:O3),BindsTo s fd {[u],[]} [(x,u)])/\
   ∀base:Heap,(K w.params).In base->base.Ns mainGlobals mg->jG l.prog w (K w.params) mg base (CX w) k fa fd [x] (sp w))
 (R:∀(w:PM) (H:Hp) (a:Addr) (ns:List Int),ns.length<=n->xM H->cz (K w.params) H a (ns.map V.int)->sp w [.ref a] H (λv _=>v=.bl true) λ_ _ _=>False)
 (J:∀(w:PM) (H:Hp) (s:O8) (e:O3) (s':O8),CX w [] H s (λ_ _ _=>False) e s'->False) :
 PySem.W.WalkO q loose XP YP l.row.toRowW d [] (λf vs=>PySem.call f vs):=by
 refine Att.attach_call hn L λw s₀ I mg mb fa o pm cd U a vs ns G Y ho hd hcd M B y j hg=>?_;have S:=hY w _ Y;obtain⟨fd,hb,hF⟩:=F w mg fa _ S G.T.g M;exact B8 S G.T.g G.T.b G.T.builtins G.T.nolimit hg B y (Pk j O) hr hF hb (λH hO hS=>R w H a ns j hO hS) λH e s'=>J w H I e s'
noncomputable def cW (s:Stmt):Arguments:=match s with
 |.FunctionDef _ a _ _ _ _ _ _ _ _=>a
 |_=>{posonlyargs:=[],args:=[],vararg:=none,kwonlyargs:=[],kw_defaults:=[],kwarg:=none,defaults:=[]}
noncomputable def bT (s:Stmt):List Stmt:=match s with
 |.FunctionDef _ _ b _ _ _ _ _ _ _=>b
 |_=>[]
noncomputable def aE (s:Stmt):Scope:=match s with
 |.FunctionDef _ _ _ _ _ _ sc _ _ _=>sc
 |_=>{kind:=.function,names:=[],isGenerator:=false,isCoroutine:=false}
abbrev E0:XK:=λ_ _ _=>False
structure mI (K:O0) (x qual:Str) (st:Stmt) (f:Addr) (fd:FuncData):Prop where
 ex:∃(oc:O3) (od:Option Addr) (kV doc pm:O3) (an:Option Addr) (cdv ct:O3) (osl:Array (Option O3)),
  fd=PySem.W.fnOf x qual (cW st) (bT st) (aE st) .none kV doc pm an cdv ct/\K.lookup f=some {oc,od,.func fd,osl}/\PySem.W.codeIn K cdv qual=true
 kp:PySem.W.keepIn K (.ref f)=true
section
variable{P:PU}{w:PM}{K:O0}{mg:Str->Option O3}{base:Heap}
def mI.binds {x qual:Str}{st:Stmt}{f:Addr}{fd:FuncData}{ps:List Str}(F:mI K x qual st f fd)
 (h:∀(kV y pm:O3) (B:Option Addr) (j ct:O3) (us:List O3),us.length=ps.length->bindArgs (PySem.W.fnOf x qual (cW st) (bT st) (aE st) .none kV y pm B j ct) {us,[]}=pure (ps.zip us)):Binds K fd ps []:=by
 obtain⟨oc,od,kV,y,pm,B,j,ct,J,rfl,lk,I⟩:=F.ex;exact .all (h kV y pm B j ct)
def z0 {x qual:Str}{st:Stmt}{f:Addr}{oc:O3}{od F:Option Addr}{B:Array (Option O3)}{kV y pm j ct:O3}(l:K.lookup f=some {oc,od,.func (PySem.W.fnOf x qual (cW st) (bT st) (aE st) .none kV y pm F j ct),B})
 (c:PySem.W.codeIn K j qual=true) (k:PySem.W.keepIn K (.ref f)=true):mI K x qual st f (PySem.W.fnOf x qual (cW st) (bT st) (aE st) .none kV y pm F j ct):={⟨oc,od,kV,y,pm,F,j,ct,B,rfl,l,c⟩,k}
end
end L2
namespace LD
open PySem
inductive D where
 |non|bl (b:Bool)|int (i:Int)|str (x:Str)|tup (ds:List D)|lst (ds:List D)|frz (ds:List D)|cell (k:Nat)|fn (f:Nat)|exc (c:Nat) (p:Option Int)
 deriving Inhabited
abbrev Mem:=List (List D)
abbrev Env:=List (Option D)
inductive Res (α:Type) where
 |ok (a:α) (M:Mem)
 |err (x:D) (M:Mem)
 |bad
noncomputable def Res.bind {h j:Type}(r:Res h)(f:h->Mem->Res j):Res j:=match r with
 |.ok a M=>f a M
 |.err x M=>.err x M
 |.bad=>.bad
@[simp] theorem Res.bind_ok {h j:Type}(a:h)(M:Mem)(f:h->Mem->Res j):(Res.ok a M).bind f=f a M:=rfl
@[simp] theorem Res.bind_err {h j:Type}(x:D)(M:Mem)(f:h->Mem->Res j):(Res.err x M:Res h).bind f=.err x M:=rfl
@[simp] theorem Res.bind_bad {h j:Type}(f:h->Mem->Res j):(Res.bad:Res h).bind f=.bad:=rfl
inductive rj where
 |add|sub|mul|fdiv|mod|pow
 deriving DecidableEq
inductive jv where
 |eq|ne|lt|le|gt|ge|isN|notN|isin|notin
 deriving DecidableEq
inductive Ty where
 |int|bool|str|tuple|list|own (c:Str)
 deriving DecidableEq
inductive uI where
 |len|tuple|list (m:Bool)|listR (m:Bool)|all|sum|repr
 deriving DecidableEq
inductive fw where
 |one (i:Nat)
 |tup (l:List Nat)
 |two (i:Nat) (l:List Nat)
noncomputable def sz:Nat:=16777216
noncomputable def bt (m:Bool)(ds:List D)(M:Mem):Res D:=if ds.length<=sz then(if m then .ok (.cell M.length) (M++[ds]) else .ok (.lst ds) M) else .bad
noncomputable def ko (ds:List D)(M:Mem):Res D:=if ds.length<=sz then .ok (.tup ds) M else .bad
noncomputable def cE (M:Mem):D->Option (List D)
 |.lst h=>some h
 |.tup h=>some h
 |.frz h=>some h
 |.cell k=>M[k]?
 |_=>none
noncomputable def fg (M:Mem):D->Option (List D)
 |.lst h=>some h
 |.frz h=>some h
 |.cell k=>M[k]?
 |_=>none
noncomputable def iR (M:Mem):D->Option (List D)
 |.lst h=>some h
 |.cell k=>M[k]?
 |_=>none
noncomputable def aq:Nat->D->Bool
 |_,.non=>true
 |_,.bl _=>true
 |_,.int _=>true
 |_,.str x=>x.cps.all (· < 0x110000)
 |n+1,.tup h=>h.all (aq n)
 |n+1,.lst h=>h.all (aq n)
 |0,.tup _=>false
 |0,.lst _=>false
 |_,.frz _=>false
 |_,.cell _=>false
 |_,.fn _=>false
 |_,.exc _ _=>false
mutual
noncomputable def bH:D->D->Bool
 |.non,.non=>true
 |.bl a,.bl b=>a==b
 |.bl a,.int b=>(if a then 1 else 0)==b
 |.int a,.bl b=>a==(if b then 1 else 0)
 |.int a,.int b=>a==b
 |.str a,.str b=>a==b
 |.tup a,.tup b=>dz a b
 |.lst a,.lst b=>dz a b
 |_,_=>false
noncomputable def dz:List D->List D->Bool
 |[],[]=>true
 |a::r,b::t=>bH a b&&dz r t
 |[],_::_=>false
 |_::_,[]=>false
end
noncomputable def gD:D->Bool
 |.str _=>true
 |_=>false
def oy (a b:D):Option Bool:=if gD a&&gD b||aq 64 a&&aq 64 b then some (bH a b) else none
noncomputable def view (M:Mem):D->D
 | .cell k=>match M[k]? with
   |some h=>.lst h
   |none=>.cell k
 |.frz h=>.lst h
 |d=>d
noncomputable def cS:Nat->Mem->D->D
 |0,_,d=>d
 | n+1,M,.cell k=>match M[k]? with
   |some h=>.lst (h.map (cS n M))
   |none=>.cell k
 |n+1,M,.frz h=>.lst (h.map (cS n M))
 |n+1,M,.lst h=>.lst (h.map (cS n M))
 |n+1,M,.tup h=>.tup (h.map (cS n M))
 |_+1,_,d=>d
def lL (M:Mem)(a b:D):Option Bool:=match oy (view M a) (view M b) with
 |some r=>some r
 |none=>oy (cS 64 M a) (cS 64 M b)
def jx (M:Mem):D->Option Bool
 |.non=>some false
 |.bl b=>some b
 |.int i=>some (i != 0)
 |.str x=>if x.cps.size<=sz then some (x.cps.size != 0) else none
 |.tup ds=>some (!ds.isEmpty)
 |.lst ds=>some (!ds.isEmpty)
 |.frz ds=>some (!ds.isEmpty)
 |.cell k=>(M[k]?).map λds=>!ds.isEmpty
 |.fn _=>none
 |.exc _ _=>none
def bO (n:Nat)(i:Int):Option Nat:=if 0<=i then(if i<n then some i.toNat else none) else if -(n:Int)<=i then some (i+n).toNat else none
def fi (m:Bool)(o:rj)(a b:D)(M:Mem):Res D:=match o,a,b with
 |.add,.int i,.int j=>.ok (.int (i+j)) M
 |.add,.str x,.str y=>if x.cps.size+y.cps.size<=sz then .ok (.str {x.cps++y.cps}) M else .bad
 |.add,.tup x,.tup y=>ko (x++y) M
 | .add,a,b=>match iR M a,iR M b with
   |some x,some y=>bt m (x++y) M
   |_,_=>.bad
 |.sub,.int i,.int j=>.ok (.int (i-j)) M
 |.mul,.int i,.int j=>if (-(2^64)<i/\i<2^64)\/(-(2^64)<j/\j<2^64) then .ok (.int (i*j)) M else .bad
 |.mul,.tup x,.int j=>if x.length*j.toNat<=sz/\-(2^63)<=j/\j<2^63 then .ok (.tup (List.replicate j.toNat x).flatten) M else .bad
 | .mul,a,.int j=>match iR M a with
   |some x=>if x.length*j.toNat<=sz/\-(2^63)<=j/\j<2^63 then bt m (List.replicate j.toNat x).flatten M else .bad
   |none=>.bad
 |.fdiv,.int i,.int j=>if 0<j/\j<1073741824 then .ok (.int (i / j)) M else .bad
 |.mod,.int i,.int j=>if 0<j then .ok (.int (i % j)) M else .bad
 |.pow,.int i,.int j=>if 0<=j/\j<=1000000/\i.natAbs<2^64 then .ok (.int (i^j.toNat)) M else .bad
 |_,_,_=>.bad
def jd (x:D)(ds:List D):Option Bool:=if aq 64 x&&ds.all (aq 63) then some (ds.any λy=>bH y x) else none
noncomputable def kZ (x y:Str):Bool:=!(Builtin.Str.occurrences y x 0 y.length 1).isEmpty
noncomputable def intsOf:List D->Option (List Int)
 |[]=>some []
 |.int b::r=>(intsOf r).map (b::·)
 |_=>none
def lD:D->Option (List Int)
 |.tup h=>intsOf h
 |_=>none
noncomputable def ja:List D->Option (List (List Int))
 |[]=>some []
 |d::r=>(lD d).bind λk=>(ja r).map (k::·)
def pI:D->Option (List (List Int))
 |.tup h=>ja h
 |_=>none
def isKey (c:Int)(d:D):Bool:=if c=77 then(lD d).isSome else if c=78 then(pI d).isSome else false
def cN (M:Mem)(o:Nat):Option (Int×List D):=if 5000<=o then(match M[o-5000]? with
 |some (.int c::es)=>if c=77\/c=78 then some (c,es) else none
 |_=>none) else none
noncomputable def xv:D->D
 |.tup [k,_]=>k
 |d=>d
noncomputable def OB:D->D
 |.tup [_,v]=>v
 |d=>d
def c9 (es:List D)(k:D):Option D:=(es.find? λe=>bH (xv e) k).map OB
def putD (es:List D)(k v:D):List D:=if (c9 es k).isSome then es.map (λe=>if bH (xv e) k then .tup [xv e,v] else e) else es++[.tup [k,v]]
def inD (M:Mem)(o:Nat)(k:D):Option Bool:=(cN M o).bind λq=>if isKey q.1 k then some (c9 q.2 k).isSome else none
def getD (M:Mem)(o:Nat)(k:D):Option D:=(cN M o).bind λq=>if isKey q.1 k then c9 q.2 k else none
noncomputable def xm:D->Bool
 |.non=>true
 |_=>false
def bp (o:jv)(a b:D)(M:Mem):Option Bool:=match o,a,b with
 |.eq,a,b=>lL M a b
 |.ne,a,b=>(lL M a b).map (!·)
 |.lt,.int i,.int j=>some (decide (i<j))
 |.le,.int i,.int j=>some (decide (i<=j))
 |.gt,.int i,.int j=>some (decide (j<i))
 |.ge,.int i,.int j=>some (decide (j<=i))
 |.isN,a,.non=>some (xm a)
 |.notN,a,.non=>some (!xm a)
 |.isin,.str x,.str y=>some (kZ x y)
 |.notin,.str x,.str y=>some (!kZ x y)
 |.isin,a,b=>(cE M b).bind (jd (view M a))
 |.notin,a,b=>((cE M b).bind (jd (view M a))).map (!·)
 |_,_,_=>none
def da (a i:D)(M:Mem):Option D:=match a,i with
 |.str x,.int i=>if x.cps.size<=sz then(bO x.cps.size i).bind λj=>(x.cps[j]?).map λc=>.str {#[c]} else none
 |a,.int i=>(cE M a).bind λh=>(bO h.length i).bind λj=>h[j]?
 |_,_=>none
noncomputable def aK (n d:Nat):D->Option Nat
 |.non=>some d
 |.int v=>some (if v<0 then(v+(n:Int)).toNat else min v.toNat n)
 |_=>none
noncomputable def b7:Bool->D->Bool
 |true,.int _=>true
 |false,.non=>true
 |_,_=>false
noncomputable def cut {h:Type}(xs:List h)(lo hi:Nat):List h:=(xs.drop lo).take (hi-lo)
def dU (m:Bool)(a lo hi:D)(M:Mem):Res D:=match a with
 | .tup xs=>match aK xs.length 0 lo,aK xs.length xs.length hi with
   |some l,some h=>.ok (.tup (cut xs l h)) M
   |_,_=>.bad
 | a=>match fg M a with
   | some xs=>match aK xs.length 0 lo,aK xs.length xs.length hi with
     |some l,some h=>bt m (cut xs l h) M
     |_,_=>.bad
   |none=>.bad
def cj (t:Ty):D->Option Bool
 |.non=>some false
 |.bl _=>some (t==.bool||t==.int)
 |.int _=>some (t==.int)
 |.str _=>some (t==.str)
 |.tup _=>some (t==.tuple)
 |.lst _=>some (t==.list)
 |.frz _=>some (t==.list)
 |.cell _=>some (t==.list)
 |.fn _=>none
 |.exc _ _=>none
noncomputable def boolsOf:List D->Option (List Bool)
 |[]=>some []
 |.bl b::r=>(boolsOf r).map (b::·)
 |_=>none
def fM (f:uI)(ds:List D)(M:Mem):Res D:=match f,ds with
 |.len,[.str x]=>if x.cps.size<=sz then .ok (.int x.cps.size) M else .bad
 | .len,[d]=>match cE M d with
   |some xs=>.ok (.int xs.length) M
   |none=>.bad
 |.tuple,[.tup xs]=>.ok (.tup xs) M
 | .tuple,[d]=>match fg M d with
   |some xs=>.ok (.tup xs) M
   |none=>.bad
 | .list m,[d]=>match cE M d with
   |some xs=>bt m xs M
   |none=>.bad
 |.listR m,[.int n]=>if n<2^20 then bt m ((List.range n.toNat).map λ(k:Nat)=>D.int (k:Int)) M else .bad
 | .all,[d]=>match fg M d with
   | some xs=>match boolsOf xs with
     |some bs=>.ok (.bl (bs.all id)) M
     |none=>.bad
   |none=>.bad
 | .sum,[d]=>match fg M d with
   | some xs=>match intsOf xs with
     |some is=>.ok (.int is.sum) M
     |none=>.bad
   |none=>.bad
 |_,_=>.bad
noncomputable def fm:List Nat->List D->Env->Option Env
 |[],[],h=>some h
 |i::l,d::ds,h=>fm l ds (h.set i (some d))
 |_,_,_=>none
def b4 (t:fw)(d:D)(Z:Env):Option Env:=match t,d with
 |.one i,d=>some (Z.set i (some d))
 |.tup l,.tup h=>fm l h Z
 |.two i l,.tup [d,.tup h]=>fm l h (Z.set i (some d))
 |.tup _,_=>none
 |.two _ _,_=>none
abbrev Walk:=Mem->Option (List D)
noncomputable def dX:Nat->List D->List D
 |_,[]=>[]
 |k,d::r=>.tup [.int k,d]::dX (k+1) r
noncomputable def fB {h:Type}(f:h->D->Mem->Res h)(w:Walk):Nat->Nat->h->Mem->Res h
 |0,_,_,_=>.bad
 | n+1,i,a,M=>match w M with
   |none=>.bad
   | some j=>match j[i]? with
     |none=>.ok a M
     |some d=>(f a d M).bind (fB f w n (i+1))
def cQ {h:Type}(f:h->D->Mem->Res h)(w:Walk)(a:h)(M:Mem):Res h:=fB f w (((w M).getD []).length+1) 0 a M
noncomputable def bV {h:Type}(M:Mem):Option h->Res h
 |some a=>.ok a M
 |none=>.bad
@[simp] theorem BQ {h:Type}(M:Mem)(a:h):bV M (some a)=.ok a M:=rfl
@[simp] theorem N1 {h:Type}(M:Mem):(bV M none:Res h)=.bad:=rfl
inductive Fl where
 |next (Z:Env)
 |ret (d:D)
 |exc (x:D) (Z:Env)
def rW {a b:Int}:bH (.int a) (.int b)=(a==b):=rfl
def Ey:bH (.str x) (.str y)=(x==y):=rfl
end LD
namespace LD
open PySem PySem.Spec PyProof.Rows L2
structure Mu where
 pub:Nat->Option Addr
 priv:List Addr
 ob:Nat->Option Addr
def Mu.Mt (μ:Mu)(a:Addr):Prop:=(∃k,μ.pub k=some a)\/a∈μ.priv
abbrev Fa:=Nat->Option Addr
def KL (K:O0)(a:Addr)(xs:List V):Prop:=
 ∃(o:Obj) (h:Array O3) (n:Nat),K.lookup a=some o/\o.cls=.type "list"/\o.dict=none/\o.data=.seq h n/\h.size<=sizeLine/\Vals xs h.toList
def wd (C:Addr)(u:Option Addr)(a:Addr)(h:Heap):Prop:=∃o j,h.get? a=some o/\o.cls=.ref C/\o.dict=u/\o.data=.fields j/\1<j.size
noncomputable def fH (c:Nat):Str:=if c=1 then "number" else "place"
def uz (H:Hp)(c:Nat)(h:Option Addr):Option Int->Prop
 |none=>h=none
 |some i=>∃d,h=some d/\H d=some (.xd [(fH c,.int i)])
def c7 (c:Nat):Nat:=1000+c
def i7 (c:Nat):Nat:=900+c
section
variable(fa:Fa)(K:O0)(μ:Mu)(H:Hp)
mutual
noncomputable def Rep:D->V->Prop
 |.non,v=>v=.non
 |.bl b,v=>v=.bl b
 |.int i,v=>v=.int i
 |.str x,v=>v=.str x
 |.tup j,v=>∃a h,v=.ref a/\c8 K H a h/\aG j h
 |.lst j,v=>∃a h,v=.ref a/\(H a=some (.lst h)/\¬ μ.Mt a)/\aG j h
 |.frz j,v=>∃a h,v=.ref a/\((∃ob,H a=some (.frz ob (.lst h)))\/KL K a h)/\aG j h
 |.cell k,v=>∃a,v=.ref a/\μ.pub k=some a
 |.fn f,v=>∃a,v=.ref a/\(fa f=some a\/(fa f=none/\μ.ob f=some a))
 |.exc c p,v=>∃a C u,v=.ref a/\fa (c7 c)=some C/\H a=some (.ext (wd C u a))/\uz H c u p
noncomputable def aG:List D->List V->Prop
 |[],h=>h=[]
 |d::ds,h=>∃v r,h=v::r/\Rep d v/\aG ds r
end
end
def IsX (o:HO):Prop:=(∃h,o=.ext h)\/∃fs,o=.xd fs
structure ExtW (μ:Mu) (H:Hp) (μ':Mu) (H':Hp):Prop where
 mu:∀k a,μ.pub k=some a->μ'.pub k=some a
 tups:∀a vs,Rd H a (.tup vs)->Rd H' a (.tup vs)
 lsts:∀a vs,H a=some (.lst vs)->¬ μ.Mt a->H' a=some (.lst vs)/\¬ μ'.Mt a
 frzs:∀a ob u,H a=some (.frz ob u)->H' a=some (.frz ob u)
 exts:∀a o,IsX o->H a=some o->H' a=some o
 obs:∀k a,μ.ob k=some a->μ'.ob k=some a
structure Ext (μ:Mu) (H:Hp) (μ':Mu) (H':Hp):Prop extends ExtW μ H μ' H' where
 pr:μ'.priv=μ.priv
 pk:∀a∈μ.priv,H' a=H a
def ExtW.refl:ExtW μ H μ H:={λ_ _ h=>h,λ_ _ h=>h,λ_ _ h n=>⟨h,n⟩,λ_ _ _ h=>h,λ_ _ _ h=>h,λ_ _ h=>h}
def ExtW.trans (a:ExtW μ H μ1 H1)(b:ExtW μ1 H1 μ2 H2):ExtW μ H μ2 H2:=
 {λk x h=>b.mu k x (a.mu k x h),λx j h=>b.tups x j (a.tups x j h),λx j h n=>b.lsts x j (a.lsts x j h n).1 (a.lsts x j h n).2,λx ob u h=>b.frzs x ob u (a.frzs x ob u h),λx o i h=>b.exts x o i (a.exts x o i h),λk x h=>b.obs k x (a.obs k x h)}
def Ext.refl:Ext μ H μ H:={.refl,rfl,λ_ _=>rfl}
def Ext.trans (a:Ext μ H μ1 H1)(b:Ext μ1 H1 μ2 H2):Ext μ H μ2 H2:=
 {a.toExtW.trans b.toExtW,b.pr.trans a.pr,λx h=>(b.pk x (by rw[a.pr];exact h)).trans (a.pk x h)}
section
variable{fa:Fa}{K:O0}{μ μ':Mu}{H H':Hp}
def ExtW.sqT (x:ExtW μ H μ' H')(h:c8 K H a vs):c8 K H' a vs:=h.elim (λz=>.inl (x.tups a vs z)) .inr
mutual
theorem Rep.extW (x:ExtW μ H μ' H'):∀{d:D}{v:V},Rep fa K μ H d v->Rep fa K μ' H' d v
 |.non,v,h=>h
 |.bl b,v,h=>h
 |.int i,v,h=>h
 |.str y,v,h=>h
 | .tup u,v,h=>by
   obtain⟨a,j,e,s,r⟩:=h;exact{a,j,e,x.sqT s,aG.extW x r}
 | .lst u,v,h=>by
   obtain⟨a,j,e,s,r⟩:=h;exact{a,j,e,x.lsts a j s.1 s.2,aG.extW x r}
 | .frz u,v,h=>by
   obtain⟨a,j,e,s,r⟩:=h;exact{a,j,e,s.elim ((by rintro⟨ob,z⟩;exact .inl {ob,x.frzs a ob _ z})) .inr,aG.extW x r}
 | .cell k,v,h=>by
   obtain⟨a,e,m⟩:=h;exact{a,e,x.mu k a m}
 | .fn f,v,h=>by
   obtain⟨a,e,m⟩:=h;exact{a,e,m.imp id λz=>{z.1,x.obs _ _ z.2}}
 | .exc c p,v,h=>by
   obtain⟨a,C,B,e,f,g,n⟩:=h;refine{a,C,B,e,f,x.exts _ _ (.inl {_,rfl}) g,?_};cases p with
   |none=>exact n
   |some i=>exact let⟨d,h1,h2⟩:=n;{d,h1,x.exts _ _ (.inr {_,rfl}) h2}
theorem aG.extW (x:ExtW μ H μ' H'):∀{ds:List D}{vs:List V},aG fa K μ H ds vs->aG fa K μ' H' ds vs
 |[],vs,h=>h
 | d::ds,vs,h=>by
   obtain⟨v,r,e,p,q⟩:=h;exact{v,r,e,Rep.extW x p,aG.extW x q}
end
def Rep.ext (x:Ext μ H μ' H')(h:Rep fa K μ H d v):Rep fa K μ' H' d v:=Rep.extW x.toExtW h
def aG.ext (x:Ext μ H μ' H')(h:aG fa K μ H d v):aG fa K μ' H' d v:=aG.extW x.toExtW h
noncomputable def aG.length:∀{ds:List D}{vs:List V},aG fa K μ H ds vs->vs.length=ds.length
 | [],vs,h=>by
   subst h;rfl
 | d::ds,vs,h=>by
   obtain⟨v,r,e,p,q⟩:=h;subst e;simp[aG.length q]
theorem aG.get:∀{ds:List D}{vs:List V}{i:Nat}{d:D},aG fa K μ H ds vs->ds[i]?=some d->∃v,vs[i]?=some v/\Rep fa K μ H d v
 |[],_,_,_,_,e=>by simp at e
 | d::ds,vs,0,j,h,e=>by
   obtain⟨v,r,rfl,p,q⟩:=h;simp at e;subst e;exact⟨v,rfl,p⟩
 | d::ds,vs,i+1,j,h,e=>by
   obtain⟨v,r,rfl,p,q⟩:=h;obtain⟨u,h1,h2⟩:=aG.get q (by simpa using e)
   exact{u,by simpa using h1,h2}
def aG.getV:∀{ds:List D}{vs:List V}{i:Nat}{v:V},aG fa K μ H ds vs->vs[i]?=some v->∃d,ds[i]?=some d/\Rep fa K μ H d v:=by
 intro ds vs i v h e;have hl:=h.length;have j:i<vs.length:=(O1.mp e).1;obtain⟨d,hd⟩:∃d,ds[i]?=some d:={ds[i]'(`a),`s}
 obtain⟨u,h1,h2⟩:=h.get hd;rw[e] at h1;cases h1;exact⟨d,hd,h2⟩
noncomputable def aG.append:∀{ds es:List D}{vs ws:List V},aG fa K μ H ds vs->aG fa K μ H es ws->aG fa K μ H (ds++es) (vs++ws)
 | [],_,vs,_,h,g=>by
   subst h;exact g
 | d::ds,es,vs,ws,h,g=>by
   obtain⟨v,r,rfl,p,q⟩:=h;exact{v,r++ws,rfl,p,aG.append q g}
def aG.one (h:Rep fa K μ H d v):aG fa K μ H [d] [v]:={v,[],rfl,h,rfl}
noncomputable def aG.drop:∀(n:Nat) {ds:List D}{vs:List V},aG fa K μ H ds vs->aG fa K μ H (ds.drop n) (vs.drop n)
 |0,_,_,h=>h
 | n+1,[],vs,h=>by
   subst h;exact rfl
 | n+1,d::ds,vs,h=>by
   obtain⟨v,r,rfl,p,q⟩:=h;exact aG.drop n q
noncomputable def aG.take:∀(n:Nat) {ds:List D}{vs:List V},aG fa K μ H ds vs->aG fa K μ H (ds.take n) (vs.take n)
 |0,_,_,h=>rfl
 | n+1,[],vs,h=>by
   subst h;exact rfl
 | n+1,d::ds,vs,h=>by
   obtain⟨v,r,rfl,p,q⟩:=h;exact{v,r.take n,rfl,p,aG.take n q}
theorem aG.set:∀(n:Nat) {ds:List D}{vs:List V}{d:D}{v:V},aG fa K μ H ds vs->Rep fa K μ H d v->aG fa K μ H (ds.set n d) (vs.set n v)
 | _,[],vs,_,_,h,_=>by
   subst h;exact rfl
 | 0,d::ds,vs,_,j,h,g=>by
   obtain⟨v,r,rfl,p,q⟩:=h;exact⟨j,r,rfl,g,q⟩
 | n+1,d::ds,vs,_,j,h,g=>by
   obtain⟨v,r,rfl,p,q⟩:=h;exact{v,r.set n j,rfl,p,aG.set n q g}
noncomputable def aG.reverse:∀{ds:List D}{vs:List V},aG fa K μ H ds vs->aG fa K μ H ds.reverse vs.reverse
 | [],vs,h=>by
   subst h;exact rfl
 | d::ds,vs,h=>by
   obtain⟨v,r,rfl,p,q⟩:=h;rw[List.reverse_cons,List.reverse_cons];exact aG.append (aG.reverse q) (.one p)
noncomputable def aG.rep:∀(n:Nat) {ds:List D}{vs:List V},aG fa K μ H ds vs->aG fa K μ H (List.replicate n ds).flatten (List.replicate n vs).flatten
 |0,_,_,_=>rfl
 | n+1,ds,vs,h=>by
   rw[QP,QP,Ri,Ri];exact h.append (aG.rep n h)
noncomputable def aG.ints:∀(ns:List Int),aG fa K μ H (ns.map D.int) (ns.map V.int)
 |[]=>rfl
 |n::ns=>{.int n,ns.map V.int,rfl,rfl,aG.ints ns}
end
noncomputable def kD:Nat->List Str
 |40=>["machine","standing","earlier"]
 |_=>[]
def a9 (k:Nat):Nat:=5000+k
noncomputable def Em (ks:List Int):Int:=reduceHash (Builtin.Tuple.tupleHashOf (ks.map hashInt))
noncomputable def LW (h:List (List Int)):Int:=reduceHash (Builtin.Tuple.tupleHashOf (h.map Em))
def l5 (c:Int)(d:D):Option Int:=if c=77 then(lD d).map Em else if c=78 then(pI d).map LW else none
def CZ (fa:Fa)(K:O0)(μ:Mu)(H:Hp)(c:Int)(p:D×D)(e:QS):Prop:=∃b v,e.key=.ref b/\l5 c p.1=some e.hash/\Rep fa K μ H p.1 (.ref b)/\RelV v e.val/\Rep fa K μ H p.2 v
def iZ (fa:Fa)(K:O0)(μ:Mu)(H:Hp)(a:Addr)(ds:List D):Prop:=
 (∃(c:Nat) (C u:Addr) (fs:List (Str×V)) (j:List D),fa (i7 c)=some C/\H a=some (.ins C u fs)/\fs.map (·.1)=(kD c).take fs.length/\ds=.int c::j/\aG fa K μ H j (fs.map (·.2)))\/
 ∃(c:Int) (j:List QS) (h:List (D×D)),H a=some (.dn j)/\(c=77\/c=78)/\ds=.int c::h.map (λp=>.tup [p.1,p.2])/\Q0 (CZ fa K μ H c) h j/\(h.map (·.1)).Nodup
def iZ.extW {fa:Fa}{K:O0}{μ μ':Mu}{H H':Hp}{a:Addr}{ds:List D}(h:iZ fa K μ H a ds)(x:ExtW μ H μ' H')(e:H' a=H a):iZ fa K μ' H' a ds:=
 h.imp ((by rintro⟨c,C,B,fs,j,h1,h2,h3,h4,u⟩;exact{c,C,B,fs,j,h1,e.trans h2,h3,h4,u.extW x}))
  (by rintro⟨c,j,y,h1,h2,h3,h4,u⟩;exact{c,j,y,e.trans h1,h2,h3,Q0.mapP h4 λp q ⟨b,v,e1,e2,E,F,I⟩=>{b,v,e1,e2,E.extW x,F,I.extW x},u})
def iZ.hold {fa:Fa}{K:O0}{μ:Mu}{H:Hp}{a:Addr}{ds:List D}(h:iZ fa K μ H a ds):∃o,H a=some o/\(∀vs,o≠.lst vs):=by
 rcases h with⟨_,_,_,_,_,_,h,_⟩|⟨_,_,_,h,_⟩
 ·exact{_,h,λ_ z=>by cases z}
 ·exact{_,h,λ_ z=>by cases z}
def iZ.new {fa:Fa}{K:O0}{μ:Mu}{H:Hp}{a p:Addr}{ds:List D}(h:iZ fa K μ H a ds)(j:H p=none):a≠p:=let{_,e,_}:=h.hold;aS e j
def iZ.nl {fa:Fa}{K:O0}{μ:Mu}{H:Hp}{a p:Addr}{ds:List D}{vs:List V}(h:iZ fa K μ H a ds)(j:H p=some (.lst vs)):a≠p:=λz=>by
 obtain⟨o,e,n⟩:=h.hold;rw[z,j] at e;cases e;exact n _ rfl
def MR (fa:Fa)(K:O0)(μ:Mu)(H:Hp)(k:Nat)(ds:List D):Prop:=
 (∃a h,μ.pub k=some a/\H a=some (.lst h)/\aG fa K μ H ds h)\/∃a,μ.ob (a9 k)=some a/\μ.pub k=none/\iZ fa K μ H a ds
structure RelM (fa:Fa) (K:O0) (μ:Mu) (H:Hp) (M:Mem):Prop where
 at':∀(k:Nat) (ds:List D),M[k]?=some ds->MR fa K μ H k ds
 out:∀(k:Nat),M.length<=k->μ.pub k=none
 oout:∀(k:Nat),M.length<=k->μ.ob (a9 k)=none
 inj:∀j k a,μ.pub j=some a->μ.pub k=some a->j=k
 oinj:∀j k a,μ.ob (a9 j)=some a->μ.ob (a9 k)=some a->j=k
 sep:∀k a,μ.pub k=some a->μ.ob (a9 k)=none
 pv:∀a∈μ.priv,(∃vs,H a=some (.lst vs))/\∀k,μ.pub k≠some a
structure bc (fa:Fa) (K:O0) (μ:Mu) (H:Hp) (σ:L2.St) (Z:Env):Prop where
 len:σ.length=Z.length
 at':∀(i:Nat) (d:D),Z[i]?=some (some d)->∃v,σ[i]?=some (some v)/\Rep fa K μ H d v
section
variable{fa:Fa}{K:O0}{μ μ':Mu}{H H':Hp}{σ:L2.St}{Z:Env}{M:Mem}
def bc.ext (h:bc fa K μ H σ Z)(x:Ext μ H μ' H'):bc fa K μ' H' σ Z:=
 {h.len,λi d e=>let⟨v,h1,h2⟩:=h.at' i d e;{v,h1,h2.ext x}}
def bc.set (h:bc fa K μ H σ Z){i:Nat}{d:D}{v:V}(r:Rep fa K μ H d v):bc fa K μ H (σ.set i (some v)) (Z.set i (some d)):=by
 refine{by simp[h.len],λj B e=>?_}
 by_cases y:j=i
 ·subst y;have hl:j<Z.length:=by
   have:=(O1.mp e).1;simpa using this
  rw[PK hl] at e;cases e;exact{v,PK (by rw[h.len];exact hl),r}
 ·rw[Pc (Qi y)] at e;obtain⟨u,h1,h2⟩:=h.at' j B e;exact{u,by rw[Pc (Qi y)];exact h1,h2}
def bc.extW (h:bc fa K μ H σ Z)(x:ExtW μ H μ' H'):bc fa K μ' H' σ Z:=
 {h.len,λi d e=>let⟨v,h1,h2⟩:=h.at' i d e;{v,h1,h2.extW x}}
def RelM.mu_lt (h:RelM fa K μ H M)(e:μ.pub k=some a):∃ds vs,M[k]?=some ds/\H a=some (.lst vs)/\aG fa K μ H ds vs:=by
 by_cases hk:k<M.length
 ·rcases h.at' k M[k] (by simp[hk]) with⟨j,vs,h1,h2,h3⟩|⟨_,_,z,_⟩
  ·rw[e] at h1;cases h1;exact{_,vs,by simp[hk],h2,h3}
  ·rw[e] at z;cases z
 ·rw[h.out k `a] at e;cases e
def RelM.at_ (h:RelM fa K μ H M)(e:M[k]?=some ds)(p:μ.pub k=some a):∃vs,H a=some (.lst vs)/\aG fa K μ H ds vs:=by
 obtain⟨j,vs,h1,h2,h3⟩:=h.mu_lt p;rw[e] at h1;cases h1;exact⟨vs,h2,h3⟩
def RelM.fresh (h:RelM fa K μ H M)(j:H p=none):¬ μ.Mt p:=λe=>by
 rcases e with⟨k,e⟩|e
 ·obtain⟨v,u,_,h2,_⟩:=h.mu_lt e;rw[j] at h2;cases h2
 ·obtain⟨⟨u,h2⟩,_⟩:=h.pv p e;rw[j] at h2;cases h2
def RelM.pne (h:RelM fa K μ H M)(u:H p=none)(j:a∈μ.priv):a≠p:=λe=>by
 obtain⟨⟨v,h2⟩,_⟩:=h.pv a j;rw[e,u] at h2;cases h2
def Ext.alloc (h:RelM fa K μ H M)(j:H p=none):Ext μ H μ (upd H p o):=by
 have rd:∀a u,Rd H a u->Rd (upd H p o) a u:=λa u h=>by
  rcases h with h|⟨ob,h⟩
  ·exact .inl (by rw[ao (aS h j)];exact h)
  ·exact .inr {ob,by rw[ao (aS h j)];exact h}
 exact{{λ_ _ h=>h,λa y h=>rd a _ h,λa y h n=>{by rw[ao (aS h j)];exact h,n},λa ob u h=>by rw[ao (aS h j)];exact h,λa o _ h=>by rw[ao (aS h j)];exact h,λ_ _ h=>h},rfl,λa v=>by rw[ao (h.pne j v)]}
def RelM.alloc (h:RelM fa K μ H M)(j:H p=none):RelM fa K μ (upd H p o) M:=
 {λk y e=>(h.at' k y e).imp ((by rintro⟨a,v,h1,h2,h3⟩;exact{a,v,h1,by rw[ao (aS h2 j)];exact h2,h3.ext (Ext.alloc h j)})) (by rintro⟨a,h1,h2,h3⟩;exact{a,h1,h2,h3.extW (Ext.alloc h j).toExtW (ao (h3.new j))}),h.out,h.oout,h.inj,h.oinj,h.sep,λa u=>{let{⟨v,e⟩,_}:=h.pv a u;{v,by rw[ao (h.pne j u)];exact e},(h.pv a u).2}}
noncomputable def eW (μ:Mu)(n:Nat)(p:Addr):Mu:={λk=>if k=n then some p else μ.pub k,μ.priv,μ.ob}
set_option tactic.hygienic true in
def Ext.cell (h:RelM fa K μ H M)(j:H p=none):Ext μ H (eW μ M.length p) (upd H p o):=by
 have rd:∀a u,Rd H a u->Rd (upd H p o) a u:=λa u h=>by
  rcases h with h|⟨ob,h⟩
  ·exact .inl (by rw[ao (aS h j)];exact h)
  ·exact .inr {ob,by rw[ao (aS h j)];exact h}
 refine{{λk a e=>?_,λa y g=>rd a _ g,λa y g n=>{by rw[ao (aS g j)];exact g,λe=>?_},λa ob u h=>by rw[ao (aS h j)];exact h,λa o _ h=>by rw[ao (aS h j)];exact h,λ_ _ h=>h},rfl,λa v=>by rw[ao (h.pne j v)]}
 ·show(if k=M.length then some p else μ.pub k)=some a;split
  ·next q=>rw[q,h.out _ (O4 _)] at e;cases e
  ·exact e
 ·rcases e with⟨k,e⟩|e
  ·have e:(if k=M.length then some p else μ.pub k)=some a:=e;split at e
   ·cases e;exact aS g j rfl
   ·exact n (.inl ⟨k,e⟩)
  ·exact n (.inr e)
set_option tactic.hygienic true in
def RelM.cell (h:RelM fa K μ H M){p:Addr}{ds:List D}{vs:List V}(u:H p=none)(r:aG fa K μ H ds vs) :
 RelM fa K (eW μ M.length p) (upd H p (.lst vs)) (M++[ds]):=by
 have x:Ext μ H (eW μ M.length p) (upd H p (.lst vs)):=Ext.cell h u;have F:=h.fresh u;refine{λk v e=>?_,λk hk=>?_,λk hk=>h.oout k (by simp at hk;omega),λj k a h1 h2=>?_,h.oinj,λk a z=>?_,λa y=>?_}
 ·by_cases hk:k<M.length
  ·rw[O9 hk] at e;rcases h.at' k v e with⟨a,E,h1,h2,h3⟩|⟨a,h1,h2,h3⟩
   ·exact .inl {a,E,x.mu k a h1,by rw[ao (aS h2 u)];exact h2,h3.ext x}
   ·exact .inr {a,h1,by show(if k=M.length then some p else μ.pub k)=none;rw[if_neg (PH hk)];exact h2,h3.extW x.toExtW (ao (h3.new u))}
  ·have B:k=M.length:=by
    have:=(O1.mp e).1;simp at this;omega
   subst B;rw[Py (O4 _)] at e;simp at e;subst e;exact .inl {p,vs,by simp[eW],bJ,r.ext x}
 ·simp at hk;show(if k=M.length then some p else μ.pub k)=none;rw[if_neg `a]
  exact h.out k `a
 ·have h1:(if j=M.length then some p else μ.pub j)=some a:=h1;have h2:(if k=M.length then some p else μ.pub k)=some a:=h2;split at h1<;>split at h2
  ·omega
  ·cases h1;exact absurd (.inl ⟨k,h2⟩) F
  ·cases h2;exact absurd (.inl ⟨j,h1⟩) F
  ·exact h.inj j k a h1 h2
 ·have z:(if k=M.length then some p else μ.pub k)=some a:=z;show μ.ob (a9 k)=none;split at z
  ·next e=>rw[e];exact h.oout _ (O4 _)
  ·exact h.sep k a z
 ·obtain⟨⟨E,e⟩,n⟩:=h.pv a y;refine{{E,by rw[ao (h.pne u y)];exact e},λk e2=>?_}
  have e2:(if k=M.length then some p else μ.pub k)=some a:=e2;split at e2
  ·cases e2;exact h.pne u y rfl
  ·exact n k e2
def ExtW.write (h2:H a=some (.lst vs))(e:μ.Mt a):ExtW μ H μ (upd H a (.lst ws)):=by
 have ne:∀b u,Rd H b u->(∀xs,u≠.lst xs)->b≠a:=λb u g j q=>by
  subst q;rcases g with g|⟨ob,g⟩
  ·rw[h2] at g;cases g;exact j _ rfl
  ·rw[h2] at g;cases g
 have rd:∀b u,b≠a->Rd H b u->Rd (upd H a (.lst ws)) b u:=λb u h g=>by
  rcases g with g|⟨ob,g⟩
  ·exact .inl (by rw[ao h];exact g)
  ·exact .inr {ob,by rw[ao h];exact g}
 exact{λ_ _ q=>q,λb v g=>rd b _ (ne b _ g (λxs q=>by cases q)) g,λb v g n=>{by rw[ao (λq=>n (by rw[q];exact e))];exact g,n},λb ob u g=>by rw[ao (λq=>by rw[q,h2] at g;cases g)];exact g,λb o i g=>by rw[ao (λq=>by rw[q,h2] at g;cases g;rcases i with⟨_,i⟩|⟨_,i⟩<;>cases i)];exact g,λ_ _ q=>q}
def Ext.write {k:Nat}{a:Addr}{vs ws:List V}(h:RelM fa K μ H M)(e:μ.pub k=some a):Ext μ H μ (upd H a (.lst ws)):=by
 obtain⟨u,vs,_,h2,_⟩:=h.mu_lt e;exact{ExtW.write h2 (.inl ⟨k,e⟩),rfl,λb j=>by rw[ao (λq=>(h.pv b j).2 k (by rw[q];exact e))]}
def RelM.write (h:RelM fa K μ H M){k:Nat}{a:Addr}{ds:List D}{ws:List V}(e:μ.pub k=some a)(r:aG fa K μ H ds ws):RelM fa K μ (upd H a (.lst ws)) (M.set k ds):=by
 have x:Ext μ H μ (upd H a (.lst ws)):=Ext.write (vs:=ws) h e;refine{λj y q=>?_,λj u=>h.out j (by simpa using u),λj u=>h.oout j (by simpa using u),h.inj,h.oinj,h.sep,λb v=>{let{⟨vs,g⟩,_}:=h.pv b v;{vs,by rw[x.pk b v];exact g},(h.pv b v).2}}
 by_cases u:j=k
 ·subst u;have hl:j<M.length:=by have:=(O1.mp q).1;simpa using this
  rw[PK hl] at q;cases q;exact .inl {a,ws,e,bJ,r.ext x}
 ·rw[Pc (Qi u)] at q;rcases h.at' j y q with⟨b,vs,h1,h2,h3⟩|⟨b,h1,h2,h3⟩
  ·have B:b≠a:=λz=>u (h.inj j k a (z ▸ h1) e);exact .inl {b,vs,h1,by rw[ao B];exact h2,h3.ext x}
  ·obtain⟨_,_,_,hl,_⟩:=h.mu_lt e;exact .inr {b,h1,h2,h3.extW x.toExtW (ao (h3.nl hl))}
end
def af {h:Type}(r:Res h)(k:h->Mem->Prop):Prop:=match r with
 |.ok a M=>k a M
 |_=>False
def aI {j u:Type}{r:Res j}{f:j->Mem->Res u}{k:u->Mem->Prop}(h:af (r.bind f) k):∃a M,r=.ok a M/\af (f a M) k:=by
 cases r with
 |ok a M=>exact⟨a,M,rfl,h⟩
 |err=>exact h.elim
 |bad=>exact h.elim
def jM {j:Type}{M:Mem}{o:Option j}{k:j->Mem->Prop}(h:af (bV M o) k):∃a,o=some a/\k a M:=by
 cases o with
 |none=>exact h.elim
 |some a=>exact⟨a,rfl,h⟩
def aD {j:Type}{r:Res j}{k k':j->Mem->Prop}(h:af r k)(m:∀a M,k a M->k' a M):af r k':=by
 cases r with
 |ok a M=>exact m a M h
 |err=>exact h
 |bad=>exact h
section
variable(fa:Fa)(K:O0)
def a7 (μ:Mu)(H:Hp)(Q:VK)(d:D)(M':Mem):Prop:=∀v H' μ',Ext μ H μ' H'->RelM fa K μ' H' M'->Rep fa K μ' H' d v->Q v H'
def tE (g:Env->Mem->Res D):TE:=λσ H Q=>∃μ Z M,bc fa K μ H σ Z/\RelM fa K μ H M/\af (g Z M) (a7 fa K μ H Q)
def tT (g:Env->Mem->Res Bool):TT:=λσ H Q=>∃μ Z M,bc fa K μ H σ Z/\RelM fa K μ H M/\af (g Z M) λb h=>∀H' μ',Ext μ H μ' H'->RelM fa K μ' H' h->Q b H'
def tA (g:Env->Mem->Res (List D)):TA:=λσ H Q=>∃μ Z M,bc fa K μ H σ Z/\RelM fa K μ H M/\af (g Z M) λu j=>∀h H' μ',Ext μ H μ' H'->RelM fa K μ' H' j->aG fa K μ' H' u h->Q h H'
end
def lR (New:Addr->Prop)(C:Addr)(v:Option Addr)(a:Addr)(h:Heap)(H:Hp):Prop:=New a/\H a=none/\∃o j,h.get? a=some o/\o.cls=.ref C/\o.dict=v/\o.data=.fields j/\
 (j[1]?=some .none\/∃T u ts,j[1]?=some (.ref T)/\T≠a/\New T/\H T=none/\h.get? T=some u/\u.data=.fields ts/\ts[3]?=some .none)
def nz (X:Cx)(b:Addr):Prop:=X.s₀.heap.get? b=none/\∀p∈X.pn,p.1≠b
def XW (fa:Fa)(X:Cx)(μ:Mu)(H:Hp)(x:D)(Z:Env)(M:Mem):Prop:=∀h j H' μ' u a C v c p,Inv X h j H' u->Ext μ H μ' H'->bc fa X.K μ' H' j Z->RelM fa X.K μ' H' M->x=.exc c p->fa (c7 c)=some C->uz H' c v p->lR (nz X) C v a u.heap H'->X.xe (.ref a) u
def lS (fa:Fa)(X:Cx)(μ:Mu)(H:Hp)(D:Ends):Fl->Mem->Prop
 |.next h,j=>∀u H' μ',Ext μ H μ' H'->bc fa X.K μ' H' u h->RelM fa X.K μ' H' j->D.nx u H'
 |.ret d,j=>a7 fa X.K μ H D.rt d j
 |.exc x h,j=>XW fa X μ H x h j
def tF (fa:Fa)(X:Cx)(g:Env->Mem->Res Fl):TS:=λD σ H=>∃μ Z M,bc fa X.K μ H σ Z/\RelM fa X.K μ H M/\af (g Z M) (lS fa X μ H D)
def XW.ext (h:XW fa X μ H x Z M)(y:Ext μ H μ' H'):XW fa X μ' H' x Z M:=λj v B u s1 a C E c p I e=>h j v B u s1 a C E c p I (y.trans e)
section
variable{fa:Fa}{K:O0}{μ μ':Mu}{H H':Hp}{Q:VK}
def a7.ext (h:a7 fa K μ H Q d M)(x:Ext μ H μ' H'):a7 fa K μ' H' Q d M:=λv u j y m r=>h v u j (x.trans y) m r
def jL {r:Res D}(h:af r (a7 fa K μ H Q))(x:Ext μ H μ' H'):af r (a7 fa K μ' H' Q):=aD h λ_ _ w=>w.ext x
end
def bx (h:PE X e t)(i:∀σ H Q,t' σ H Q->t σ H Q):PE X e t':=λj s σ H Q I q=>h j s σ H Q I (i σ H Q q)
def jJ (h:PT X e t)(i:∀σ H Q,t' σ H Q->t σ H Q):PT X e t':=λj s σ H Q I q=>h j s σ H Q I (i σ H Q q)
def yV (h:PW X e t)(i:∀σ H Q,t' σ H Q->t σ H Q):PW X e t':=λw j s σ H Q I q=>h w j s σ H Q I (i σ H Q q)
def zf (h:PA X e t)(i:∀σ H Q,t' σ H Q->t σ H Q):PA X e t':=λu j s σ H Q I q=>h u j s σ H Q I (i σ H Q q)
def dm (h:PS X e t)(i:∀D σ H,t' D σ H->t D σ H):PS X e t':=λj s σ H D I q=>h j s σ H D I (i D σ H q)
def vb (h:j5 X e t)(i:∀D σ H,t' D σ H->t D σ H):j5 X e t':=λj s σ H D I q=>h j s σ H D I (i D σ H q)
section
variable{fa:Fa}{K:O0}{μ:Mu}{H:Hp}{σ:L2.St}{Z:Env}{M:Mem}
def t1 {g:Env->Mem->Res D}{E:Type}{f:D->Mem->Res E}{P:E->Mem->Prop}{R:V->Hp->Prop}(y:bc fa K μ H σ Z)(F:RelM fa K μ H M)(h:af ((g Z M).bind f) P)
 (k:∀x M1 v u j,Ext μ H j u->bc fa K j u σ Z->RelM fa K j u M1->Rep fa K j u x v->af (f x M1) P->R v u):tE fa K g σ H R:=by
 obtain⟨x,M1,e,q⟩:=aI h;refine{μ,Z,M,y,F,?_};rw[e];exact λv u j B I r1=>k x M1 v u j B (y.ext B) I r1 q
def yB {g:Env->Mem->Res Bool}{B:Type}{f:Bool->Mem->Res B}{P:B->Mem->Prop}{R:Bool->Hp->Prop}(v:bc fa K μ H σ Z)(E:RelM fa K μ H M)(h:af ((g Z M).bind f) P)
 (k:∀b M1 u j,Ext μ H j u->bc fa K j u σ Z->RelM fa K j u M1->af (f b M1) P->R b u):tT fa K g σ H R:=by
 obtain⟨b,M1,e,q⟩:=aI h;refine{μ,Z,M,v,E,?_};rw[e];exact λu j y F=>k b M1 u j y (v.ext y) F q
def uW {g:Env->Mem->Res (List D)}{E:Type}{f:List D->Mem->Res E}{P:E->Mem->Prop}{R:List V->Hp->Prop}(y:bc fa K μ H σ Z)(F:RelM fa K μ H M)(h:af ((g Z M).bind f) P)
 (k:∀ds M1 vs u j,Ext μ H j u->bc fa K j u σ Z->RelM fa K j u M1->aG fa K j u ds vs->af (f ds M1) P->R vs u):tA fa K g σ H R:=by
 obtain⟨ds,M1,e,q⟩:=aI h;refine{μ,Z,M,y,F,?_};rw[e];exact λv u j B I r1=>k ds M1 v u j B (y.ext B) I r1 q
end
mutual
noncomputable def toPy:D->PyData
 |.non=>.none
 |.bl b=>.bool b
 |.int i=>.int i
 |.str x=>.str x
 |.tup h=>.tuple (cv h)
 |.lst h=>.list (cv h)
 |.frz _=>.none
 |.cell _=>.none
 |.fn _=>.none
 |.exc _ _=>.none
noncomputable def cv:List D->List PyData
 |[]=>[]
 |d::r=>toPy d::cv r
end
def oZ:∀(n:Nat) (d:D),aq n d=true->(toPy d).canLay0=true/\(toPy d).depth<=n:=by
 have all:∀(n:Nat),(∀d,aq n d=true->(toPy d).canLay0=true/\(toPy d).depth<=n)->∀j:List D,j.all (aq n)=true->PyData.canLayAll0 (cv j)=true/\PyData.depthAll (cv j)<=n:=by
  intro n h j;induction j with
  |nil=>intro _;simp[cv,PyData.canLayAll0,PyData.depthAll]
  | cons d r u=>
    intro q;simp only[Qx,O2] at q;obtain⟨h1,h2⟩:=h d q.1;obtain⟨h3,h4⟩:=u q.2;simp only[cv,PyData.canLayAll0,PyData.depthAll,h1,h3,Bool.and_self,true_and];omega
 intro n;induction n with
 | zero=>
   intro d h;cases d with
   |str x=>exact{by simpa[toPy,PyData.canLay0,PyData.strOk,aq] using h,by simp[toPy,PyData.depth]}
   |tup _=>simp[aq] at h
   |lst _=>simp[aq] at h
   |frz _=>simp[aq] at h
   |cell _=>simp[aq] at h
   |fn _=>simp[aq] at h
   |exc y p=>simp[aq] at h
   |_=>exact{by simp[toPy,PyData.canLay0],by simp[toPy,PyData.depth]}
 | succ n u=>
   intro d h;cases d with
   |str x=>exact{by simpa[toPy,PyData.canLay0,PyData.strOk,aq] using h,by simp[toPy,PyData.depth]}
   | tup j=>
     obtain⟨h1,h2⟩:=all n u j (by simpa[aq] using h)
     simp only[toPy,PyData.canLay0,PyData.depth,h1,true_and];omega
   | lst j=>
     obtain⟨h1,h2⟩:=all n u j (by simpa[aq] using h)
     simp only[toPy,PyData.canLay0,PyData.depth,h1,true_and];omega
   |frz _=>simp[aq] at h
   |cell _=>simp[aq] at h
   |fn _=>simp[aq] at h
   |exc y p=>simp[aq] at h
   |_=>exact{by simp[toPy,PyData.canLay0],by simp[toPy,PyData.depth]}
def i5 (h:aq 64 d=true):SeqAt.shaped (toPy d)=true:=by
 obtain⟨h1,h2⟩:=oZ 64 d h;simp[SeqAt.shaped,h1,h2]
mutual
theorem mj:∀(n m:Nat) (a b:D),aq n a=true->aq m b=true->PyData.eqv (toPy a) (toPy b)=bH a b
 | n,m,.tup a,.tup b,h,j=>by
   cases n with
   |zero=>simp[aq] at h
   | succ n=>
     cases m with
     |zero=>simp[aq] at j
     | succ m=>
       exact nj n m a b (by simpa[aq] using h) (by simpa[aq] using j)
 | n,m,.lst a,.lst b,h,j=>by
   cases n with
   |zero=>simp[aq] at h
   | succ n=>
     cases m with
     |zero=>simp[aq] at j
     | succ m=>
       exact nj n m a b (by simpa[aq] using h) (by simpa[aq] using j)
 |n,m,.frz _,_,h,j=>by cases n<;>simp[aq] at h
 |n,m,.cell _,_,h,j=>by cases n<;>simp[aq] at h
 |n,m,.fn _,_,h,j=>by cases n<;>simp[aq] at h
 |n,m,.exc _ _,_,h,j=>by cases n<;>simp[aq] at h
 |n,m,_,.frz _,h,j=>by cases m<;>simp[aq] at j
 |n,m,_,.cell _,h,j=>by cases m<;>simp[aq] at j
 |n,m,_,.fn _,h,j=>by cases m<;>simp[aq] at j
 |n,m,_,.exc _ _,h,j=>by cases m<;>simp[aq] at j
 |_,_,.non,.non,_,_=>by first|rfl|simp[toPy,PyData.eqv];rfl
 |_,_,.non,.bl _,_,_=>by first|rfl|simp[toPy,PyData.eqv];rfl
 |_,_,.non,.int _,_,_=>by first|rfl|simp[toPy,PyData.eqv];rfl
 |_,_,.non,.str _,_,_=>by first|rfl|simp[toPy,PyData.eqv];rfl
 |_,_,.non,.tup _,_,_=>by first|rfl|simp[toPy,PyData.eqv];rfl
 |_,_,.non,.lst _,_,_=>by first|rfl|simp[toPy,PyData.eqv];rfl
 |_,_,.bl _,.non,_,_=>by first|rfl|simp[toPy,PyData.eqv];rfl
 |_,_,.bl _,.bl _,_,_=>by first|rfl|simp[toPy,PyData.eqv];rfl
 |_,_,.bl _,.int _,_,_=>by first|rfl|simp[toPy,PyData.eqv];rfl
 |_,_,.bl _,.str _,_,_=>by first|rfl|simp[toPy,PyData.eqv];rfl
 |_,_,.bl _,.tup _,_,_=>by first|rfl|simp[toPy,PyData.eqv];rfl
 |_,_,.bl _,.lst _,_,_=>by first|rfl|simp[toPy,PyData.eqv];rfl
 |_,_,.int _,.non,_,_=>by first|rfl|simp[toPy,PyData.eqv];rfl
 |_,_,.int _,.bl _,_,_=>by first|rfl|simp[toPy,PyData.eqv];rfl
 |_,_,.int _,.int _,_,_=>by first|rfl|simp[toPy,PyData.eqv];rfl
 |_,_,.int _,.str _,_,_=>by first|rfl|simp[toPy,PyData.eqv];rfl
 |_,_,.int _,.tup _,_,_=>by first|rfl|simp[toPy,PyData.eqv];rfl
 |_,_,.int _,.lst _,_,_=>by first|rfl|simp[toPy,PyData.eqv];rfl
 |_,_,.str _,.non,_,_=>by first|rfl|simp[toPy,PyData.eqv];rfl
 |_,_,.str _,.bl _,_,_=>by first|rfl|simp[toPy,PyData.eqv];rfl
 |_,_,.str _,.int _,_,_=>by first|rfl|simp[toPy,PyData.eqv];rfl
 |_,_,.str _,.str _,_,_=>by first|rfl|simp[toPy,PyData.eqv];rfl
 |_,_,.str _,.tup _,_,_=>by first|rfl|simp[toPy,PyData.eqv];rfl
 |_,_,.str _,.lst _,_,_=>by first|rfl|simp[toPy,PyData.eqv];rfl
 |_,_,.tup _,.non,_,_=>by first|rfl|simp[toPy,PyData.eqv];rfl
 |_,_,.tup _,.bl _,_,_=>by first|rfl|simp[toPy,PyData.eqv];rfl
 |_,_,.tup _,.int _,_,_=>by first|rfl|simp[toPy,PyData.eqv];rfl
 |_,_,.tup _,.str _,_,_=>by first|rfl|simp[toPy,PyData.eqv];rfl
 |_,_,.tup _,.lst _,_,_=>by first|rfl|simp[toPy,PyData.eqv];rfl
 |_,_,.lst _,.non,_,_=>by first|rfl|simp[toPy,PyData.eqv];rfl
 |_,_,.lst _,.bl _,_,_=>by first|rfl|simp[toPy,PyData.eqv];rfl
 |_,_,.lst _,.int _,_,_=>by first|rfl|simp[toPy,PyData.eqv];rfl
 |_,_,.lst _,.str _,_,_=>by first|rfl|simp[toPy,PyData.eqv];rfl
 |_,_,.lst _,.tup _,_,_=>by first|rfl|simp[toPy,PyData.eqv];rfl
theorem nj:∀(n m:Nat) (a b:List D),a.all (aq n)=true->b.all (aq m)=true->PyData.eqvAll (cv a) (cv b)=dz a b
 |n,m,[],[],_,_=>by simp[cv,PyData.eqvAll,dz]
 |n,m,[],_::_,_,_=>by simp[cv,PyData.eqvAll,dz]
 |n,m,_::_,[],_,_=>by simp[cv,PyData.eqvAll,dz]
 | n,m,x::a,y::b,h,j=>by
   simp only[Qx,O2] at h j;simp only[cv,PyData.eqvAll,dz];rw[mj n m x y h.1 j.1,nj n m a b h.2 j.2]
end
section
variable{fa:Fa}{X:Cx}{μ:Mu}{H:Hp}{σ:L2.St}{pins:List (Addr×Obj)}{s:O8}{M:Mem}
def iQ (j:RelM fa X.K μ H M)(h:Rep fa X.K μ H d v)(e:iR M d=some ds):∃a vs,v=.ref a/\H a=some (.lst vs)/\aG fa X.K μ H ds vs:=by
 cases d with
 | lst xs=>
   cases e;obtain⟨a,vs,e,s,r⟩:=h;exact⟨a,vs,e,s.1,r⟩
 | cell k=>
   obtain⟨a,rfl,hk⟩:=h;obtain⟨vs,h2,h3⟩:=j.at_ e hk;exact⟨a,vs,rfl,h2,h3⟩
 |_=>cases e
def bK (j:RelM fa X.K μ H M)(h:Rep fa X.K μ H d v)(e:fg M d=some ds):∃a vs,v=.ref a/\cz X.K H a vs/\aG fa X.K μ H ds vs:=by
 cases d with
 | lst xs=>
   obtain⟨a,vs,h1,h2,h3⟩:=iQ j h e;exact{a,vs,h1,.of h2,h3}
 | frz xs=>
   cases e;obtain⟨a,vs,e,s,r⟩:=h;exact{a,vs,e,s.elim (λz=>.inl (.inr z)) .inr,r}
 | cell k=>
   obtain⟨a,vs,h1,h2,h3⟩:=iQ j h e;exact{a,vs,h1,.of h2,h3}
 |_=>cases e
def iP (j:RelM fa X.K μ H M)(h:Rep fa X.K μ H d v)(e:cE M d=some ds):∃a vs,v=.ref a/\(cz X.K H a vs\/c8 X.K H a vs)/\aG fa X.K μ H ds vs:=by
 cases d with
 | tup xs=>
   cases e;obtain⟨a,vs,rfl,h1,h2⟩:=h;exact{a,vs,rfl,.inr h1,h2}
 | lst xs=>
   obtain⟨a,vs,h1,h2,h3⟩:=bK j h e;exact{a,vs,h1,.inl h2,h3}
 | frz xs=>
   obtain⟨a,vs,h1,h2,h3⟩:=bK j h e;exact{a,vs,h1,.inl h2,h3}
 | cell k=>
   obtain⟨a,vs,h1,h2,h3⟩:=bK j h e;exact{a,vs,h1,.inl h2,h3}
 |_=>cases e
mutual
theorem dB (I:Inv X pins σ H s):∀(d:D) (n:Nat) (v:V) (u:O3),aq n d=true->Rep fa X.K μ H d v->RelV v u->∃B,Reads s.heap u (toPy d) B
 | .non,n,v,u,_,h,r=>by
   obtain rfl:v=.non:=h;obtain rfl:u=Value.none:=r;exact{_,.none}
 | .bl b,n,v,u,_,h,r=>by
   obtain rfl:v=.bl b:=h;obtain rfl:u=Value.bool b:=r;exact{_,.bool b}
 | .int i,n,v,u,_,h,r=>by
   obtain rfl:v=.int i:=h;obtain⟨t,rfl⟩:=r;exact{_,.int i t}
 | .str x,n,v,u,_,h,r=>by
   obtain rfl:v=.str x:=h;obtain⟨t,rfl⟩:=r;exact{_,.str x t}
 | .tup E,n,v,u,j,h,r=>by
   cases n with
   |zero=>simp[aq] at j
   | succ n=>
     obtain⟨a,L,rfl,h1,h2⟩:=h;obtain rfl:u=Value.ref a:=r;obtain⟨y,J,⟨o,e1,e2,k,F⟩,_⟩:=I.tuple h1;obtain⟨B,q⟩:=eT I E n L y (by simpa[aq] using j) h2 J
     exact{_,.tuple e1 e2 F (by simpa using q)}
 | .lst E,n,v,u,j,h,r=>by
   cases n with
   |zero=>simp[aq] at j
   | succ n=>
     obtain⟨a,L,rfl,h1,h2⟩:=h;obtain rfl:u=Value.ref a:=r;obtain⟨y,J,⟨o,k,e1,e2,O,F⟩,_⟩:=I.list (cz.of h1.1);obtain⟨B,q⟩:=eT I E n L y (by simpa[aq] using j) h2 J
     exact{_,.list e1 e2 F (by simpa using q)}
 |.frz k,n,v,u,j,_,_=>by cases n<;>simp[aq] at j
 |.cell k,n,v,u,j,_,_=>by cases n<;>simp[aq] at j
 |.fn f,n,v,u,j,_,_=>by cases n<;>simp[aq] at j
 |.exc _ _,n,v,u,j,_,_=>by cases n<;>simp[aq] at j
theorem eT (I:Inv X pins σ H s):∀(ds:List D) (n:Nat) (vs:List V) (us:List O3),ds.all (aq n)=true->aG fa X.K μ H ds vs->Vals vs us->∃u,ReadsAll s.heap us (cv ds) u
 | [],n,vs,us,_,h,r=>by
   obtain rfl:vs=[]:=h;cases r;exact{_,.nil}
 | d::ds,n,vs,us,j,h,r=>by
   obtain⟨v,vr,rfl,h1,h2⟩:=h;simp only[Qx,O2] at j;cases r with
   | cons r1 r2=>
     obtain⟨u,y⟩:=dB I d n v _ j.1 h1 r1;obtain⟨bs,B⟩:=eT I ds n vr _ j.2 h2 r2;exact{_,.cons y B}
end
def EU (h:aq n (view M d)=true):(view M d=d/\aq n d=true)\/∃ds,fg M d=some ds/\view M d=.lst ds:=by
 cases d with
 | cell k=>
   cases e:M[k]? with
   | none=>
     have j:view M (.cell k)=.cell k:=by simp[view,e]
     rw[j] at h;cases n<;>simp[aq] at h
   |some ds=>exact .inr {ds,e,by simp[view,e]}
 |frz ds=>exact .inr ⟨ds,rfl,rfl⟩
 |_=>exact .inl ⟨rfl,h⟩
def j8 (I:Inv X pins σ H s)(O:RelM fa X.K μ H M)(j:aq 64 (view M d)=true)(h:Rep fa X.K μ H d v)(r:RelV v u):∃E,Reads s.heap u (toPy (view M d)) E:=by
 rcases EU j with⟨e,y⟩|⟨F,e,L⟩
 ·rw[e];exact dB I _ 64 v u y h r
 ·rw[L] at j ⊢;obtain⟨a,Q,rfl,h1,h2⟩:=bK O h e;obtain rfl:u=Value.ref a:=r;obtain⟨B,P,⟨o,k,e1,e2,R,J⟩,_⟩:=I.list h1;obtain⟨E,q⟩:=eT I F 63 Q B (by simpa[aq] using j) h2 P
  exact{_,.list e1 e2 J (by simpa using q)}
theorem jw (I:Inv X pins σ H s)(L:RelM fa X.K μ H M):∀(n m:Nat) (d:D) (v:V) (u:O3),aq m (cS n M d)=true->Rep fa X.K μ H d v->RelV v u->∃F,Reads s.heap u (toPy (cS n M d)) F
 |0,m,d,v,u,j,h,r=>dB I d m v u j h r
 | n+1,m,d,v,u,j,h,r=>by
   have U:=jw I L n;have all:∀(m:Nat) (B:List D) (E:List V) (O:List O3),(B.map (cS n M)).all (aq m)=true->aG fa X.K μ H B E->Vals E O->∃F,ReadsAll s.heap O (cv (B.map (cS n M))) F:=by
    intro m B;induction B with
    | nil=>
      intro E O _ h r;obtain rfl:E=[]:=h;cases r;exact{_,.nil}
    | cons d B R=>
      intro E O j h r;obtain⟨v,vr,rfl,h1,h2⟩:=h;simp only[Qt,Qx,O2] at j;cases r with
      | cons r1 r2=>
        obtain⟨F,W⟩:=U m d v _ j.1 h1 r1;obtain⟨bs,Y⟩:=R vr _ j.2 h2 r2;exact{_,.cons W Y}
   have lst:∀(B:List D) (a:Addr) (E:List V),aq m (.lst (B.map (cS n M)))=true->cz X.K H a E->aG fa X.K μ H B E->u=.ref a->∃F,Reads s.heap u (toPy (.lst (B.map (cS n M)))) F:=by
    intro B a E j h1 h2 e;subst e;cases m with
    |zero=>simp[aq] at j
    | succ m=>
      obtain⟨J,S,⟨o,k,e1,e2,e4,P⟩,_⟩:=I.list h1;obtain⟨F,q⟩:=all m B E J (by simpa[aq] using j) h2 S
      exact{_,.list e1 e2 P (by simpa using q)}
   cases d with
   | cell k=>
     cases e:M[k]? with
     | none=>
       have Q:cS (n+1) M (.cell k)=.cell k:=by simp[cS,e]
       rw[Q] at j;cases m<;>simp[aq] at j
     | some B=>
       have Q:cS (n+1) M (.cell k)=.lst (B.map (cS n M)):=by simp[cS,e]
       rw[Q] at j ⊢;obtain⟨a,E,rfl,h1,h2⟩:=bK L h e;exact lst B a E j h1 h2 r
   | frz B=>
     obtain⟨a,E,rfl,h1,h2⟩:=bK L h rfl;exact lst B a E j h1 h2 r
   | lst B=>
     obtain⟨a,E,rfl,h1,h2⟩:=bK L h rfl;exact lst B a E j h1 h2 r
   | tup B=>
     have j:aq m (.tup (B.map (cS n M)))=true:=j;cases m with
     |zero=>simp[aq] at j
     | succ m=>
       obtain⟨a,E,rfl,h1,h2⟩:=h;obtain rfl:u=Value.ref a:=r;obtain⟨J,S,⟨o,e1,e2,k,P⟩,_⟩:=I.tuple h1;obtain⟨F,q⟩:=all m B E J (by simpa[aq] using j) h2 S
       exact{_,.tuple e1 e2 P (by simpa using q)}
   |non=>exact dB I .non m v u j h r
   |bl b=>exact dB I (.bl b) m v u j h r
   |int i=>exact dB I (.int i) m v u j h r
   |str x=>exact dB I (.str x) m v u j h r
   |fn f=>exact dB I (.fn f) m v u j h r
   |exc y p=>exact dB I (.exc y p) m v u j h r
abbrev Rm (X:Cx):Prop:=X.A.units+100<cLine
def f5 (fa:Fa)(K:O0)(o:jv):R2:=λx y H Q=>∃μ M h j b,RelM fa K μ H M/\Rep fa K μ H h x/\Rep fa K μ H j y/\bp o h j M=some b/\Q (.bl b) H
set_option tactic.hygienic true in
def tV (hs:(gD a&&gD b)=false)(h:oy a b=some k):aq 64 a=true/\aq 64 b=true/\k=bH a b:=by
 unfold oy at h;rw[hs,Bool.false_or] at h;split at h
 ·next q=>
  simp only[O2] at q;exact{q.1,q.2,(Ph h).symm}
 ·cases h
def tK (d:D):gD (view M d)=gD d:=by
 cases d with
 |cell k=>cases e:M[k]?<;>simp[view,e,gD]
 |_=>rfl
def qI (n:Nat)(d:D):gD (cS n M d)=gD d:=by
 cases n with
 |zero=>rfl
 | succ n=>
   cases d with
   |cell k=>cases e:M[k]?<;>simp[cS,e,gD]
   |_=>rfl
def qP (I:Inv X pins σ H s)(B:RelM fa X.K μ H M)(hs:(gD a&&gD b)=false)(h:lL M a b=some k)(h1:Rep fa X.K μ H a x)(h2:Rep fa X.K μ H b y)(E:RelV x v)(F:RelV y u) :
 ∃c e j bs,aq 64 c=true/\aq 64 e=true/\k=bH c e/\Reads s.heap v (toPy c) j/\Reads s.heap u (toPy e) bs:=by
 unfold lL at h;cases q:oy (view M a) (view M b) with
 | some r=>
   rw[q] at h;cases h;obtain⟨p1,p2,e⟩:=tV (by rw[tK,tK];exact hs) q
   obtain⟨j,r1⟩:=j8 I B p1 h1 E;obtain⟨bs,r2⟩:=j8 I B p2 h2 F;exact{_,_,j,bs,p1,p2,e,r1,r2}
 | none=>
   rw[q] at h;obtain⟨p1,p2,e⟩:=tV (by rw[qI,qI];exact hs) h
   obtain⟨j,r1⟩:=jw I B 64 64 a x v p1 h1 E;obtain⟨bs,r2⟩:=jw I B 64 64 b y u p2 h2 F;exact{_,_,j,bs,p1,p2,e,r1,r2}
def si (h:(gD a&&gD b)=true):∃x y,a=.str x/\b=.str y:=by
 cases a with
 | str x=>
   cases b with
   |str y=>exact⟨x,y,rfl,rfl⟩
   |_=>cases h
 |_=>cases h
def vO:lL M (.str x) (.str y)=some (x==y):=by
 have e:bH (.str x) (.str y)=(x==y):=rfl;rw[<- e];rfl
def OL (O:Rm X):bN X (compareOp .Eq) (f5 fa X.K .eq):=by
 intro pins s σ H x y v u Q I B E h;obtain⟨μ,M,F,J,b,L,h1,h2,e,q⟩:=h;cases hs:gD F&&gD J with
 | true=>
   obtain⟨i,j,rfl,rfl⟩:=si hs;obtain rfl:x=.str i:=h1;obtain rfl:y=.str j:=h2;obtain rfl:(i==j)=b:=Ph (vO.symm.trans e);exact LR pins s σ H _ _ v u Q I B E {rfl,by rw[mn];exact q}
 | false=>
   obtain⟨_,_,P,bs,p1,p2,rfl,r1,r2⟩:=qP I L hs (e) h1 h2 B E;refine SeqAt.compareEq_shaped r1 r2 (i5 p1) (i5 p2) (by unfold Rm at O;omega) ?_
   rw[mj 64 64 _ _ p1 p2];exact{.bl _,H,I,rfl,q}
def OF (P:Rm X):bN X (compareOp .NotEq) (f5 fa X.K .ne):=by
 intro pins s σ H x y v u Q I J L h;obtain⟨μ,M,E,F,b,O,h1,h2,e,q⟩:=h;have e:(lL M E F).map (!·)=some b:=e;cases B:lL M E F with
 |none=>rw[B] at e;cases e
 | some k=>
   rw[B] at e;obtain rfl:(!k)=b:=Ph e;cases hs:gD E&&gD F with
   | true=>
     obtain⟨i,j,rfl,rfl⟩:=si hs;obtain rfl:x=.str i:=h1;obtain rfl:y=.str j:=h2;obtain rfl:(i==j)=k:=Ph (vO.symm.trans B);exact LM pins s σ H _ _ v u Q I J L {rfl,by rw[mn];exact q}
   | false=>
     obtain⟨_,_,R,bs,p1,p2,rfl,r1,r2⟩:=qP I O hs B h1 h2 J L;refine SeqAt.compareNe_shaped r1 r2 (i5 p1) (i5 p2) (by unfold Rm at P;omega) ?_
     rw[mj 64 64 _ _ p1 p2];exact{.bl _,H,I,rfl,q}
end
section
variable{fa:Fa}{X:Cx}{μ:Mu}{H:Hp}{σ:L2.St}{pins:List (Addr×Obj)}{s:O8}{M:Mem}
def hI (h:bN X f r)(i:∀x y H Q,r' x y H Q->r x y H Q):bN X f r':=λpins s σ H x y v u Q I j B q=>h pins s σ H x y v u Q I j B (i x y H Q q)
def kJ (h:cb X f r)(i:∀xs H Q,r' xs H Q->r xs H Q):cb X f r':=λpins s σ H xs u Q I j q=>h pins s σ H xs u Q I j (i xs H Q q)
def mr {g:Int->Int->Bool}(ho:o=.lt\/o=.le\/o=.gt\/o=.ge)(I:∀i j,bp o (.int i) (.int j) []=some (g i j))(h:f5 fa X.K o x y H Q) :
 ∃i j,x=.int i/\y=.int j/\Q (.bl (g i j)) H:=by
 obtain⟨μ,M,v,B,b,J,h1,h2,e,q⟩:=h;have u:∀i j,v=.int i->B=.int j->∃i j,x=.int i/\y=.int j/\Q (.bl (g i j)) H:=λi j e1 e2=>by
  subst e1 e2;have E:bp o (.int i) (.int j) M=some (g i j):=by
   have:=I i j;rcases ho with rfl|rfl|rfl|rfl<;>exact this
  rw[e] at E;have F:=Ph E;subst F;exact⟨i,j,h1,h2,q⟩
 rcases ho with rfl|rfl|rfl|rfl<;>
 ·cases v with
  |int i=>cases B<;>first|exact u _ _ rfl rfl|cases e
  |_=>cases e
def OG:bN X (compareOp .Lt) (f5 fa X.K .lt):=hI LN λx y H Q h=>mr (.inl rfl) (λ_ _=>rfl) h
def OH:bN X (compareOp .LtE) (f5 fa X.K .le):=hI LO λx y H Q h=>mr (.inr (.inl rfl)) (λ_ _=>rfl) h
def OJ:bN X (compareOp .Gt) (f5 fa X.K .gt):=hI LP λx y H Q h=>mr (.inr (.inr (.inl rfl))) (λ_ _=>rfl) h
def OK:bN X (compareOp .GtE) (f5 fa X.K .ge):=hI LQ λx y H Q h=>mr (.inr (.inr (.inr rfl))) (λ_ _=>rfl) h
def u6 {K:O0}(h:Rep fa K μ H d v):decide (v=.non)=xm d:=by
 cases d with
 |non=>obtain rfl:v=.non:=h;rfl
 |bl b=>obtain rfl:v=.bl b:=h;rfl
 |int b=>obtain rfl:v=.int b:=h;rfl
 |str b=>obtain rfl:v=.str b:=h;rfl
 |tup b=>obtain⟨a,j,rfl,_⟩:=h;rfl
 |lst b=>obtain⟨a,j,rfl,_⟩:=h;rfl
 |frz b=>obtain⟨a,j,rfl,_⟩:=h;rfl
 |cell b=>obtain⟨a,rfl,_⟩:=h;rfl
 |fn b=>obtain⟨a,rfl,_⟩:=h;rfl
 |exc y p=>obtain⟨a,_,_,rfl,_⟩:=h;rfl
def MI:bN X (compareOp .Is) (f5 fa X.K .isN):=hI Jf λx y H Q h=>by
 obtain⟨μ,M,u,j,b,v,h1,h2,e,q⟩:=h;cases j<;>first|cases (show(none:Option Bool)=some b from e)|skip
 refine{h2,?_};rw[u6 h1];rw[Ph e];exact q
def KJ:bN X (compareOp .IsNot) (f5 fa X.K .notN):=hI FX λx y H Q h=>by
 obtain⟨μ,M,u,j,b,v,h1,h2,e,q⟩:=h;cases j<;>first|cases (show(none:Option Bool)=some b from e)|skip
 refine{h2,?_};rw[u6 h1];rw[Ph e];exact q
noncomputable def ux (x:D)(j:aq 64 x=true):∀(ds:List D),ds.all (aq 63)=true->((cv ds).any λy=>PyData.eqv y (toPy x))=ds.any λy=>bH y x
 |[],_=>rfl
 | d::r,h=>by
   simp only[Qx,O2] at h;simp only[cv,List.any_cons,mj 63 64 d x h.1 j,ux x j r h.2]
theorem sd (n:Nat):∀ds:List D,ds.all (aq n)=true->PyData.canLayAll0 (cv ds)=true/\PyData.depthAll (cv ds)<=n
 |[],_=>by simp[cv,PyData.canLayAll0,PyData.depthAll]
 | d::r,h=>by
   simp only[Qx,O2] at h;obtain⟨h1,h2⟩:=oZ n d h.1;obtain⟨h3,h4⟩:=sd n r h.2;simp only[cv,PyData.canLayAll0,PyData.depthAll,h1,h3,Bool.and_self,true_and];omega
def yP (I:Inv X pins σ H s)(L:RelM fa X.K μ H M)(F:ds.all (aq 63)=true)(h:Rep fa X.K μ H d v)(r:RelV v u)(e:cE M d=some ds) :
 (∃y,Reads s.heap u (.list (cv ds)) y)\/∃y,Reads s.heap u (.tuple (cv ds)) y:=by
 obtain⟨a,J,rfl,h1,h2⟩:=iP L h e;obtain rfl:u=Value.ref a:=r;rcases h1 with h1|h1
 ·obtain⟨j,E,⟨o,k,e1,e2,O,B⟩,_⟩:=I.list h1;obtain⟨y,q⟩:=eT I ds 63 J j F h2 E;exact .inl {_,.list e1 e2 B (by simpa using q)}
 ·obtain⟨j,E,⟨o,e1,e2,k,B⟩,_⟩:=I.tuple h1;obtain⟨y,q⟩:=eT I ds 63 J j F h2 E;exact .inr {_,.tuple e1 e2 B (by simpa using q)}
set_option tactic.hygienic true in
def zU (L:Rm X)(I:Inv X pins σ H s)(F:RelM fa X.K μ H M)(h1:Rep fa X.K μ H dx x)(h2:Rep fa X.K μ H dy y)(O:RelV x v)(P:RelV y u)
 (e1:cE M dy=some ds) (e2:jd (view M dx) ds=some b) (j:Bool) (q:Q (.bool (if j then !b else b)) s):wpAny (model X.prog X.w) X.A (compareOp (if j then .NotIn else .In) v u) Q X.xe s:=by
 unfold jd at e2;split at e2
 ·next z=>
  simp only[O2] at z;obtain⟨p1,p2⟩:=z;have J:=Ph e2;subst J;obtain⟨R,r1⟩:=j8 I F p1 h1 O;obtain⟨B,d1⟩:=oZ 64 _ p1;obtain⟨E,S⟩:=sd 63 ds p2;have h:X.A.units+1+min (PyData.depthAll (cv ds)) (toPy (view M dx)).depth<cLine:=by unfold Rm at L;omega
  rw[<- ux _ p1 ds p2] at q;rcases yP I F p2 h2 P e1 with⟨bs,r2⟩|⟨bs,r2⟩
  ·cases j
   ·exact SeqAt.in_list_reads r2 r1 E B h q
   ·exact SeqAt.notIn_list_reads r2 r1 E B h q
  ·cases j
   ·exact SeqAt.in_tuple_reads r2 r1 E B h q
   ·exact SeqAt.notIn_tuple_reads r2 r1 E B h q
 ·cases e2
def OI (O:Rm X):bN X (compareOp .In) (f5 fa X.K .isin):=by
 intro pins s σ H x y v u Q I E F h;obtain⟨μ,M,B,j,b,L,h1,h2,e,q⟩:=h;have gen:(cE M j).bind (jd (view M B))=some b->wpAny (model X.prog X.w) X.A (compareOp .In v u) (EP X pins σ Q) X.xe s:=λe=>by
  cases e1:cE M j with
  |none=>rw[e1] at e;cases e
  | some P=>
    rw[e1] at e;exact zU O I L h1 h2 E F e1 e false {.bl b,H,I,rfl,q}
 by_cases hs:(∃a,B=.str a)/\∃c,j=.str c
 ·obtain⟨⟨a,rfl⟩,c,rfl⟩:=hs;have J:=Ph e;subst J;exact zg pins s σ H x y v u Q I E F ⟨a,c,h1,h2,q⟩
 ·refine gen ?_;cases B<;>first|exact e|(cases j<;>first|exact e|exact absurd {{_,rfl},_,rfl} hs)
def G9 (P:Rm X):bN X (compareOp .NotIn) (f5 fa X.K .notin):=by
 intro pins s σ H x y v u Q I F J h;obtain⟨μ,M,j,B,b,O,h1,h2,e,q⟩:=h;have gen:((cE M B).bind (jd (view M j))).map (!·)=some b->wpAny (model X.prog X.w) X.A (compareOp .NotIn v u) (EP X pins σ Q) X.xe s:=λe=>by
  cases e1:cE M B with
  |none=>rw[e1] at e;cases e
  | some L=>
    rw[e1] at e;cases e2:jd (view M j) L with
    |none=>rw[Q6,e2] at e;cases e
    | some k=>
      rw[Q6,e2] at e;have E:=Ph e;subst E;exact zU P I O h1 h2 F J e1 e2 true {.bl _,H,I,rfl,q}
 by_cases hs:(∃a,j=.str a)/\∃c,B=.str c
 ·obtain⟨⟨a,rfl⟩,c,rfl⟩:=hs;have E:=Ph e;subst E;exact sM pins s σ H x y v u Q I F J ⟨a,c,h1,h2,q⟩
 ·refine gen ?_;cases j<;>first|exact e|(cases B<;>first|exact e|exact absurd {{_,rfl},_,rfl} hs)
noncomputable def dZ:jv->CmpOp
 |.eq=>.Eq|.ne=>.NotEq|.lt=>.Lt|.le=>.LtE|.gt=>.Gt|.ge=>.GtE|.isN=>.Is|.notN=>.IsNot|.isin=>.In|.notin=>.NotIn
def mv (h:Rm X):∀o:jv,bN X (compareOp (dZ o)) (f5 fa X.K o)
 |.eq=>OL h|.ne=>OF h|.lt=>OG|.le=>OH|.gt=>OJ|.ge=>OK|.isN=>MI|.notN=>KJ|.isin=>OI h|.notin=>G9 h
def lp (fa:Fa)(K:O0)(m:Bool)(o:rj):R2:=λx y H Q=>∃μ M h j,RelM fa K μ H M/\Rep fa K μ H h x/\Rep fa K μ H j y/\af (fi m o h j M) (a7 fa K μ H Q)
def aN (j:RelM fa X.K μ H M)(h:a7 fa X.K μ H Q d M)(r:Rep fa X.K μ H d v):Q v H:=h v H μ .refl j r
set_option tactic.hygienic true in
def fJ (j:RelM fa X.K μ H M)(r:aG fa X.K μ H ds vs)(h:af (bt m ds M) (a7 fa X.K μ H Q)):ds.length<=sz/\∀p,H p=none->Q (.ref p) (upd H p (.lst vs)):=by
 unfold bt at h;split at h
 ·next v=>
  refine{v,λp u=>?_};cases m with
  | true=>
    exact h (.ref p) _ (eW μ M.length p) (Ext.cell j u) (j.cell u r) {p,rfl,by simp[eW]}
  | false=>
    exact h (.ref p) _ μ (Ext.alloc j u) (j.alloc u) {p,vs,rfl,{bJ,j.fresh u},r.ext (Ext.alloc j u)}
 ·exact h.elim
def gF (j:RelM fa X.K μ H M)(r:aG fa X.K μ H ds vs)(h:a7 fa X.K μ H Q (.tup ds) M):∀p,H p=none->Q (.ref p) (upd H p (.tup vs)):=λp u=>
 h (.ref p) _ μ (Ext.alloc j u) (j.alloc u) {p,vs,rfl,.of bJ,r.ext (Ext.alloc j u)}
def cJ:sz=sizeLine:=by rw[sizeLine_eq];rfl
def BM:bN X (binaryOp .Add) (λx y H Q=>∃a b ys,x=.ref a/\y=.ref b/\c8 X.K H a []/\c8 X.K H b ys/\Q (.ref b) H):=by
 intro pins s σ H x y v u Q I rx ry h;obtain⟨a,b,ys,rfl,rfl,W,Y,q⟩:=h;cases rx;cases ry;obtain⟨its,r1,p1,_⟩:=I.tuple W;obtain⟨B,r2,p2,_⟩:=I.tuple Y;cases r1;obtain⟨⟨cls,U,S,sl⟩,ho,hc,n,hd⟩:=id p1;obtain⟨⟨R,J,E,P⟩,j,L,n2,O⟩:=id p2;subst hc hd L O;exact concat_meets {_,ho,rfl} {_,j,rfl} noFill_tuple_add seq_tuple_add PySem.F.slot_tuple_add PySem.F.entry_tuple_add (PySem.F.args_tuple_add_2 _ _)
  (tuple_addW0 a b #[] B.toArray n n2 U J sl P rfl) {ho,j,{.ref b,H,I,rfl,q}}
def CJ (I:Inv X pins σ H s)(j:RelM fa X.K μ H M)(h1:Rep fa X.K μ H dx x)(h2:Rep fa X.K μ H dy y)(O:RelV x v)(P:RelV y u)
 (h:af (match iR M dx,iR M dy with|some x,some y=>bt m (x++y) M|_,_=>.bad) (a7 fa X.K μ H Q)):wpAny (model X.prog X.w) X.A (binaryOp .Add v u) (EP X pins σ Q) X.xe s:=by
 cases e1:iR M dx with
 |none=>rw[e1] at h;exact h.elim
 | some xs=>
   cases e2:iR M dy with
   |none=>rw[e1,e2] at h;exact h.elim
   | some U=>
     rw[e1,e2] at h;obtain⟨a,R,rfl,F,B⟩:=iQ j h1 e1;obtain⟨b,S,rfl,J,E⟩:=iQ j h2 e2;obtain⟨L,k⟩:=fJ j (B.append E) h;refine Jg pins s σ H _ _ v u Q I O P {a,b,R,S,rfl,rfl,F,J,?_,k};rw[B.length,E.length,<- Pt,<- cJ];exact L
set_option tactic.hygienic true in
def MQ (m:Bool):bN X (binaryOp .Add) (lp fa X.K m .add):=by
 intro pins s σ H x y v u Q I F J h;obtain⟨μ,M,L,O,B,h1,h2,h⟩:=h;have hi:∀i j,L=.int i->O=.int j->wpAny (model X.prog X.w) X.A (binaryOp .Add v u) (EP X pins σ Q) X.xe s:=λi j e1 e2=>by
  subst e1 e2;exact Jh pins s σ H x y v u Q I F J {i,j,h1,h2,aN B h rfl}
 have hs:∀i j,L=.str i->O=.str j->wpAny (model X.prog X.w) X.A (binaryOp .Add v u) (EP X pins σ Q) X.xe s:=λi j e1 e2=>by
  subst e1 e2;have h:af (if i.cps.size+j.cps.size<=sz then .ok (.str {i.cps++j.cps}) M else .bad) (a7 fa X.K μ H Q):=h;split at h
  ·next W=>exact wL pins s σ H x y v u Q I F J {i,j,h1,h2,by rw[<- cJ];exact W,aN B h rfl}
  ·exact h.elim
 have ht:∀i j,L=.tup i->O=.tup j->wpAny (model X.prog X.w) X.A (binaryOp .Add v u) (EP X pins σ Q) X.xe s:=λi j e1 e2=>by
  subst e1 e2;have h:af (if (i++j).length<=sz then .ok (.tup (i++j)) M else .bad) (a7 fa X.K μ H Q):=h;split at h
  ·next W=>
   obtain⟨a,R,e1,S,E⟩:=id h1;obtain⟨b,Y,e2,U,P⟩:=id h2;by_cases h0:i=[]
   ·subst h0;obtain rfl:R=[]:=E;exact BM pins s σ H x y v u Q I F J {a,b,Y,e1,e2,S,U,aN B h ⟨b,Y,rfl,U,P⟩}
   ·have hv:R≠[]:=λz=>h0 (by have:=E.length;rw[z] at this;exact Q8.mp this.symm)
    refine FZ pins s σ H x y v u Q I F J {a,b,R,Y,e1,e2,S,U,hv,?_,λz=>?_,λ_=>gF B (E.append P) h}
    ·rw[E.length,P.length,<- Pt,<- cJ];exact W
    ·subst z;have ej:=Q8.mp P.length.symm;subst ej;exact aN B h {a,R,rfl,S,by simpa using E}
  ·exact h.elim
 cases L<;>cases O<;>first|exact hi _ _ rfl rfl|exact hs _ _ rfl rfl|exact ht _ _ rfl rfl|exact CJ (m:=m) I B h1 h2 F J h
def rX {g:Int->Int->Int}(hr:bN X (binaryOp op) (rI C λi j=>.int (g i j)))
 (B:∀u v M (P:D->Mem->Prop),af (fi m o u v M) P->∃i j,u=.int i/\v=.int j/\C i j/\P (.int (g i j)) M):bN X (binaryOp op) (lp fa X.K m o):=hI hr λx y H Q h=>by
 obtain⟨μ,M,u,v,E,h1,h2,h⟩:=h;obtain⟨i,j,rfl,rfl,c,q⟩:=B u v M _ h;exact{i,j,h1,h2,c,aN E q rfl}
def MK (m:Bool):bN X (binaryOp .Sub) (lp fa X.K m .sub):=rX (C:=λ_ _=>True) (hI Ja (by rintro x y H Q ⟨i,j,e1,e2,_,q⟩;exact⟨i,j,e1,e2,q⟩)) λu v M P h=>by
 cases u<;>cases v<;>first|exact{_,_,rfl,rfl,trivial,h}|exact h.elim
set_option tactic.hygienic true in
def KP (m:Bool):bN X (binaryOp .FloorDiv) (lp fa X.K m .fdiv):=rX FY λu v M P h=>by
 have y:∀i j,u=.int i->v=.int j->∃i j,u=.int i/\v=.int j/\Lc i j/\P (.int (i / j)) M:=λi j e1 e2=>by
  subst e1 e2;have h:af (if 0<j/\j<1073741824 then .ok (.int (i / j)) M else .bad) P:=h;split at h
  ·next c=>exact⟨i,j,rfl,rfl,c,h⟩
  ·exact h.elim
 cases u<;>cases v<;>first|exact y _ _ rfl rfl|exact h.elim
set_option tactic.hygienic true in
def MO (m:Bool):bN X (binaryOp .Mod) (lp fa X.K m .mod):=rX Je λu v M P h=>by
 have y:∀i j,u=.int i->v=.int j->∃i j,u=.int i/\v=.int j/\0<j/\P (.int (i % j)) M:=λi j e1 e2=>by
  subst e1 e2;have h:af (if 0<j then .ok (.int (i % j)) M else .bad) P:=h;split at h
  ·next c=>exact⟨i,j,rfl,rfl,c,h⟩
  ·exact h.elim
 cases u<;>cases v<;>first|exact y _ _ rfl rfl|exact h.elim
set_option tactic.hygienic true in
def MM (m:Bool):bN X (binaryOp .Pow) (lp fa X.K m .pow):=rX Jc λu v M P h=>by
 have y:∀i j,u=.int i->v=.int j->∃i j,u=.int i/\v=.int j/\Lb i j/\P (.int (i^j.toNat)) M:=λi j e1 e2=>by
  subst e1 e2;have h:af (if 0<=j/\j<=1000000/\i.natAbs<2^64 then .ok (.int (i^j.toNat)) M else .bad) P:=h;split at h
  ·next c=>exact⟨i,j,rfl,rfl,c,h⟩
  ·exact h.elim
 cases u<;>cases v<;>first|exact y _ _ rfl rfl|exact h.elim
set_option tactic.hygienic true in
def BD {j:Int}(I:Inv X pins σ H s)(B:RelM fa X.K μ H M)(h1:Rep fa X.K μ H dx x)(h2:Rep fa X.K μ H (.int j) y)(J:RelV x v)(L:RelV y u)
 (h:af (match iR M dx with|some x=>if x.length*j.toNat<=sz/\-(2^63)<=j/\j<2^63 then bt m (List.replicate j.toNat x).flatten M else .bad|none=>.bad) (a7 fa X.K μ H Q)) :
 wpAny (model X.prog X.w) X.A (binaryOp .Mult v u) (EP X pins σ Q) X.xe s:=by
 cases e1:iR M dx with
 |none=>rw[e1] at h;exact h.elim
 | some xs=>
   rw[e1] at h;simp only at h;split at h
   ·next c=>
    obtain⟨a,O,rfl,F,E⟩:=iQ B h1 e1;obtain⟨P,k⟩:=fJ B (E.rep j.toNat) h;exact Jb pins s σ H _ _ v u Q I J L {a,j,O,rfl,h2,F,c.2.1,c.2.2,by rw[E.length,<- cJ];exact c.1,k}
   ·exact h.elim
end
end LD
namespace LD
open PySem PySem.Spec PyProof.Rows L2 PySem.Builtin
open PySem.Sem (wp)
def mW:fillsNumberSlot (.type "tuple") "mul"=pure false:=
 PySem.fillsNumberSlot_seq F.slot_tuple_mul.lookup `k F.slot_tuple_rmul.lookup `k
def sy:seqRepeat? (.type "tuple")=pure (some (.builtin "tuple.__mul__")):=by
 unfold seqRepeat?;rw[PySem.seqSlot_of (name:="__mul__") F.slot_tuple_mul.lookup `k,PySem.seqSlot_of (name:="__rmul__") F.slot_tuple_rmul.lookup `k]
 rfl
def pf (a:Int)(t:Tok)(l:Addr)(items:Array O3)(n:Nat)(dd:Option Addr)(sl:Array (Option O3)) :
 Meets (Builtin.«int.__rmul__» {[.int a t,.ref l],[]}) (λ_ R s=>s.heap.get? l=some {cls:=.type "tuple",dict:=dd,data:=.seq items n,slots:=sl}/\R (.ok (.ret Value.notImplemented)) s):=
 .of_wp λprog w A R s h=>by obtain⟨j,g,d,tk,os⟩:=s;obtain⟨hl,h⟩:=h;wp_walk using wpAny_loadPart' hl;exact{_,rfl,h}
def wK {x:Int}(h:-(2^63)<=x)(h1:x<2^63):(decide (x < -2^63)||decide (x≥2^63))=false:=by
 rw[decide_eq_false `a,decide_eq_false `a];rfl
def pF (l:Addr)(items:Array O3)(n:Nat)(dd:Option Addr)(sl:Array (Option O3))(x:Int)(u:Tok)(j:-(2^63)<=x)(h1:x<2^63)(v:(items.isEmpty||x==1)=true) :
 Meets (Builtin.«tuple.__mul__» {[.ref l,.int x u],[]}) (λ_ R s=>s.heap.get? l=some {cls:=.type "tuple",dict:=dd,data:=.seq items n,slots:=sl}/\R (.ok (.ret (.ref l))) s):=
 .of_wp λprog w A R s h=>by
  obtain⟨y,g,d,tk,os⟩:=s;obtain⟨hl,h⟩:=h;have f1:=AutoSeq1.idx_int;wp_walk using wpAny_loadPart' hl
  refine wpAny_ite_false (by rw[wK j h1];rfl) ?_
  wp_walk using wpAny_loadPart' hl
  exact{_,rfl,h}
def pG (l:Addr)(items:Array O3)(n:Nat)(dd:Option Addr)(sl:Array (Option O3))(x:Int)(u:Tok)(j:-(2^63)<=x)(h1:x<2^63)(y:(items.isEmpty||x==1)=false)(v:(decide (x<=0)||items.isEmpty)=true) :
 Meets (Builtin.«tuple.__mul__» {[.ref l,.int x u],[]}) (λ_ R s=>s.heap.get? l=some {cls:=.type "tuple",dict:=dd,data:=.seq items n,slots:=sl}/\R (.ok (.ret (.ref s.heap.objs.size))) {s with heap:=s.heap.push {cls:=Value.type "tuple",data:=Data.seq #[]},toks:=s.toks}):=
 .of_wp λprog w A R s h=>by
  obtain⟨B,g,d,tk,os⟩:=s;obtain⟨hl,h⟩:=h;have f1:=AutoSeq1.idx_int;wp_walk using wpAny_loadPart' hl
  refine wpAny_ite_false (by rw[wK j h1];rfl) ?_
  wp_walk using wpAny_loadPart' hl
  exact{_,rfl,h}
def pH (l:Addr)(items:Array O3)(n:Nat)(dd:Option Addr)(sl:Array (Option O3))(x:Int)(u:Tok)(j:-(2^63)<=x)(h1:x<2^63)(B:(items.isEmpty||x==1)=false)(v:(decide (x<=0)||items.isEmpty)=false)
 (hs:(items.size:Int)*x<=16777216) (y:(List.foldl (λx1 x2=>x1++x2) #[] (List.replicate x.toNat items)).size<=sizeLine) :
 Meets (Builtin.«tuple.__mul__» {[.ref l,.int x u],[]}) (λ_ R s=>s.heap.get? l=some {cls:=.type "tuple",dict:=dd,data:=.seq items n,slots:=sl}/\R (.ok (.ret (.ref s.heap.objs.size))) {s with heap:=s.heap.push {cls:=Value.type "tuple",data:=Data.seq (List.foldl (λx1 x2=>x1++x2) #[] (List.replicate x.toNat items))},toks:=s.toks}):=
 .of_wp λprog w A R s h=>by
  obtain⟨E,g,d,tk,os⟩:=s;obtain⟨hl,h⟩:=h;have f1:=AutoSeq1.idx_int;wp_walk using wpAny_loadPart' hl
  refine wpAny_ite_false (by rw[wK j h1];rfl) ?_
  wp_walk using wpAny_loadPart' hl
  refine wpAny_ite_false (decide_eq_false `a) ?_
  wp_walk using wpAny_loadPart' hl
  refine wpAny_ite_false (decide_eq_false (by unfold Tuple.tupleTooMany;rw[sizeLine_eq];simp;omega)) ?_
  wp_walk using wpAny_loadPart' hl
  exact{_,rfl,h}
section
variable{fa:Fa}{X:Cx}{μ:Mu}{H:Hp}{σ:L2.St}{pins:List (Addr×Obj)}{s:O8}{M:Mem}
def qx (h:List O3)(m:Nat):List.foldl (λx1 x2=>x1++x2) #[] (List.replicate m h.toArray)=(List.replicate m h).flatten.toArray:=by
 have:=foldl_rep h m [];rw[Rg] at this;exact this
def FW:bN X (binaryOp .Mult) (λx y H Q=>∃l k xs,x=.ref l/\y=.int k/\c8 X.K H l xs/\-(2^63)<=k/\k<2^63/\xs.length*k.toNat<=sz/\
 ((List.replicate k.toNat xs).flatten=xs->Q (.ref l) H)/\∀p,H p=none->Q (.ref p) (upd H p (.tup (List.replicate k.toNat xs).flatten))):=by
 intro pins s σ H x y v u Q I rx ry h;obtain⟨l,k,xs,rfl,rfl,Y,h1,h2,U,q1,q2⟩:=h;cases rx;obtain⟨t,rfl⟩:=ry;obtain⟨j,r,p,hzz⟩:=I.tuple Y;have hl:=r.length;obtain⟨⟨cls,L,data,sl⟩,ho,W,n,hd⟩:=id p;subst W hd;refine wpAny_binaryOp_repeat_ref `d {_,ho,rfl} (λs'=>typeIs_int s' k t) mW F.fills_int_mul F.slot_int_rmul sy F.slot_int_index.lookup
  (call_meets F.slot_int_rmul (typeIs_int s k t) F.entry_int_rmul (F.args_int_rmul_2 _ _) (pf k t l j.toArray n L sl) {ho,rfl,{_,ho,rfl},?_})
 have new:∀(B:List O3),Vals (List.replicate k.toNat xs).flatten B->EP X pins σ Q (.ref s.heap.objs.size) {s with heap:=s.heap.push {cls:=Value.type "tuple",data:=Data.seq B.toArray}}:=λB r'=>by
  refine{.ref s.heap.objs.size,_,I.laid (λb ob q=>O5 _ q) (O4 _) ?_,rfl,q2 _ (I.hok.fresh (O4 _))};exact{by rw[len_rep,Nat.mul_comm,<- cJ];exact U,_,r',IsTup.new _ _}
 by_cases O:(j.toArray.isEmpty||k==1)=true
 ·refine call_meets F.slot_tuple_mul {_,ho,rfl} F.entry_tuple_mul (F.args_tuple_mul_2 _ _) (pF l j.toArray n L sl k t h1 h2 O) {ho,{.ref l,H,I,rfl,q1 ?_}};rcases Bool.or_eq_true_iff.mp O with z|z
  ·have e:j=[]:=by simpa using z
   subst e;have e2:=Q8.mp hl;subst e2;simp
  ·have e:k=1:=by simpa using z
   subst e;simp
 ·have E:(j.toArray.isEmpty||k==1)=false:=by simpa using O
  by_cases P:(decide (k<=0)||j.toArray.isEmpty)=true
  ·refine call_meets F.slot_tuple_mul {_,ho,rfl} F.entry_tuple_mul (F.args_tuple_mul_2 _ _) (pG l j.toArray n L sl k t h1 h2 E P) {ho,new [] ?_};have hk:k<=0:=by
    rcases Bool.or_eq_true_iff.mp P with z|z
    ·simpa using z
    ·rw[z] at E;cases E
   have R:k.toNat=0:=`a
   rw[R];exact .nil
  ·have J:(decide (k<=0)||j.toArray.isEmpty)=false:=by simpa using P
   have hk:0<k:=by
    have:=(Bool.or_eq_false_iff.mp J).1;simpa using this
   have hs:(j.toArray.size:Int)*k<=16777216:=by
    have e1:(j.toArray.size:Int)*k=((xs.length*k.toNat:Nat):Int):=by
     rw[Pd,<- hl,Int.natCast_mul,Int.toNat_of_nonneg `a]
    rw[e1];have:xs.length*k.toNat<=16777216:=U;omega
   have S:(List.foldl (λx1 x2=>x1++x2) #[] (List.replicate k.toNat j.toArray)).size<=sizeLine:=by
    rw[qx,Pd,len_rep,Nat.mul_comm,<- hl,<- cJ];exact U
   refine call_meets F.slot_tuple_mul {_,ho,rfl} F.entry_tuple_mul (F.args_tuple_mul_2 _ _) (pH l j.toArray n L sl k t h1 h2 E J hs S) {ho,?_};rw[qx];exact new _ (r.rep k.toNat)
set_option tactic.hygienic true in
def MN (m:Bool):bN X (binaryOp .Mult) (lp fa X.K m .mul):=by
 intro pins s σ H x y v u Q I L O h;obtain⟨μ,M,B,E,F,h1,h2,h⟩:=h;have U:∀i j,B=.int i->E=.int j->wpAny (model X.prog X.w) X.A (binaryOp .Mult v u) (EP X pins σ Q) X.xe s:=λi j e1 e2=>by
  subst e1 e2;have h:af (if (-(2^64)<i/\i<2^64)\/(-(2^64)<j/\j<2^64) then .ok (.int (i*j)) M else .bad) (a7 fa X.K μ H Q):=h;split at h
  ·next c=>exact Jd pins s σ H x y v u Q I L O {i,j,h1,h2,c,aN F h rfl}
  ·exact h.elim
 have W:∀i j,B=.tup i->E=.int j->wpAny (model X.prog X.w) X.A (binaryOp .Mult v u) (EP X pins σ Q) X.xe s:=λi j e1 e2=>by
  subst e1 e2;have h:af (if i.length*j.toNat<=sz/\-(2^63)<=j/\j<2^63 then .ok (.tup (List.replicate j.toNat i).flatten) M else .bad) (a7 fa X.K μ H Q):=h;split at h
  ·next c=>
   obtain⟨a,R,e1,P,J⟩:=id h1;refine FW pins s σ H x y v u Q I L O {a,j,R,e1,h2,P,c.2.1,c.2.2,by rw[J.length];exact c.1,λz=>?_,gF F (J.rep j.toNat) h}
   refine aN F h {a,R,rfl,P,?_};have:=J.rep j.toNat;rw[z] at this;exact this
  ·exact h.elim
 have hl:∀j,E=.int j->af (match iR M B with|some x=>if x.length*j.toNat<=sz/\-(2^63)<=j/\j<2^63 then bt m (List.replicate j.toNat x).flatten M else .bad|none=>.bad) (a7 fa X.K μ H Q)->
  wpAny (model X.prog X.w) X.A (binaryOp .Mult v u) (EP X pins σ Q) X.xe s:=λj e1 S=>by
  subst e1;exact BD I F h1 h2 L O S
 cases E with
 |int j=>cases B<;>first|exact U _ _ rfl rfl|exact W _ _ rfl rfl|exact hl _ rfl h
 |_=>cases B<;>exact h.elim
noncomputable def binOp:rj->Operator
 |.add=>.Add|.sub=>.Sub|.mul=>.Mult|.fdiv=>.FloorDiv|.mod=>.Mod|.pow=>.Pow
def MP (m:Bool):∀o:rj,bN X (binaryOp (binOp o)) (lp fa X.K m o)
 |.add=>MQ m|.sub=>MK m|.mul=>MN m|.fdiv=>KP m|.mod=>MO m|.pow=>MM m
end
end LD
namespace LD
open PySem PySem.Spec PyProof.Rows L2
section
variable{fa:Fa}{X:Cx}{μ:Mu}{H:Hp}{σ:L2.St}{pins:List (Addr×Obj)}{s:O8}{M:Mem}
def JV (h:ju X r)(i:∀x y H Q,r' x y H Q->r x y H Q):ju X r':=λB j pins s σ H x y v u Q I E F q hs=>h B j pins s σ H x y v u Q I E F (i x y H Q q) hs
def rIdx (fa:Fa)(K:O0):R2:=λx y H Q=>∃μ M h j d,RelM fa K μ H M/\Rep fa K μ H h x/\Rep fa K μ H j y/\da h j M=some d/\a7 fa K μ H Q d M
def tH (n:Nat)(i:Int):LD.bO n i=L2.bO n i:=rfl
set_option tactic.hygienic true in
def L4:ju X (rIdx fa X.K):=JV JU λx y H Q h=>by
 obtain⟨μ,M,u,I,d,F,h1,h2,e,q⟩:=h;have gen:∀i,I=.int i->((cE M u).bind λE=>(LD.bO E.length i).bind λj=>E[j]?)=some d->IH X.K x y H Q:=λi R O=>by
  subst R;clear e;have e:=O;clear O;cases e1:cE M u with
  |none=>rw[e1] at e;cases e
  | some E=>
    rw[e1,Q6] at e;obtain⟨a,L,rfl,B,r⟩:=iP F h1 e1;cases e2:LD.bO E.length i with
    |none=>rw[e2] at e;cases e
    | some j=>
      rw[e2,Q6] at e;obtain⟨v,U,P⟩:=r.get e;have he:rg L i=some v:=by
       unfold rg;rw[r.length,<- tH,e2];exact U
      rcases B with B|B
      ·exact .inl {a,L,i,v,rfl,h2,B,he,aN F q P}
      ·exact .inr (.inl {a,L,i,v,rfl,h2,B,he,aN F q P})
 have str:∀z i,u=.str z->I=.int i->IH X.K x y H Q:=λz i e1 e2=>by
  subst e1 e2;have e:(if z.cps.size<=sz then(LD.bO z.cps.size i).bind λj=>(z.cps[j]?).map λc=>D.str {#[c]} else none)=some d:=e;split at e
  ·next W=>
   cases e2:LD.bO z.cps.size i with
   |none=>rw[e2] at e;cases e
   | some j=>
     rw[e2,Q6] at e;cases J:z.cps[j]? with
     |none=>rw[J] at e;cases e
     | some c=>
       rw[J] at e;have S:=Ph e;subst S;refine .inr (.inr {z,i,c,h1,h2,by rw[<- cJ];exact W,?_,aN F q rfl})
       unfold rg;rw[show z.cps.toList.length=z.cps.size by simp,<- tH,e2]
       simpa using J
  ·cases e
 cases I with
 |int i=>cases u<;>first|exact str _ _ rfl rfl|exact gen _ rfl e
 |_=>cases u<;>cases (e)
def HY (h:kU X r)(i:∀x lo hi H Q,r' x lo hi H Q->r x lo hi H Q):kU X r':=λpins s σ H x v u y lo hi sl Q I j hs pl pu q=>h pins s σ H x v u y lo hi sl Q I j hs pl pu (i x lo hi H Q q)
noncomputable def nW:D->Option (Option Int)
 |.non=>some none
 |.int i=>some (some i)
 |_=>none
def mO (n d:Nat)(x:D):LD.aK n d x=(nW x).map (HT.aK n d):=by
 cases x<;>rfl
def sr:kU X (λx lo hi H Q=>∃a xs,x=.ref a/\c8 X.K H a xs/\(HT.aK xs.length 0 lo=0/\HT.aK xs.length xs.length hi=xs.length)/\Q (.ref a) H):=by
 intro pins s σ H x v U W lo hi sl Q I R hs pl pu h;obtain⟨a,xs,rfl,P,L,q⟩:=h;cases R;obtain⟨j,r,u,S⟩:=I.tuple P;refine{"tuple",_,P6.lookup,u.typeIs,?_};have y:j.toArray.size=xs.length:=by rw[Pd];exact r.length.symm
 rw[<- y] at L;obtain⟨os,J,F,O⟩:=id hs;have E:s.TypeIs (.ref sl) "slice":=⟨os,J,F⟩;unfold getItem;try with_reducible refine tqo ?_
 first|refine tqa (tqb ?_)|skip
 refine tqa (wpAny_sequenceKey u.typeIs `d ?_)
 refine tqa (wpAny_callSpecial?_slot u.typeIs P6
  (wpAny_call_entry P6 u.typeIs entry_tuple_getitem ?_ (args_tuple_getitem _ _)))
 show wpAny _ _ (Builtin.Tuple.tupleItemsOf (.ref a) >>= _) _ _ s;refine tqa (tupleItemsOf_ u ?_);refine tqa (wpAny_typeOf E ?_);rw[if_pos `d]
 refine tqa (HT.iO hs pl pu ?_);have B:(((HT.aK j.toArray.size 0 lo:Nat):Int)==0&&(1:Int)==1&&(HT.aK j.toArray.size j.toArray.size hi-HT.aK j.toArray.size 0 lo)==j.toArray.size)=true:=by
  rw[L.1,L.2];simp
 show wpAny _ _ (if (((HT.aK j.toArray.size 0 lo:Nat):Int)==0&&(1:Int)==1&&(HT.aK j.toArray.size j.toArray.size hi-HT.aK j.toArray.size 0 lo)==j.toArray.size)=true then _ else _) _ _ s;rw[if_pos B];refine tqa ?_;refine tqa (wpAny_typeOf u.typeIs ?_);refine tqb ?_;rw[if_pos `d]
 exact tqa (wpAny_rule (tqb {_,rfl,tqb {.ref a,H,I,rfl,q}}))
def NX (fa:Fa)(K:O0)(m:Bool):V->Option Int->Option Int->Hp->VK->Prop:=λx lo u H Q=>∃μ M j dl h,RelM fa K μ H M/\Rep fa K μ H j x/\nW dl=some lo/\nW h=some u/\af (dU m j dl h M) (a7 fa K μ H Q)
def Fq (m:Bool):kU X (NX fa X.K m):=by
 refine HY (Fs.or (HW.or sr)) λx lo u H Q h=>?_;obtain⟨μ,M,B,dl,F,E,h1,e1,e2,h⟩:=h;have gen:af (match fg M B with
  | some xs=>match LD.aK xs.length 0 dl,LD.aK xs.length xs.length F with
    |some l,some h=>bt m (cut xs l h) M
    |_,_=>.bad
  |none=>.bad) (a7 fa X.K μ H Q)->IC X.K x lo u H Q:=λh=>by
  cases e:fg M B with
  |none=>rw[e] at h;exact h.elim
  | some xs=>
    rw[e] at h;simp only[mO,e1,e2,Option.map_some] at h;obtain⟨a,j,rfl,v,r⟩:=bK E h1 e;have hl:=r.length;obtain⟨_,k⟩:=fJ E ((r.drop (HT.aK xs.length 0 lo)).take (HT.aK xs.length xs.length u-HT.aK xs.length 0 lo)) h;refine{a,j,rfl,v,?_};unfold pX;rw[hl];exact k
 have tup:∀xs,B=.tup xs->IB X.K x lo u H Q\/∃a xs,x=.ref a/\c8 X.K H a xs/\(HT.aK xs.length 0 lo=0/\HT.aK xs.length xs.length u=xs.length)/\Q (.ref a) H:=λxs e=>by
  subst e;have h:af (match LD.aK xs.length 0 dl,LD.aK xs.length xs.length F with
   |some l,some h=>.ok (.tup (cut xs l h)) M
   |_,_=>.bad) (a7 fa X.K μ H Q):=h
  simp only[mO,e1,e2,Option.map_some] at h;obtain⟨a,j,rfl,v,r⟩:=h1;have hl:=r.length;by_cases y:HT.aK j.length 0 lo=0/\HT.aK j.length j.length u=j.length
  ·refine .inr {a,j,rfl,v,y,?_};rw[hl] at y;have I:cut xs (HT.aK xs.length 0 lo) (HT.aK xs.length xs.length u)=xs:=by rw[y.1,y.2];simp[cut]
   rw[I] at h;exact aN E h ⟨a,j,rfl,v,r⟩
  ·refine .inl {a,j,rfl,v,y,?_};have k:=gF E ((r.drop (HT.aK xs.length 0 lo)).take (HT.aK xs.length xs.length u-HT.aK xs.length 0 lo)) h;unfold pX;rw[hl];exact k
 cases B<;>first|exact .inr (tup _ rfl)|exact .inl (gen h)
def pj (fa:Fa)(K:O0)(f:uI):List V->Hp->VK->Prop:=λj H Q=>∃μ M h,RelM fa K μ H M/\aG fa K μ H h j/\af (fM f h M) (a7 fa K μ H Q)
def rE {d:D}{vs:List V}{K:O0}(h:aG fa K μ H [d] vs):∃v,vs=[v]/\Rep fa K μ H d v:=by
 obtain⟨v,r,rfl,h1,h2⟩:=h;obtain rfl:r=[]:=h2;exact⟨v,rfl,h1⟩
set_option tactic.hygienic true in
def Ma:cb X (.builtin "len") (pj fa X.K .len):=kJ (uh.or ug) λB H Q h=>by
 obtain⟨μ,M,E,j,r,h⟩:=h
 match E,r,h with
 |[],_,h=>exact h.elim
 |d::_::_,_,h=>cases d<;>exact h.elim
 | [d],r,h=>
   obtain⟨v,rfl,y⟩:=rE r;have gen:af (match cE M d with|some xs=>.ok (.int xs.length) M|none=>.bad) (a7 fa X.K μ H Q)->∃p u,[v]=[.ref p]/\(cz X.K H p u\/c8 X.K H p u)/\Q (.int u.length) H:=λh=>by
    cases e:cE M d with
    |none=>rw[e] at h;exact h.elim
    | some xs=>
      rw[e] at h;obtain⟨a,B,rfl,F,r⟩:=iP j y e;refine{a,B,rfl,F,?_};rw[r.length];exact aN j h rfl
   have str:∀x,d=.str x->∃z,[v]=[V.str z]/\z.length<=sizeLine/\Q (.int z.length) H:=λx e=>by
    subst e;have h:af (if x.cps.size<=sz then .ok (.int x.cps.size) M else .bad) (a7 fa X.K μ H Q):=h;split at h
    ·next c=>exact{x,by rw[show v=.str x from y],by rw[<- cJ];exact c,aN j h rfl}
    ·exact h.elim
   cases d<;>first|exact .inr (str _ rfl)|exact .inl (gen h)
def Gv:cb X (.type "tuple") (pj fa X.K .tuple):=kJ rC λu H Q h=>by
 obtain⟨μ,M,F,y,r,h⟩:=h
 match F,r,h with
 |[],_,h=>exact h.elim
 |d::_::_,_,h=>cases d<;>exact h.elim
 | [d],r,h=>
   obtain⟨v,rfl,E⟩:=rE r;have gen:af (match fg M d with|some xs=>.ok (.tup xs) M|none=>.bad) (a7 fa X.K μ H Q)->∃p j,[v]=[.ref p]/\((cz X.K H p j/\∀l,H l=none->Q (.ref l) (upd H l (.tup j)))\/(c8 X.K H p j/\Q (.ref p) H)):=λh=>by
    cases e:fg M d with
    |none=>rw[e] at h;exact h.elim
    | some xs=>
      rw[e] at h;obtain⟨a,u,rfl,B,r⟩:=bK y E e;exact{a,u,rfl,.inl {B,gF y r h}}
   have tup:∀x,d=.tup x->∃p j,[v]=[.ref p]/\((cz X.K H p j/\∀l,H l=none->Q (.ref l) (upd H l (.tup j)))\/(c8 X.K H p j/\Q (.ref p) H)):=λx e=>by
    subst e;obtain⟨a,u,rfl,B,r⟩:=id E;exact{a,u,rfl,.inr {B,aN y h E}}
   cases d<;>first|exact tup _ rfl|exact gen h
def J4 (m:Bool):cb X (.type "list") (pj fa X.K (.list m)):=kJ uf λu H Q h=>by
 obtain⟨μ,M,y,j,r,h⟩:=h
 match y,r,h with
 |[],_,h=>exact h.elim
 |_::_::_,_,h=>exact h.elim
 | [d],r,h=>
   obtain⟨v,rfl,E⟩:=rE r;have h:af (match cE M d with|some xs=>bt m xs M|none=>.bad) (a7 fa X.K μ H Q):=h
   cases e:cE M d with
   |none=>rw[e] at h;exact h.elim
   | some xs=>
     rw[e] at h;obtain⟨a,u,rfl,B,r⟩:=iP j E e;obtain⟨_,k⟩:=fJ j r h;exact⟨a,u,rfl,B,k⟩
end
section
variable{fa:Fa}{X:Cx}{μ:Mu}{H:Hp}{σ:L2.St}{pins:List (Addr×Obj)}{s:O8}{M:Mem}
set_option tactic.hygienic true in
def NG (hM:RelM fa X.K μ H M)(h:Rep fa X.K μ H d v)(e:jx M d=some k):CT X.K v H k:=by
 cases d with
 |non=>obtain rfl:v=.non:=h;exact(Ph e).symm
 |bl b=>obtain rfl:v=.bl b:=h;exact(Ph e).symm
 |int i=>obtain rfl:v=.int i:=h;exact(Ph e).symm
 | str x=>
   obtain rfl:v=.str x:=h;have e:(if x.cps.size<=sz then some (x.cps.size != 0) else none)=some k:=e;split at e
   ·next c=>
    refine{by rw[<- cJ];exact c,?_}
    rw[<- Ph e];show(x.cps.size != 0)=((x.cps.size:Int) != 0);rw[QA];simp
   ·cases e
 | tup ds=>
   obtain⟨a,vs,rfl,hq,r⟩:=h;refine .inr (.inl {vs,hq,?_});rw[<- Ph e];have:=r.length;cases vs<;>cases ds<;>simp_all
 | lst ds=>
   obtain⟨a,vs,rfl,hq,r⟩:=bK hM h rfl;refine .inl {vs,hq,?_};rw[<- Ph e];have:=r.length;cases vs<;>cases ds<;>simp_all
 | frz ds=>
   obtain⟨a,vs,rfl,hq,r⟩:=bK hM h rfl;refine .inl {vs,hq,?_};rw[<- Ph e];have:=r.length;cases vs<;>cases ds<;>simp_all
 | cell c=>
   have e:(M[c]?).map (λds=>!ds.isEmpty)=some k:=e;cases e1:M[c]? with
   |none=>rw[e1] at e;cases e
   | some ds=>
     rw[e1] at e;obtain⟨a,vs,rfl,hq,r⟩:=bK hM h e1;refine .inl {vs,hq,?_};rw[<- Ph e];have:=r.length;cases vs<;>cases ds<;>simp_all
 |fn f=>cases e
 |exc y p=>cases e
def lj:∀{ds:List D}{bs:List Bool}{vs:List V}{us:List O3},boolsOf ds=some bs->aG fa X.K μ H ds vs->Vals vs us->PyProof.Rows.LSm.BoolsAre us bs:=by
 intro ds;induction ds with
 | nil=>
   intro bs vs us e h r;obtain rfl:vs=[]:=h;cases r;cases e;exact .nil
 | cons d ds j=>
   intro bs vs us e h r;obtain⟨v,vr,rfl,h1,h2⟩:=h;cases r with
   | cons r1 r2=>
     cases d with
     | bl b=>
       have e:(boolsOf ds).map (b::·)=some bs:=e;cases e1:boolsOf ds with
       |none=>rw[e1] at e;cases e
       | some u=>
         rw[e1] at e;have e2:=Ph e;subst e2;obtain rfl:v=.bl b:=h1;obtain rfl:_=Value.bool b:=r1;exact .cons b (j e1 h2 r2)
     |_=>cases e
def qa:cb X (.builtin "all") (λxs H Q=>∃μ ds bs p vs,xs=[.ref p]/\X.calm=true/\cz X.K H p vs/\aG fa X.K μ H ds vs/\boolsOf ds=some bs/\Q (.bl (bs.all id)) H):=by
 intro pins s σ H xs us Q I r h;obtain⟨μ,ds,bs,p,vs,rfl,L,O,P,F,q⟩:=h;obtain⟨u,rfl,S⟩:=vals1 r;cases S;obtain⟨j,R,pl,hz⟩:=I.list O;have E:=lj F P R;have y:=pl.lt;refine call_all_walk (wpAny_pyIter_list pl.isList ?_);refine{s.heap.objs.size,[s.heap.objs.size,p],[s.heap.objs.size],j.toArray.size,_,_,λi=>(bs[i]?).getD true,rfl,Walks.list (A:=X.A.in1) (I.ok.hd L) _ p (PH y) j.toArray,
  {{_,PD _ rfl,rfl,rfl},pl.isList.push _},λi v s' W U J B=>?_,λY tk hk=>?_}
 ·obtain⟨b,e,rfl⟩:=E.get i v (by simpa using J)
  simp only[e,Qj] at B;exact tqp B
 ·have e:((List.range j.toArray.size).all λi=>(bs[i]?).getD true)=bs.all id:=by
   rw[Pd,E.length];exact PyProof.Rows.LSm.range_all bs
  rw[e];exact{.bl _,H,I.kept (PyProof.Rows.LSm.kept_iter hk),rfl,q}
def Mc (B:X.calm=true):cb X (.builtin "all") (pj fa X.K .all):=kJ (qa) λu H Q h=>by
 obtain⟨μ,M,y,j,r,h⟩:=h
 match y,r,h with
 |[],_,h=>exact h.elim
 |d::_::_,_,h=>exact h.elim
 | [d],r,h=>
   obtain⟨v,rfl,F⟩:=rE r;have h:af (match fg M d with|some xs=>(match boolsOf xs with|some bs=>.ok (.bl (bs.all id)) M|none=>.bad)|none=>.bad) (a7 fa X.K μ H Q):=h
   cases e:fg M d with
   |none=>rw[e] at h;exact h.elim
   | some xs=>
     rw[e] at h;simp only at h;cases e2:boolsOf xs with
     |none=>rw[e2] at h;exact h.elim
     | some bs=>
       rw[e2] at h;obtain⟨a,u,rfl,E,r⟩:=bK j F e;exact{μ,xs,bs,a,u,rfl,B,E,r,e2,aN j h rfl}
noncomputable def tyName:Ty->String
 |.int=>"int" | .bool=>"bool" | .str=>"str" | .tuple=>"tuple" | .list=>"list" | .own _=>""
def MW:D->String
 |.non=>"NoneType" | .bl _=>"bool" | .int _=>"int" | .str _=>"str" | .tup _=>"tuple" | _=>"list"
def Lf (t:Ty)(d:D)(b:Bool)(j:∀c,t≠.own c)(e:cj t d=some b):PySem.W.kitOne X.K (.type (MW d)) (.type (tyName t))=some b:=by
 cases t with
 |own c=>exact absurd rfl (j c)
 |_=>cases d<;>first|(cases (show(none:Option Bool)=some b from e))|(have h:=Ph e;subst h;(first|rfl|decide +kernel))
def A2 (F:RelM fa X.K μ H M)(h:Rep fa X.K μ H d v)(e:cj t d=some b)(I:Inv X pins σ H s)(r:RelV v u)
 (ek:PySem.W.kitOne X.K (.type (MW d)) c=some b) (q:∀tk,Q (.bool b) {s with toks:=tk}):wpAny (model X.prog X.w) X.A (call (.builtin "isinstance") [u,c]) Q X.xe s:=by
 cases d with
 |non=>obtain rfl:v=.non:=h;exact jc I r .non ek q
 |bl x=>obtain rfl:v=.bl x:=h;exact jc I r (.bl x) ek q
 |int x=>obtain rfl:v=.int x:=h;exact jc I r (.int x) ek q
 |str x=>obtain rfl:v=.str x:=h;exact jc I r (.str x) ek q
 | tup E=>
   obtain⟨a,L,rfl,j,_⟩:=h;obtain rfl:u=Value.ref a:=r;obtain⟨B,J,⟨o,h1,h2,_⟩,_⟩:=I.tuple j;exact Qd PySem.W.kitx_tuple I.kIn ⟨o,h1,h2⟩ ek (λz=>nomatch z) q
 | lst E=>
   obtain⟨a,L,rfl,j,_⟩:=bK F h rfl;obtain rfl:u=Value.ref a:=r;obtain⟨B,J,⟨o,n,h1,h2,_⟩,_⟩:=I.list j;exact Qd PySem.W.kitx_list I.kIn ⟨o,h1,h2⟩ ek (λz=>nomatch z) q
 | frz E=>
   obtain⟨a,L,rfl,j,_⟩:=bK F h rfl;obtain rfl:u=Value.ref a:=r;obtain⟨B,J,⟨o,n,h1,h2,_⟩,_⟩:=I.list j;exact Qd PySem.W.kitx_list I.kIn ⟨o,h1,h2⟩ ek (λz=>nomatch z) q
 | cell k=>
   obtain⟨a,rfl,hk⟩:=h;obtain⟨E,L,_,j,_⟩:=F.mu_lt hk;obtain rfl:u=Value.ref a:=r;obtain⟨B,J,⟨o,n,h1,h2,_⟩,_⟩:=I.list (cz.of j);exact Qd PySem.W.kitx_list I.kIn ⟨o,h1,h2⟩ ek (λz=>nomatch z) q
 |fn f=>cases e
 |exc y p=>cases e
def Ly (fa:Fa)(K:O0)(t:Ty):List V->Hp->VK->Prop:=λh H Q=>∃μ M d v b,h=[v,.ty (tyName t)]/\RelM fa K μ H M/\Rep fa K μ H d v/\cj t d=some b/\Q (.bl b) H
def J5 (t:Ty)(y:∀c,t≠.own c):cb X (.builtin "isinstance") (Ly fa X.K t):=by
 intro pins s σ H xs E Q I r h;obtain⟨μ,M,d,v,b,rfl,j,B,e,q⟩:=h;obtain⟨u,w,rfl,r1,r2⟩:=vals2 r;obtain rfl:w=Value.type (tyName t):=r2;exact A2 j B e I r1 (Lf t d b y e) λtk=>{.bl b,H,I.tok _,rfl,q}
end
section
variable{fa:Fa}{X:Cx}
abbrev DE (fa:Fa)(X:Cx)(e:Expr)(g:Env->Mem->Res D):Prop:=PE X e (tE fa X.K g)
abbrev DT (fa:Fa)(X:Cx)(e:Expr)(g:Env->Mem->Res Bool):Prop:=PT X e (tT fa X.K g)
abbrev DW (fa:Fa)(X:Cx)(e:Expr)(g:Env->Mem->Res Bool):Prop:=PW X e (tT fa X.K g)
abbrev DA (fa:Fa)(X:Cx)(es:List Expr)(g:Env->Mem->Res (List D)):Prop:=PA X es (tA fa X.K g)
abbrev DS (fa:Fa)(X:Cx)(st:Stmt)(g:Env->Mem->Res Fl):Prop:=PS X st (tF fa X g)
abbrev j7 (fa:Fa)(X:Cx)(st:List Stmt)(g:Env->Mem->Res Fl):Prop:=j5 X st (tF fa X g)
variable{a b d:Expr}{ga gb gd:Env->Mem->Res D}{pos:Pos}
def Mn {i:Nat}(E:X.N[i]?=some x)(F:uA X.env.scope x)(hd:(x==("__debug__":Str))=false)(j:(x==("__classdict__":Str))=false) :
 DE fa X (.Name x pos) (λZ M=>bV M (Z[i]?.getD none)):=bx (nQ E F hd j) λJ H Q ⟨I,Z,M,y,B,h⟩=>by
 obtain⟨d,e,w⟩:=jM h;have u:Z[i]?=some (some d):=by
  cases q:Z[i]? with
  |none=>rw[q] at e;cases e
  |some o=>rw[q] at e;simp at e;rw[e]
 obtain⟨v,h1,h2⟩:=y.at' i d u;exact{v,h1,aN B w h2}
def iJ (h:PE X e (tC v))(r:∀μ H,Rep fa X.K μ H dc v):DE fa X e (λ_ M=>.ok dc M):=bx h (by rintro B H Q ⟨μ,y,M,u,j,h⟩;exact aN j h (r μ H))
def My {i:Int}:DE fa X (.Constant (.int i) j pos) (λ_ M=>.ok (.int i) M):=iJ zb λ_ _=>rfl
def OD:DE fa X (.Constant (.bool i) j pos) (λ_ M=>.ok (.bl i) M):=iJ wI λ_ _=>rfl
def Mp:DE fa X (.Constant (.str i) j pos) (λ_ M=>.ok (.str i) M):=iJ IU λ_ _=>rfl
def Ms:DE fa X (.Constant .none j pos) (λ_ M=>.ok .non M):=iJ IY λ_ _=>rfl
def t2 {S:Type}{f:D->D->Mem->Res S}{P:S->Mem->Prop}{R:V->V->Hp->Prop}(U:bc fa X.K μ H σ Z)(W:RelM fa X.K μ H M)
 (h:af ((ga Z M).bind λx M=>(gb Z M).bind λy M=>f x y M) P)
 (k:∀x y E v u B j,Ext μ H j B->bc fa X.K j B σ Z->RelM fa X.K j B E->Rep fa X.K j B x v->Rep fa X.K j B y u->af (f x y E) P->R v u B) :
 tE fa X.K ga σ H λv O=>tE fa X.K gb σ O λu B=>R v u B:=
 t1 U W h λx M1 v O μ1 Y F J r1 h1=>t1 F J h1 λy E u B j Q I L r2 h2=>k x y E v u B j (Y.trans Q) I L (r1.ext Q) r2 h2
def MD (m:Bool)(o:rj)(L:DE fa X a ga)(O:DE fa X b gb):DE fa X (.BinOp a (binOp o) b pos) (λZ M=>(ga Z M).bind λx M=>(gb Z M).bind λy M=>fi m o x y M):=
 bx (LH (MP m o) L O) (by rintro U H Q ⟨S,Z,M,F,J,h⟩;exact t2 F J h λx y E v u R B P I j r1 r2 h2=>{B,E,x,y,j,r1,r2,jL h2 P})
def n4 {P:D->Mem->Prop}(h:af ((bV M r).bind λb M=>.ok (.bl b) M) P):∃b,r=some b/\P (.bl b) M:=by
 obtain⟨b,j,e,q⟩:=aI h;cases r with
 |none=>cases e
 |some u=>cases e;exact{_,rfl,q}
def MB (P:Rm X)(o:jv)(L:DE fa X a ga)(O:DE fa X b gb)(hm:behindInMarks (dZ o) b=false) :
 DE fa X (.Compare a [dZ o] [b] pos) (λZ M=>(ga Z M).bind λx M=>(gb Z M).bind λy M=>(bV M (bp o x y M)).bind λb M=>.ok (.bl b) M):=
 bx (pA (mv P o) L O hm) λW H Q ⟨U,Z,M,F,J,h⟩=>t2 F J h λx y E v u S B R I j r1 r2 h2=>by
  obtain⟨b,e,q⟩:=n4 h2;exact{B,E,x,y,b,j,r1,r2,e,aN j (q.ext R) rfl}
def Kg (W:Rm X)(o:jv)(S:DE fa X a ga)(U:DE fa X b gb)(hm:behindInMarks (dZ o) b=false) :
 DT fa X (.Compare a [dZ o] [b] pos) (λZ M=>((ga Z M).bind λx M=>(gb Z M).bind λy M=>(bV M (bp o x y M)).bind λb M=>.ok (.bl b) M).bind λx M=>bV M (jx M x)):=
 jJ (pq (mv W o) S U hm) λσ H Q ⟨μ,Z,M,O,R,h⟩=>by
  obtain⟨z,I,e,q⟩:=aI h;have L:af ((ga Z M).bind λx M=>(gb Z M).bind λy M=>(bV M (bp o x y M)).bind λb M=>.ok (.bl b) M) (λd M=>d=z/\M=I):=by rw[e];exact⟨rfl,rfl⟩
  refine t2 O R L λx y F v u E B Y P j r1 r2 h2=>?_;obtain⟨b,e1,e2,J⟩:=n4 h2;subst e2 J;exact{B,F,x,y,b,j,r1,r2,e1,b,rfl,q E B Y j}
def Fc (I:∀Z M x M',g Z M=.ok x M'->∃k,x=.bl k)(h:tT fa X.K (λZ M=>(g Z M).bind λx M=>bV M (jx M x)) σ H Q) :
 tE fa X.K g σ H (λx u=>∃k,x=.bl k/\Q k u):=by
 obtain⟨O,Z,M,E,F,h⟩:=h;obtain⟨x,B,e,q⟩:=aI h;obtain⟨k,rfl⟩:=I Z M x B e;refine{O,Z,M,E,F,?_};rw[e];intro v y j L J r1;obtain rfl:v=.bl k:=r1;exact{k,rfl,q y j L J}
def Ej {o O:jv}{L:Env->Mem->Res D}(S:L2.St)(H:Hp)(Q:VK):tE fa X.K (λZ M=>(ga Z M).bind λx M=>(gb Z M).bind λy M=>(bV M (bp o x y M)).bind λk M=>
 if k then(L Z M).bind λz M=>(bV M (bp O y z M)).bind λb M=>.ok (.bl b) M else .ok (.bl false) M) S H Q->sg (f5 fa X.K o) (f5 fa X.K O) (tE fa X.K ga) (tE fa X.K gb) (tE fa X.K L) S H Q:=λ⟨μ,Z,M,hE,hM,h⟩=>by
 refine t2 hE hM h λx y U v u H2 I P F j r1 r2 h2=>?_;obtain⟨k,M3,e,q⟩:=aI h2;cases E:bp o x y U with
 |none=>rw[E] at e;cases e
 | some k'=>
   rw[E] at e;cases e;refine{I,_,x,y,k,j,r1,r2,E,k,rfl,?_};cases k with
   |false=>exact aN j (a7.ext q P) rfl
   | true=>
     refine t1 F j q λz W w H4 J R hE4 B r4 h4=>?_;obtain⟨b,Y,q4⟩:=n4 h4;exact{J,W,y,z,b,B,r2.ext R,r4,Y,aN B (q4.ext (P.trans R)) rfl}
def MC (j:Rm X)(o h:jv)(u:DE fa X a ga)(v:DE fa X b gb)(B:DE fa X d gc)(hm:lastMarks [dZ o,dZ h] [b,d]=false) :
 DE fa X (.Compare a [dZ o,dZ h] [b,d] pos) (λZ M=>(ga Z M).bind λx M=>(gb Z M).bind λy M=>(bV M (bp o x y M)).bind λk M=>
  if k then(gc Z M).bind λz M=>(bV M (bp h y z M)).bind λb M=>.ok (.bl b) M else .ok (.bl false) M):=bx (BL (mv j o) (mv j h) u v B hm) Ej
def BN {x:D}(h:((bV M r).bind λb M=>Res.ok (.bl b) M)=.ok x M'):∃k,x=.bl k:=by
 cases r with
 |none=>cases h
 |some b=>cases h;exact⟨b,rfl⟩
def d0 {j u:Type}{r:Res j}{f:j->Mem->Res u}{x:u}(h:r.bind f=.ok x M):∃a M1,r=.ok a M1/\f a M1=.ok x M:=by
 cases r with
 |ok a M1=>exact⟨a,M1,rfl,h⟩
 |err=>cases h
 |bad=>cases h
def Kh (v:Rm X)(o j:jv){u:Env->Mem->Res D}(B:DE fa X a ga)(E:DE fa X b gb)(F:DE fa X d u)(hm:lastMarks [dZ o,dZ j] [b,d]=false) :
 DT fa X (.Compare a [dZ o,dZ j] [b,d] pos) (λZ M=>((ga Z M).bind λx M=>(gb Z M).bind λy M=>(bV M (bp o x y M)).bind λk M=>
  if k then(u Z M).bind λz M=>(bV M (bp j y z M)).bind λb M=>.ok (.bl b) M else .ok (.bl false) M).bind λx M=>bV M (jx M x)):=
 jJ (BH (mv v o) (mv v j) B E F hm) λI H Q h=>Ej I H _ (Fc (λZ M x J e=>by
  obtain⟨S,L,_,e⟩:=d0 e;obtain⟨U,O,_,e⟩:=d0 e;obtain⟨k,P,_,e⟩:=d0 e;cases k with
  |false=>cases e;exact{_,rfl}
  | true=>
    obtain⟨W,R,_,e⟩:=d0 e;exact BN e) h)
def Mv (E:DE fa X a ga):DE fa X (.UnaryOp .USub a pos) (λZ M=>(ga Z M).bind λx M=>match x with|.int i=>.ok (.int (-i)) M|_=>.bad):=
 bx (Dz yb E) λP H Q ⟨O,Z,M,u,B,h⟩=>t1 u B h λx L v J I F y j r1 h1=>by
  cases x with
  |int i=>exact{i,r1,aN j (a7.ext h1 F) rfl}
  |_=>exact h1.elim
def MF {rest:List Expr}(J:DE fa X a ga)(L:DE fa X (.BoolOp .And (b::rest) pos) gb):DE fa X (.BoolOp .And (a::b::rest) pos) (λZ M=>(ga Z M).bind λx M=>match x with
 |.bl true=>gb Z M
 |.bl false=>.ok (.bl false) M
 |_=>.bad):=
 bx (I9 J L) λR H Q ⟨P,Z,M,F,I,h⟩=>t1 F I h λx E v O y B u j r1 h1=>by
  cases x with
  | bl k=>
    refine{k,r1,?_};cases k with
    |true=>exact{y,Z,E,u,j,jL h1 B}
    |false=>exact aN j (a7.ext h1 B) rfl
  |_=>exact h1.elim
def OC {rest:List Expr}(J:DE fa X a ga)(L:DE fa X (.BoolOp .Or (b::rest) pos) gb):DE fa X (.BoolOp .Or (a::b::rest) pos) (λZ M=>(ga Z M).bind λx M=>match x with
 |.bl true=>.ok (.bl true) M
 |.bl false=>gb Z M
 |_=>.bad):=
 bx (LG J L) λR H Q ⟨P,Z,M,F,I,h⟩=>t1 F I h λx E v O y B u j r1 h1=>by
  cases x with
  | bl k=>
    refine{k,r1,?_};cases k with
    |true=>exact aN j (a7.ext h1 B) rfl
    |false=>exact{y,Z,E,u,j,jL h1 B}
  |_=>exact h1.elim
def Er (h:DE fa X a ga):DE fa X (.BoolOp op [a] pos) ga:=IW h
def Mr (E:DE fa X a ga):DE fa X (.UnaryOp .Not a pos) (λZ M=>(ga Z M).bind λx M=>match x with|.bl k=>.ok (.bl (!k)) M|_=>.bad):=
 bx (IX E) λP H Q ⟨O,Z,M,u,B,h⟩=>t1 u B h λx L v J I F y j r1 h1=>by
  cases x with
  |bl k=>exact{k,r1,aN j (a7.ext h1 F) rfl}
  |_=>exact h1.elim
variable{ta tb:Env->Mem->Res Bool}
def GK (h:DT fa X a ta):DW fa X (.BoolOp .And [a] pos) ta:=FL h
def Kc (h:DT fa X a ta):DW fa X (.BoolOp .Or [a] pos) ta:=IK h
def Nd {Q:Bool->Hp->Prop}(x:Ext μ H μ' H')(h:af b' λb M'=>∀u j,Ext μ H j u->RelM fa X.K j u M'->Q b u):af b' λb M'=>∀u j,Ext μ' H' j u->RelM fa X.K j u M'->Q b u:=
 aD h λb M q u j y m=>q u j (x.trans y) m
def Kd {rest:List Expr}(J:DT fa X a ta)(L:DW fa X (.BoolOp .And (b::rest) pos) tb):DW fa X (.BoolOp .And (a::b::rest) pos) (λZ M=>(ta Z M).bind λk M=>if k then tb Z M else .ok false M):=
 yV (IL J L) λP H Q ⟨O,Z,M,F,I,h⟩=>yB F I h λk E B u y v j h1=>by
  cases k with
  |true=>exact{u,Z,E,v,j,Nd y h1}
  |false=>exact h1 B u y j
def Mg {rest:List Expr}(J:DT fa X a ta)(L:DW fa X (.BoolOp .Or (b::rest) pos) tb):DW fa X (.BoolOp .Or (a::b::rest) pos) (λZ M=>(ta Z M).bind λk M=>if k then .ok true M else tb Z M):=
 yV (LC J L) λP H Q ⟨O,Z,M,F,I,h⟩=>yB F I h λk E B u y v j h1=>by
  cases k with
  |true=>exact h1 B u y j
  |false=>exact{u,Z,E,v,j,Nd y h1}
def Ke (F:DT fa X a ta):DT fa X (.UnaryOp .Not a pos) (λZ M=>(ta Z M).bind λk M=>.ok (!k) M):=
 jJ (IP F) (by rintro O H Q ⟨L,Z,M,y,E,h⟩;exact yB y E h λk J v u I B j h1=>h1 v u I j)
def Cz (I:DE fa X a ga)(he:∀whole,isTrue a X.env whole=(do let v <- whole;standAt a.pos;holding [v] (truthy v))):DT fa X a (λZ M=>(ga Z M).bind λx M=>bV M (jx M x)):=
 jJ (BG I he) λP H Q ⟨O,Z,M,B,F,h⟩=>t1 B F h λx L v y u J E j r1 h1=>by
  obtain⟨k,e,q⟩:=jM h1;exact{k,NG j r1 e,q y u J j}
def Mx (L:DT fa X c gc)(I:DE fa X a ga)(J:DE fa X b gb):DE fa X (.IfExp c a b pos) (λZ M=>(gc Z M).bind λk M=>if k then ga Z M else gb Z M):=
 bx (sJ L I J) λR H Q ⟨P,Z,M,E,F,h⟩=>yB E F h λk y O v B j u h1=>by
  cases k with
  |true=>exact{v,Z,y,j,u,jL h1 B}
  |false=>exact{v,Z,y,j,u,jL h1 B}
def Mz (L:DE fa X a ga)(O:DE fa X b gb)(hs:iM b):DE fa X (.Subscript a b pos) (λZ M=>(ga Z M).bind λx M=>(gb Z M).bind λy M=>bV M (da x y M)):=
 bx (wH L4 L O hs) λU H Q ⟨S,Z,M,F,J,h⟩=>t2 F J h λx y E v u R B P I j r1 r2 h2=>by
  obtain⟨d,e,q⟩:=jM h2;exact{B,E,x,y,d,j,r1,r2,e,q.ext P}
def DO (fa:Fa)(X:Cx)(e:Option Expr)(B:Bool)(g:Env->Mem->Res D):Prop:=PO X e λE H Q=>∃u v M,bc fa X.K u H E v/\RelM fa X.K u H M/\af (g v M) λd y=>∃o,b7 B d=true/\nW d=some o/\∀j h,Ext u H h j->RelM fa X.K h j y->Q o j
def GU:DO fa X none false (λ_ M=>.ok .non M):=λh s v H Q I ⟨u,B,M,y,j,o,_,e,k⟩=>by
 cases e;exact FT h s v H Q I (k H u .refl j)
def GR (F:DE fa X a ga):DO fa X (some a) true ga:=λj s O H Q I ⟨J,L,M,B,E,h⟩=>FR F j s O H Q I {J,L,M,B,E,aD h λd P ⟨o,p,e,k⟩ v y u x m r=>by
 cases d with
 |int i=>cases e;exact{i,r,k y u x m}
 |_=>cases p}
def part_of {d:D}(h:b7 hp d=true):∃o,nW d=some o:=by
 cases hp<;>cases d<;>first|exact{_,rfl}|cases h
set_option tactic.hygienic true in
def Mq (m hl hh:Bool){lo hi:Option Expr}(ha:DE fa X a ga)(I:DO fa X lo hl gl)(F:DO fa X hi hh gh):DE fa X (.Subscript a (.Slice lo hi none p2) pos)
 (λZ M=>(ga Z M).bind λx M=>(gl Z M).bind λl M=>(gh Z M).bind λh M=>if b7 hl l&&b7 hh h then dU m x l h M else .bad):=
 bx (sI (Fq m) ha I F) λσ H Q ⟨μ,Z,M,hE,hM,h⟩=>t1 hE hM h λx W v H1 L x1 j y r1 h1=>by
  obtain⟨l,Y,e2,h2⟩:=aI h1;obtain⟨u,M3,e3,h3⟩:=aI h2;split at h3
  ·next c=>
   rw[O2] at c;obtain⟨ol,R⟩:=part_of c.1;obtain⟨ou,S⟩:=part_of c.2;refine{L,Z,W,j,y,?_};rw[e2];refine{ol,c.1,R,λH2 O J B=>{O,Z,Y,j.ext J,B,?_}};rw[e3];exact{ou,c.2,S,λH3 P U E=>{P,M3,x,l,u,E,(r1.ext J).ext U,R,S,jL h3 ((x1.trans J).trans U)}}
  ·exact h3.elim
def Ky:DA fa X [] (λ_ M=>.ok [] M):=zf cx (by rintro B H Q ⟨u,y,M,v,j,h⟩;exact h [] H u .refl j rfl)
def G3 (R:DE fa X a ga)(hs:DA fa X es gs)(J:starEach (a::es) X.env=(false,eval a X.env)::starEach es X.env) :
 DA fa X (a::es) (λZ M=>(ga Z M).bind λx M=>(gs Z M).bind λxs M=>.ok (x::xs) M):=
 zf (bE R hs J) (by rintro σ H Q ⟨μ,Z,M,L,P,h⟩;exact t1 L P h λx Y v W U S j u r1 h1=>uW j u h1 λxs M2 E I B F O y r2 h2=>h2 (v::E) I B (S.trans F) y {v,E,rfl,r1.ext F,r2})
set_option tactic.hygienic true in
def Mo (hs:DA fa X es gs):DE fa X (.Tuple es k pos) (λZ M=>(gs Z M).bind ko):=
 bx (za hs) λO H Q ⟨L,Z,M,u,y,h⟩=>uW u y h λxs I J F E B v j r1 h1=>by
  unfold ko at h1;split at h1
  ·next c=>exact{by rw[r1.length,<- cJ];exact c,gF j r1 (a7.ext h1 B)}
  ·exact h1.elim
def Mw (m:Bool)(hs:DA fa X es gs):DE fa X (.List es pos) (λZ M=>(gs Z M).bind (bt m)):=
 bx (IZ hs) λO H Q ⟨L,Z,M,u,y,h⟩=>uW u y h λxs I J F E B v j r1 h1=>by
  obtain⟨c,k⟩:=fJ j r1 (jL h1 B);exact{by rw[r1.length,<- cJ];exact c,k}
end
def lM (o:Obj)(f:Array O3->Array O3):(o.mapFields f).dict=o.dict:=by
 obtain⟨c,d,h,sl⟩:=o;cases h<;>rfl
section
variable{P:PU}{w:PM}{M:Model}{A:QE}{E:O3->O8->Prop}{base:Heap}{env:QC}{outer:List QC}{L a C:Addr}{dx:Option Addr}{New:Addr->Prop}{H:Hp}{s:O8}{Q:Unit->O8->Prop}
def uT (hfr:A.frames=some (env::outer))(hl:s.heap.FunFrames base (env::outer))(hf:env.frame=some L)
 (he:s.heap.get? a=some oe) (hd:oe.data=.fields vs) (hsz:1<vs.size)
 (h:∀U T oT ts,(∀b o,b∉fu (env::outer)->b≠a->s.heap.get? b=some o->U.get? b=some o)->(∀b o,b≠a->s.heap.get? b=some o->∃sl,U.get? b=some {o with slots:=sl})->s.heap.objs.size<=T->T≠a->
  U.get? a=some (oe.mapFields (·.setIfInBounds 1 (.ref T)))->U.get? T=some oT->oT.data=.fields ts->ts[3]?=some .none->Q () {s with heap:=U}) :
 wpAny M A (do let f <- frameOf env;let pl <- entryPlaceOf L had;let b <- EntryCells.newEntry head f .none (rawInt L) .none pl;setField (.ref a) 1 b) (λ_ s'=>wpAny M A (setFlight (.ref a) none) Q E s') E s:=by
 have W:a∉fu (env::outer):=λhm=>by
  obtain⟨_,o,ho,hnf⟩:=hl.mem hm;rw[he] at ho;cases ho;exact hnf vs hd
 refine tqa (wpAny_frameOf_fun hfr hl hf λj v=>?_);refine tqa (wpAny_entryPlaceOf λpl Y=>?_);refine tqa (wpAny_newObj_type ?_ (Y.sizeOk5 _ _ _ _ _));have I:j.get? a=some oe:=(v.2.1 a W).trans he;generalize ho:({cls:=.type "traceback",dict:=none,data:=.fields ([head,.ref L,.none,rawInt L,.none]++(if pl.isEmpty then List.replicate 6 Value.none else pl)).toArray}:Obj)=o;have R:o.data=.fields ([head,.ref L,.none,rawInt L,.none]++(if pl.isEmpty then List.replicate 6 Value.none else pl)).toArray:=by rw[<- ho]
 have J:=O5 o I;refine wpAny_setField J hd hsz ?_;have S:=Qg (Po I);have F:=QD hd (·.setIfInBounds 1 (Value.ref j.objs.size));have O:=QB (Obj.mapFields (·.setIfInBounds 1 (Value.ref j.objs.size))) J (Rl F);have y:=(Qh (j.push o) (Obj.mapFields (·.setIfInBounds 1 (Value.ref j.objs.size))) (Qi S)).trans (PD j (Rl R));refine tqa (tqf O F (x:=.ref j.objs.size) (by simp[hsz]) ?_)
 rw[if_pos `s]
 refine wpAny_setField y R (by simp only[Pd,Pt,Q9,List.length_nil]<;>omega) ?_
 have keep:∀b u,b≠a->j.get? b=some u->(((j.push o).update a (Obj.mapFields (·.setIfInBounds 1 (Value.ref j.objs.size)))).update j.objs.size (Obj.mapFields (·.setIfInBounds 3 ((none:Option Addr).elim Value.none λf=>rawInt f)))).get? b=some u:=λb u B hb=>by
  have hbT:=Qg (Po hb);rw[Qh _ _ hbT,Qh _ _ (Qi B)];exact O5 _ hb
 refine h _ j.objs.size _ _ (λb u hb B q=>keep b u B ((v.2.1 b hb).trans q)) (λb u B q=>?_) (Nat.le_of_eq v.1.symm) S ?_ (QB _ y (Rl (QD R _))) (QD R _) ?_
 ·obtain⟨sl,e⟩:=v.2.2 b u q;exact{sl,keep b _ B e}
 ·rw[Qh _ _ S];exact O
 ·first|(simp;done)|(rcases Y with rfl|⟨_,_,_,_,_,_,_,rfl⟩<;>simp)
def vi (hfr:A.frames=some (env::outer))(hl:s.heap.FunFrames base (env::outer))(hf:env.frame=some L)(hF:lR New C dx a s.heap H)(hN:∀b,s.heap.objs.size<=b->New b)(hok:dH P w H s.heap)(J:∀b∈fu (env::outer),H b=none)
 (h:∀B ch,(∀b∈ch,New b/\H b=none/\∃o vs,s.heap.get? b=some o/\o.data=.fields vs)->Un (fu (env::outer)) ch H H s.heap B->dH P w H B->lR New C dx a B H->Q () {s with heap:=B}) :
 wpAny M A (noteFrame (.ref a) env) (λ_ s1=>wpAny M A (setFlight (.ref a) none) Q E s1) E s:=by
 obtain⟨na,ha,oe,vs,he,hc,Y,hd,tr⟩:=hF;have U:∀B ch,(∀b∈ch,New b/\H b=none/\∃o vs,s.heap.get? b=some o/\o.data=.fields vs)->(∀b o,b∉fu (env::outer)->b∉ch->s.heap.get? b=some o->B.get? b=some o)->(∀b o,b∉ch->s.heap.get? b=some o->∃sl,B.get? b=some {o with slots:=sl})->lR New C dx a B H->Q () {s with heap:=B}:=λB ch W keep slot fl=>by
  refine h B ch W {λb o q _ j F=>keep b o j F q,λb o q _ _ F=>slot b o F q,λ_ _ _ n _=>n,λb o q F=>let⟨sl,e⟩:=slot b o F q;{_,e},λ_ _ e=>e,λ_ _ _ e=>e,λb ps e=>{#[],by rw[e];simp}} (λb u e=>(hok b u e).stay (λc v hc q=>?_) (λ_ q=>q) λ_ _ q=>q) fl
  have nn:H c≠none:=by rcases hc with z|z<;>(intro z';first|(rw[z,e] at z';cases z')|(rw[z] at z';cases z'))
  exact keep c v (λz=>nn (J c z)) (λz=>nn (W c z).2.1) q
 unfold noteFrame;simp only[hf];rcases tr with h1|⟨T,oT,ts,h1,hTa,nT,hT0,hT,I,h3⟩
 ·refine tqa (tqf he hd h1 ?_);rw[if_neg `d]
  refine uT hfr hl hf he hd (P4.mp h1).1 λB T oT ts k1 k2 R k4 k5 k6 k7 k8=>?_;refine U B [a] (λb j=>?_) (λb o j F q=>k1 b o j (λz=>F (by simp[z])) q) (λb o F q=>k2 b o (λz=>F (by simp[z])) q) {na,ha,_,_,k5,?_,?_,QD hd _,.inr {T,oT,ts,by simp[(P4.mp h1).1],k4,hN _ R,hok.fresh R,k6,k7,k8}}
  ·rcases Pj.mp j with rfl
   exact⟨na,ha,oe,vs,he,hd⟩
  ·rw[Obj.cls_mapFields];exact hc
  ·rw[lM];exact Y
 ·refine tqa (tqf he hd h1 ?_);rw[if_pos `s]
  refine tqa (tqf hT I h3 ?_);rw[if_neg (by simp[rawInt])]
  refine tqa (wpAny_setField hT I (P4.mp h3).1 ?_);have y:∀b,b≠T->(s.heap.update T (Obj.mapFields (·.setIfInBounds 3 Value.none))).get? b=s.heap.get? b:=λb j=>Qh _ _ (Qi j);have S:∀b o,s.heap.get? b=some o->(∀vs,o.data≠.fields vs)->b≠T:=λb o j O q=>by
   rw[q,hT] at j;cases j;exact O ts I
  have hz:(s.heap.update T (Obj.mapFields (·.setIfInBounds 3 Value.none))).objs.size=s.heap.objs.size:=Heap.size_after_update ..;refine uT hfr (hl.of_keeps λb o j O=>{o,(y b (S b o j O)).trans j,rfl}) hf ((y a (Qi hTa)).trans he) hd (P4.mp h1).1 λB T' oT' ts' k1 k2 R k4 k5 k6 k7 k8=>?_;have R:s.heap.objs.size<=T':=by rw[<- hz];exact R
  refine U B [a,T] (λb j=>?_) (λb o j F q=>k1 b o j (λz=>F (by simp[z])) ((y b (λz=>F (by simp[z]))).trans q)) (λb o F q=>k2 b o (λz=>F (by simp[z])) ((y b (λz=>F (by simp[z]))).trans q)) {na,ha,_,_,k5,?_,?_,QD hd _,.inr {T',oT',ts',by simp[(P4.mp h1).1],k4,hN _ R,hok.fresh R,k6,k7,k8}}
  ·rcases Pr.mp j with rfl|j
   ·exact⟨na,ha,oe,vs,he,hd⟩
   ·rcases Pj.mp j with rfl
    exact⟨nT,hT0,oT,ts,hT,I⟩
  ·rw[Obj.cls_mapFields];exact hc
  ·rw[lM];exact Y
end
def fx (P:PU)(w:PM):uH:=λouter H s E e s'=>∃a C dx H',e=.ref a/\s'.os=s.os/\AllBare s'.gens/\Un (fu outer) [] H H' s.heap s'.heap/\dH P w H' s'.heap/\lR (λb=>s.heap.get? b=none) C dx a s'.heap H'/\E (.ref C) dx H'
def lR.imp (f:lR New C dx a h H)(i:∀b,New b->New' b):lR New' C dx a h H:=by
 obtain⟨u,j,o,I,h1,h2,h3,h4,F⟩:=f;refine{i _ u,j,o,I,h1,h2,h3,h4,?_};rcases F with t|⟨T,v,ts,t1,t2,y,B⟩
 ·exact .inl t
 ·exact .inr {T,v,ts,t1,t2,i _ y,B}
section
variable{P:PU}{w:PM}{K:O0}{mg:Str->Option O3}{base:Heap}{N:List Str}{qual:Str}{scope:Scope}{f:Addr}{cd:O3}{A:QE}{outer:List QC}{s:O8}{H:Hp}{E:XK}
def B6 (I:Inv (dY (fx P w) P w K mg base N qual scope f cd A outer s H E) pins σ H' s')(W:lR (nz (dY (fx P w) P w K mg base N qual scope f cd A outer s H E)) C dx a s'.heap H')(U:E (.ref C) dx H') :
 (dY (fx P w) P w K mg base N qual scope f cd A outer s H E).xe (.ref a) s':=by
 have F:=I.stack;have J:=I.sz;have Y:∀b o,s.heap.get? b=some o->b∈fu (envOfC qual scope s.heap.objs.size f cd::outer)->b∈fu outer:=λb o q y=>by
  rcases Pr.mp (y) with e|e
  ·exact absurd (Po q) (by rw[e];exact Ql _)
  ·exact e
 unfold dY;refine tqa (vi (New:=λb=>s.heap.get? b=none) I.ok.frames F rfl (W.imp λb z=>z.1) (λb z=>Rr (Pk J z)) I.hok I.stkFree λh' R B u hok fl=>?_);have v:∀b o,s.heap.get? b=some o->b∉R:=λb o q z=>by have:=(B b z).1;rw[q] at this;cases this
 have h:=I.base;refine{a,C,dx,H',rfl,I.os,I.bare,{λb o q n y j=>?_,λb o q n y j=>?_,h.free,λb o q j=>?_,h.tups,h.frzs,h.tbls},hok,fl,U}
 ·exact u.keep b o (h.keep b o q n y j) (h.free b o q n j) (λz=>y (Y b o q z)) (v b o q)
 ·obtain⟨sl,e⟩:=h.slot b o q n y j;obtain⟨O,S⟩:=u.any e (h.free b o q n j) (v b o q);exact⟨O,S⟩
 ·obtain⟨o',e⟩:=h.there b o q j;exact u.there b o' e (v b o q)
end
section
variable{X:Cx}{pins:List (Addr×Obj)}{σ:L2.St}{H H':Hp}{s s':O8}{E:XK}{e:O3}
def qM (I:Inv X pins σ H s)(v:X.ex=[])(h:fx X.prog X.w X.stack H s E e s'):∃a C dx H',e=.ref a/\Inv X pins σ H' s'/\lR (nz X) C dx a s'.heap H'/\E (.ref C) dx H':=by
 obtain⟨a,C,dx,H',rfl,os,bare,un,hok,fl,q⟩:=h;refine{a,C,dx,H',rfl,I.call' os un hok bare (λb z=>absurd z `s),fl.imp λb z=>{?_,λp u e=>?_},q}
 ·cases e:X.s₀.heap.get? b with
  |none=>rfl
  | some o=>
    obtain⟨y,j⟩:=I.base.there b o e (by rw[v];simp)
    rw[z] at j;cases j
 ·have:=(I.pin p (Qm _ u)).1;rw[e,z] at this;cases this
def Ci (I:Inv X pins σ H s)(j:∀b∈ch,X.s₀.heap.get? b=none/\(∃o vs,s.heap.get? b=some o/\o.data=.fields vs)/\∀p∈X.pn++pins,p.1≠b)(u:Un (fu X.stack) ch H H s.heap h')(hok:dH X.prog X.w H h'):Inv X pins σ H {s with heap:=h'}:=by
 obtain⟨m,⟨o,es,ep,ho,hd,r⟩,hl⟩:=id I.loc;have J:X.env.locals∉ch:=λz=>by
  obtain⟨R,vs,e,d⟩:=(j _ z).2.1;rw[ho] at e;cases e;rw[hd] at d;cases d
 have F:∀x c,X.env.cells.lookup x=some c->c∉ch:=λx c e z=>by
  obtain⟨R,vs,U,d⟩:=(j _ z).2.1;obtain⟨v,o2,e2,d2⟩:=I.cell x c e;rw[e2] at U;cases U;rw[d2] at d;cases d
 have n0:∀b o,X.s₀.heap.get? b=some o->b∉ch:=λb o e z=>by rw[(j b z).1] at e;cases e
 have O:∀b o,X.s₀.heap.get? b=some o->b∉X.fs->b∉fu X.stack:=λb o e n z=>(Pr.mp (I.stkSub b z)).elim (λq=>absurd (Po e) (by rw[q];exact Nat.not_lt.mpr I.ok.above)) n
 obtain⟨sl,hL⟩:=u.any ho I.free J;have h:∀x c,X.env.cells.lookup x=some c->∀v,s.heap.IsCell c v->h'.IsCell c v:=λx c e v ⟨o,ho,hd⟩=>by
  obtain⟨sl,q⟩:=u.any ho (I.freeC x c e) (F x c e);exact{_,q,hd}
 refine{I.ok,I.os,I.bare,{λb o e n B y=>?_,λb o e n B y=>?_,I.base.free,λb o e y=>?_,I.base.tups,I.base.frzs,I.base.tbls},{m,{_,es,ep,hL,hd,r},λi x v e1 e2 e3=>?_},λx c e=>?_,I.free,I.freeC,λp W=>?_,hok,I.len}
 ·exact u.keep b o (I.base.keep b o e n B y) (I.base.free b o e n y) (O b o e B) (n0 b o e)
 ·obtain⟨sl,e1⟩:=I.base.slot b o e n B y;obtain⟨S,e2⟩:=u.any e1 (I.base.free b o e n y) (n0 b o e);exact⟨S,e2⟩
 ·obtain⟨R,e1⟩:=I.base.there b o e y;exact u.there b R e1 (n0 b o e)
 ·obtain⟨u',r',l⟩:=hl i x v e1 e2 e3;refine{u',r',?_};rcases l with l|⟨k,c,e,z⟩
  ·exact .inl l
  ·exact .inr {k,c,e,h x c e _ z}
 ·obtain⟨v,z⟩:=I.cell x c e;exact{v,h x c e v z}
 ·obtain⟨e,n,ne,Y,d⟩:=I.pin p W;exact{u.keep p.1 p.2 e n (λz=>(Pr.mp (I.stkSub _ z)).elim ne Y) λz=>(j _ z).2.2 p W rfl,n,ne,Y,d}
def qJ (I:Inv X pins σ H s)(J:X.ex=[])(hn:H a=none)(O:X.s₀.heap.get? a=none)(hf:∃ob vs,s.heap.get? a=some ob/\ob.data=.fields vs)(R:∀p∈X.pn++pins,p.1≠a)(new:dF X.prog X.w (upd H a o) s.heap a o):Inv X pins σ (upd H a o) s:=by
 obtain⟨ob,vs,j,hd⟩:=hf;have ne:∀b u,H b=some u->b≠a:=λb u e=>aS e hn;refine{I.ok,I.os,I.bare,{I.base.keep,I.base.slot,λb o e n J=>?_,I.base.there,λb xs e=>?_,λb o u e=>?_,λb ps e=>?_},I.loc,I.cell,?_,λx c e=>?_,λp y=>?_,λb u e=>?_,I.len}
 ·rw[ao (λz=>by rw[z,O] at e;cases e)];exact I.base.free b o e n J
 ·have q:=I.base.tups b xs e;rw[ao (ne b _ q)];exact q
 ·have q:=I.base.frzs b o u e;rw[ao (ne b _ q)];exact q
 ·obtain⟨m,q⟩:=I.base.tbls b ps e;exact{m,by rw[ao (ne b _ q)];exact q}
 ·obtain⟨m,⟨Y,U,S,ho,h,_⟩,_⟩:=id I.loc;rw[ao (λz=>by rw[z,j] at ho;cases ho;rw[hd] at h;cases h)];exact I.free
 ·obtain⟨v,W,e2,B⟩:=I.cell x c e;rw[ao (λz=>by rw[z,j] at e2;cases e2;rw[hd] at B;cases B)];exact I.freeC x c e
 ·obtain⟨e,n,r⟩:=I.pin p y;exact{e,by rw[ao (R p y)];exact n,r}
 ·by_cases F:b=a
  ·subst F;rw[bJ] at e;cases e;exact new
  ·rw[ao F] at e;exact(I.hok b u e).stay (λc v _ q=>q) (λc q=>by rw[ao (ne c _ q)];exact q) λc xs q=>by rw[ao (ne c _ q)];exact q
end
def dG {h:Type}(r:Res h)(k:h->Mem->Prop)(j:D->Mem->Prop):Prop:=match r with
 |.ok a M=>k a M
 |.err x M=>j x M
 |.bad=>False
def Jk {j:Type}{r:Res j}{k:j->Mem->Prop}{u:D->Mem->Prop}(h:af r k):dG r k u:=by
 cases r with
 |ok a M=>exact h
 |err=>exact h.elim
 |bad=>exact h
def EC (fa:Fa)(K:O0)(μ:Mu)(H:Hp)(E:XK)(x:D)(M':Mem):Prop:=∀C dx c p H' h,Ext μ H h H'->RelM fa K h H' M'->x=.exc c p->fa (c7 c)=some C->uz H' c dx p->E (.ref C) dx H'
def DC:Passes (fx P w) X E0:=λ_ _ _ _ _ _ _ h=>let{_,_,_,_,_,_,_,_,_,_,z}:=h;z.elim
def Du (fa:Fa)(K:O0)(k:Nat)(call:List D->Mem->Res D):Sp:=λu H Q E=>u.length=k/\∃h M j,RelM fa K h H M/\aG fa K h H j u/\dG (call j M) (a7 fa K h H Q) (EC fa K h H E)
def gA (fa:Fa)(P:PU)(w:PM)(K:O0)(mg:Str->Option O3)(base:Heap)(n:Nat)(f:Nat)(call:List D->Mem->Res D):Prop:=
 (∀h M,call h M=.bad)\/∃(ad:Addr) (j:FuncData) (ps:List Str),fa f=some ad/\PySem.W.keepIn K (.ref ad)=true/\Binds K j ps []/\(∀h M,h.length≠ps.length->call h M=.bad)/\jG P w K mg base (fx P w) (2*n+4) ad j ps (Du fa K ps.length call)/\((fa (500+f)).isSome=true->Binds K j ps [.none])
section
variable{fa:Fa}{X:Cx}{a b d:Expr}{ga gb gd:Env->Mem->Res D}{pos p:Pos}{es:List Expr}{gs:Env->Mem->Res (List D)}{n:Nat}
def Ax {call:List D->Mem->Res D}{r:Res (List D)}(j:∀ds M,call ds M=.bad)(h:af (r.bind λds M=>call ds M) P):False:=by
 obtain⟨ds,M,_,q⟩:=aI h;rw[j] at q;exact q
def qV {call:List D->Mem->Res D}(v:bc fa X.K μ H σ Z)(B:RelM fa X.K μ H M)(h:af ((gs Z M).bind λds M=>call ds M) (a7 fa X.K μ H Q))
 (hk:∀ds M1,ds.length≠k->call ds M1=.bad):Dr (Du fa X.K k call) [] E0 (tA fa X.K gs) σ H Q:=by
 refine uW v B h λds M1 I F u E y j r1 h1=>?_;rw[Qz];refine{?_,u,M1,ds,j,r1,Jk (jL h1 E)};rw[r1.length];by_cases hl:ds.length=k
 ·exact hl
 ·rw[hk ds M1 hl] at h1;exact h1.elim
def KH {call:List D->Mem->Res D}(C:gA fa X.prog X.w X.K X.mg X.base n f call)(hr:b5 (2*n+4) X.A)(J:Gl X x)(hm:∀ad,fa f=some ad->X.mg x=some (.ref ad))(hs:DA fa X (a::es) gs)
 (j:(x==("__debug__":Str))=false) (he:starEach (a::es) X.env=(false,eval a X.env)::starEach es X.env) (u:(backTo pos (starEach es X.env)).any (·.1)=false) :
 DE fa X (.Call (.Name x p) (a::es) [] pos) (λZ M=>(gs Z M).bind λds M=>call ds M):=by
 rcases C with E|⟨ad,P,ps,h1,h2,h3,h4,F,_⟩
 ·exact(by rintro B s O H Q I ⟨L,Z,M,v,y,h⟩;exact(Ax E h).elim)
 ·exact bx (FV F hr J (hm ad h1) h2 h3 .nil DC hs j he u) (by rintro O H Q ⟨L,Z,M,v,y,h⟩;exact qV v y h h4)
def G6 {i:Nat}{x:Str}{call:Nat->List D->Mem->Res D}(C:∀f,gA fa X.prog X.w X.K X.mg X.base n f (call f))(hr:b5 (2*n+4) X.A)(hN:X.N[i]?=some x)(hv:uA X.env.scope x)(hs:DA fa X (a::es) gs)
 (hd:(x==("__debug__":Str))=false) (B:(x==("__classdict__":Str))=false) (he:starEach (a::es) X.env=(false,eval a X.env)::starEach es X.env) (E:(backTo pos (starEach es X.env)).any (·.1)=false) :
 DE fa X (.Call (.Name x p) (a::es) [] pos) (λZ M=>match Z[i]?.getD none with|some (.fn f)=>(gs Z M).bind λds M=>call f ds M|_=>.bad):=by
 rintro y s S H Q I ⟨μ,Z,M,R,hM,h⟩;dsimp only at h;cases e:Z[i]?.getD none with
 |none=>rw[e] at h;exact h.elim
 | some df=>
   cases df with
   | fn f=>
     rw[e] at h;have e':Z[i]?=some (some (.fn f)):=by
      cases q:Z[i]? with
      |none=>rw[q] at e;cases e
      |some o=>rw[q] at e;simp at e;rw[e]
     obtain⟨v,J,L⟩:=R.at' i _ e';obtain⟨ad,rfl,j⟩:=L;rcases C f with hb|⟨ad',fd,ps,h1,h2,h3,h4,F,_⟩
     ·exact(Ax hb h).elim
     ·rcases j with j|⟨j,_⟩<;>rw[j] at h1<;>cases h1
      refine wpAny_Call_Name_kw (aQ (nQ hN hv hd B y s S H (λv U=>v=.ref ad/\U=H) I {_,J,rfl,rfl}) λu s1 ⟨v,Y,O,r1,e1,e2⟩=>?_);subst e1 e2;obtain rfl:u=Value.ref ad:=r1;refine Rv O.ok.mod.kin h2 (aQ (hs pos y s1 S Y _ O (qV R hM h h4)) λus s2 ⟨vs,H2,P,r,q⟩=>{P.kIn,?_}) he E;exact yS F hr h3 .nil DC P r q
   |_=>rw[e] at h;exact h.elim
def Es (f:uI){id:String}(J:cb X (.builtin id) (pj fa X.K f))(L:Gl X x)(hm:X.mg x=none)(O:bootBuiltins x=some (.builtin id))(hs:DA fa X (a::es) gs)(hn:x≠"__name__")(u:(x==("__debug__":Str))=false)
 (he:starEach (a::es) X.env=(false,eval a X.env)::starEach es X.env) (v:(backTo pos (starEach es X.env)).any (·.1)=false):DE fa X (.Call (.Name x p) (a::es) [] pos) (λZ M=>(gs Z M).bind λds M=>fM f ds M):=
 bx (eG J L hm O hs hn u he v) (by rintro W H Q ⟨U,Z,M,E,I,h⟩;exact uW E I h λds B S R y P F j r1 h1=>{y,B,ds,j,r1,jL h1 P})
def Ai (f:uI)(J:cb X (.type T) (pj fa X.K f))(L:Gl X x)(hm:X.mg x=none)(O:bootBuiltins x=some (.type T))(hs:DA fa X (a::es) gs)(hn:x≠"__name__")(u:(x==("__debug__":Str))=false)
 (he:starEach (a::es) X.env=(false,eval a X.env)::starEach es X.env) (v:(backTo pos (starEach es X.env)).any (·.1)=false):DE fa X (.Call (.Name x p) (a::es) [] pos) (λZ M=>(gs Z M).bind λds M=>fM f ds M):=
 bx (zc J L hm O hs hn u he v) (by rintro W H Q ⟨U,Z,M,E,I,h⟩;exact uW E I h λds B S R y P F j r1 h1=>{y,B,ds,j,r1,jL h1 P})
def Kz (t:Ty)(S:∀c,t≠.own c)(P:DE fa X a ga)(R:Gl X "isinstance")(hm:X.mg "isinstance"=none)(U:bootBuiltins "isinstance"=some (.builtin "isinstance"))(y:Gl X x)(B:X.mg x=none)(E:bootBuiltins x=some (.type (tyName t)))
 (hn:x≠"__name__") (u:(x==("__debug__":Str))=false)
 (he:starEach [a,.Name x p1] X.env=(false,eval a X.env)::starEach [.Name x p1] X.env):DE fa X (.Call (.Name "isinstance" p2) [a,.Name x p1] [] pos) (λZ M=>(ga Z M).bind λx M=>(bV M (cj t x)).bind λb M=>.ok (.bl b) M):=
 bx (eG (J5 t S) R hm U (bE P (bE (ve y B E (v:=.ty (tyName t)) rfl hn u) cx `r) he) `d `d he `r) λσ H Q ⟨μ,Z,M,J,O,h⟩=>t1 J O h λx I v Y F W L j r1 h1=>by
  obtain⟨b,e,q⟩:=n4 h1;exact{F,I,x,v,b,rfl,j,r1,e,aN j (q.ext W) rfl}
def gT (fa:Fa)(K:O0)(t:fw):TG:=λv B H Q=>∃u y M d h,bc fa K u H B y/\RelM fa K u H M/\Rep fa K u H d v/\b4 t d y=some h/\∀j,bc fa K u H j h->Q j H
def sH (h:PG X tg g)(i:∀v y H Q,g' v y H Q->g v y H Q):PG X tg g':=λj s y H v u Q I r q=>h j s y H v u Q I r (i v y H Q q)
def vd (h:uD X tg g)(i:∀v y H Q,g' v y H Q->g v y H Q):uD X tg g':=λj s y H v u Q I r q=>h j s y H v u Q I r (i v y H Q q)
def G0 (u:X.N.Nodup)(hi:X.N[i]?=some x)(y:Loc X.env.scope x)(hf:X.fn x=true\/X.env.scope.names.lookup x=some .local):PG X (.Name x pos) (gT fa X.K (.one i)):=
 sH (pz u hi y hf) λv J H Q ⟨F,I,M,d,B,j,E,r,e,k⟩=>by
  have h:=Ph e;subst h;exact k _ (j.set r)
def J3 (fa:Fa)(K:O0)(l:List Nat):we:=λB E H Q=>∃u y M v h,bc fa K u H E y/\RelM fa K u H M/\aG fa K u H v B/\fm l v y=some h/\∀j,bc fa K u H j h->Q j H
inductive iD (X:Cx):List Nat->List Expr->Prop
 |nil:iD X [] []
 |cons {i:Nat}{x:Str}{p:Pos}{l:List Nat}{ns:List Expr} (hi:X.N[i]?=some x) (hx:Loc X.env.scope x) (hf:X.fn x=true\/X.env.scope.names.lookup x=some .local) (r:iD X l ns):iD X (i::l) (.Name x p::ns)
set_option tactic.hygienic true in
def iD.each (h:iD X l ns):(assignEach ns X.env).length=l.length/\(assignEach ns X.env).findIdx? (·.1)=none:=by
 induction h with
 |nil=>exact⟨rfl,rfl⟩
 | cons u v hf r j=>
   rename_i i x p l ns;have e:assignEach (.Name x p::ns) X.env=(false,assign (.Name x p) X.env)::assignEach ns X.env:=rfl;rw[e];refine{by simp[j.1],?_}
   rw[List.findIdx?_cons];simp[j.2]
def tZ (J:X.N.Nodup)(h:iD X l ns):uD X ns (J3 fa X.K l):=by
 induction h with
 | nil=>
   refine vd vc ?_;rintro E S H Q ⟨F,R,M,j,u,y,B,r,e,k⟩;cases j with
   | nil=>
     obtain rfl:E=[]:=r;have I:=Ph e;subst I;exact{rfl,k _ y}
   |cons=>cases e
 | cons L O hf r P=>
   refine vd (mU (pz J L O hf) P `r) ?_;rintro E S H Q ⟨F,R,M,j,u,y,B,r,e,k⟩
   cases j with
   |nil=>cases e
   | cons d j=>
     obtain⟨v,vr,rfl,r1,r2⟩:=r;exact{v,vr,rfl,F,_,M,j,u,y.set r1,B,r2,e,k}
noncomputable def h7:∀{l:List Nat}{ds:List D}{Z ρ1:Env},fm l ds Z=some ρ1->ds.length=l.length
 |[],[],_,_,_=>rfl
 |_::_,[],_,_,h=>by cases h
 |[],_::_,_,_,h=>by cases h
 | _::l,_::ds,_,_,h=>by
   have:=h7 (ds:=ds) h;simp[this]
def Kv (F:X.calm=true)(E:X.N.Nodup)(h:iD X l ns):PG X (.Tuple ns k pos) (gT fa X.K (.tup l)):=
 sH (sG F (tZ E h) h.each.1 h.each.2) λv P H Q ⟨L,O,M,d,j,y,B,r,e,k⟩=>by
  cases d with
  | tup u=>
    obtain⟨a,J,rfl,I,r⟩:=r;exact{a,J,rfl,I,by rw[r.length];exact h7 e,L,O,M,u,j,y,B,r,e,k}
  |_=>cases e
set_option tactic.hygienic true in
def um {d:D}(h:b4 (.two j l) d Z=some ρ1):∃e ds,d=.tup [e,.tup ds]/\fm l ds (Z.set j (some e))=some ρ1:=by
 unfold b4 at h;split at h
 ·next e=>cases e
 ·next e=>cases e
 ·next e=>cases e;exact{_,_,rfl,h}
 ·cases h
 ·cases h
def Ku (F:X.calm=true)(E:X.N.Nodup){ns:List Expr}(hi:X.N[i]?=some x)(S:Loc X.env.scope x)(hf:X.fn x=true\/X.env.scope.names.lookup x=some .local)(h:iD X l ns):PG X (.Tuple [.Name x px,.Tuple ns k2 p2] k pos) (gT fa X.K (.two i l)):=
 sH (sG F (mU (pz E hi S hf) (mU (sG F (tZ E h) h.each.1 h.each.2) vc))) λv σ H Q ⟨μ,Z,M,d,y,O,P,r,e,k⟩=>by
  obtain⟨J,L,rfl,e⟩:=um e;obtain⟨a,vs,rfl,R,U,W,rfl,r0,v1,u,rfl,r1,r2⟩:=r;obtain rfl:u=[]:=r2;obtain⟨b,Y,rfl,j,I⟩:=r1;exact{a,_,rfl,R,rfl,U,_,rfl,.ref b,[],rfl,b,Y,rfl,j,by rw[I.length];exact h7 e,μ,Z.set i (some J),M,L,y,O.set r0,P,I,e,λB h1=>{rfl,k B h1}}
end
section
variable{fa:Fa}{X:Cx}{a b d:Expr}{ga gb gd:Env->Mem->Res D}{pos p:Pos}{es:List Expr}{gs:Env->Mem->Res (List D)}{n:Nat}
def Km (P:DE fa X a ga)(Q:PG X tg (gT fa X.K t))(hs:swapsWithSole [tg] a pos.line X.env=pure false)(R:swappedStores [tg] a X.env=pure none)(h1:(assignEach [tg] X.env).map (·.2)=[assign tg X.env]) :
 DS fa X (.Assign [tg] a pos) (λZ M=>(ga Z M).bind λx M=>(bV M (b4 t x Z)).bind λρ1 M=>.ok (.next ρ1) M):=
 dm (nO P Q hs R h1) λD σ H ⟨Y,Z,M,L,O,h⟩=>t1 L O h λx J v I u S B j r1 h1=>by
  obtain⟨ρ1,W,e,q⟩:=aI h1;cases y:b4 t x Z with
  |none=>rw[y] at e;cases e
  | some U=>
    rw[y] at e;cases e;exact{u,Z,J,x,ρ1,B,j,r1,y,λF E=>q F I u S E j}
def kW {y:Ends}{ad:Addr}(B:bc fa X.K μ H σ Z)(v:RelM fa X.K μ H M)(hk:μ.pub k=some ad)(r:aG fa X.K μ H ds ws)
 (q:∀j u h,Ext μ H h u->bc fa X.K h u j Z->RelM fa X.K h u (M.set k ds)->y.nx j u):y.nx σ (upd H ad (.lst ws)):=
 q σ _ μ (Ext.write (vs:=ws) v hk) (B.ext (Ext.write (vs:=ws) v hk)) (v.write hk r)
def Kj (ha:DE fa X a ga)(hb:DE fa X b gb)(hd:DE fa X d gd){p2:Pos}
 (h0:∀v,assign (.Subscript a b p2) X.env v=(do
  let B <- holding [v] (eval a X.env)
  let L <- holding [v,B] (eval b X.env)
  standAt p2
  holding [v,B,L] (setItem B L v)
  release [v,B,L] [])) (hs:swapsWithSole [.Subscript a b p2] d pos.line X.env=pure false) (hw:swappedStores [.Subscript a b p2] d X.env=pure none) (h1:(assignEach [.Subscript a b p2] X.env).map (·.2)=[assign (.Subscript a b p2) X.env]) :
 DS fa X (.Assign [.Subscript a b p2] d pos) (λZ M=>(gd Z M).bind λz M=>(ga Z M).bind λx M=>(gb Z M).bind λy M=>match x,y with
  | .cell k,.int n=>match M[k]? with
    | some ds=>match bO ds.length n with
      |some j=>.ok (.next Z) (M.set k (ds.set j z))
      |none=>.bad
    |none=>.bad
  |_,_=>.bad):=
 dm (nO hd (y3 ha hb set_list h0) hs hw h1) λU σ H ⟨μ,Z,M,hE,hM,h⟩=>t1 hE hM h λz M1 v H1 μ1 x1 F J r1 h1=>t2 F J h1 λx y M2 vx vy Y μ2 S I u rx ry h2=>by
  have O:∀k n,x=.cell k->y=.int n->Dy vx vy v Y λH3=>U.nx σ H3:=λk n e1 e2=>by
   subst e1 e2;dsimp only at h2;cases e:M2[k]? with
   |none=>rw[e] at h2;exact h2.elim
   | some ds=>
     rw[e] at h2;dsimp only at h2;cases E:LD.bO ds.length n with
     |none=>rw[E] at h2;exact h2.elim
     | some j=>
       rw[E] at h2;obtain⟨ad,rfl,hk⟩:=rx;obtain⟨ws,h4,R⟩:=u.at_ e hk;have q:=h2;refine{ad,ws,n,j,rfl,ry,h4,by rw[R.length];exact E,kW I u hk (R.set j (r1.ext S)) λQ W P x' e' m'=>q Q W P ((x1.trans S).trans x') e' m'}
  cases x with
  | cell k=>cases y with
    |int n=>exact O k n rfl rfl
    |_=>exact h2.elim
  |_=>exact h2.elim
set_option tactic.hygienic true in
def Kn (ha:DE fa X a ga)(hd:DE fa X d gd){j u:Pos}(v:attributeBase a "append" X.env (eval a X.env)=eval a X.env)(y:(j.endLine==u.line)=true)(hs:starEach [d] X.env=[(false,eval d X.env)])
 (O:swapsWith (.Call (.Attribute a "append" j) [d] [] u) none pos.line X.env=pure false) :
 DS fa X (.Expr (.Call (.Attribute a "append" j) [d] [] u) pos) (λZ M=>(ga Z M).bind λx M=>(gd Z M).bind λz M=>match x with
  | .cell k=>match M[k]? with
    |some ds=>if ds.length<sz then .ok (.next Z) (M.set k (ds++[z])) else .bad
    |none=>.bad
  |_=>.bad):=
 dm (jK (rG Rw PySem.F.slot_list_append PySem.F.type_list_append lz ha (bE hd cx hs) v (by rw[hs];rfl) y hs `r) O) λD' σ H ⟨μ,Z,M,J,hM,h⟩=>by
  obtain⟨x,M1,e1,h1⟩:=aI h;obtain⟨z,M2,e2,h2⟩:=aI h1;cases x with
  | cell k=>
    dsimp only at h2;cases e:M2[k]? with
    |none=>rw[e] at h2;exact h2.elim
    | some ds=>
      rw[e] at h2;dsimp only at h2;split at h2
      ·next hz=>
       have q:=h2;refine{μ,Z,M,J,hM,?_};rw[e1];intro vx H1 S Q B rx;obtain⟨ad,rfl,hk⟩:=rx;obtain⟨ds1,P,_,L,_⟩:=B.mu_lt hk;refine{.inl {rfl,P,cz.of L},S,Z,M1,J.ext Q,B,?_};rw[e2];intro vz H2 μ2 I E rz;obtain⟨ws,h4,W⟩:=E.at_ e (I.mu k ad hk);refine{ad,ws,vz,rfl,rfl,h4,by rw[W.length,<- cJ];exact hz,?_}
       exact kW ((J.ext Q).ext I) E (I.mu k ad hk) (W.append (.one rz)) λU Y R x' e' m'=>q U Y R ((Q.trans I).trans x') e' m'
      ·exact h2.elim
  |_=>exact h2.elim
def Mh (I:DE fa X a ga)(hs:swapsWith a none pos.line X.env=pure false):DS fa X (.Expr a pos) (λZ M=>(ga Z M).bind λ_ M=>.ok (.next Z) M):=
 dm (jK I hs) (by rintro O L H ⟨Q,Z,M,E,F,h⟩;exact t1 E F h λx P v B y J j u r1 h1=>h1 L B y J j u)
def Ki (v:DE fa X a ga):DS fa X (.Return (some a) pos) (λZ M=>(ga Z M).bind λx M=>.ok (.ret x) M):=
 dm (yX v) λB F H ⟨y,Z,M,j,u,h⟩=>by
  obtain⟨x,E,e,q⟩:=aI h;refine{y,Z,M,j,u,?_};rw[e];exact q
def GN:DS fa X (.Return none pos) (λ_ M=>.ok (.ret .non) M):=dm FP (by rintro u E H ⟨y,B,M,v,j,h⟩;exact aN j h rfl)
def GO:DS fa X (.Pass pos) (λZ M=>.ok (.next Z) M):=dm FQ (by rintro B y H ⟨v,Z,M,j,u,h⟩;exact h y H v .refl j u)
def oB {st:Stmt}:DS fa X st (λ_ _=>.bad):=(by rintro j s F H u I ⟨B,E,M,v,y,h⟩;exact h.elim)
set_option tactic.hygienic true in
def lS.ext (x:Ext μ H μ' H')(q:lS fa X μ H D' fl M):lS fa X μ' H' D' fl M:=by
 cases fl with
 |next u=>exact λv j h y e m=>q v j h (x.trans y) e m
 |ret d=>exact a7.ext q x
 |exc B u=>exact XW.ext q x
def Jl (x:Ext μ H μ' H')(h:af r (lS fa X μ H D')):af r (lS fa X μ' H' D'):=aD h λfl M q=>q.ext x
def Kk {st B:List Stmt}(J:DT fa X c gc)(L:j7 fa X st gt)(hf:j7 fa X B gf):DS fa X (.If c st B pos) (λZ M=>(gc Z M).bind λk M=>if k then gt Z M else gf Z M):=
 dm (LF J L hf) λO R H ⟨Q,Z,M,F,I,h⟩=>yB F I h λk y P v E j u h1=>by
  cases k with
  |true=>exact{v,Z,y,j,u,Jl E h1}
  |false=>exact{v,Z,y,j,u,Jl E h1}
def GL:j7 fa X [] (λZ M=>.ok (.next Z) M):=vb va (by rintro B y H ⟨v,Z,M,j,u,h⟩;exact h y H v .refl j u)
set_option tactic.hygienic true in
def CA {st:Stmt}(h1:DS fa X st g)(h2:j7 fa X ss g'):j7 fa X (st::ss) (λZ M=>(g Z M).bind λfl M=>match fl with
 |.next Z=>g' Z M
 |fl=>.ok fl M):=
 vb (mQ h1 h2) λO Q H ⟨J,Z,M,E,F,h⟩=>by
  obtain⟨fl,B,e,q⟩:=aI h;refine{J,Z,M,E,F,?_};rw[e];cases fl with
  |next j=>exact λL P y I u v=>{y,j,B,u,v,Jl I q}
  |ret d=>exact q
  |exc x j=>exact q
end
def dQ (fa:Fa)(K:O0)(μ0:Mu)(H0:Hp)(w:Walk)(J:It):Prop:=
 ∀(h:Mu) (H:Hp) (M:Mem) (u:List D),ExtW μ0 H0 h H->RelM fa K h H M->w M=some u->(∀(i:Nat) (d:D),u[i]?=some d->J.go i H/\∀x j,J.yld i H x j->Ext h H h j/\RelM fa K h j M/\Rep fa K h j d x)/\∀i,u.length<=i->J.stop i H
def tI (fa:Fa)(K:O0)(g:Env->Mem->Res Walk):TI:=λB H R=>∃u v M,bc fa K u H B v/\RelM fa K u H M/\af (g v M) λw y=>∀J j h,Ext u H h j->RelM fa K h j y->dQ fa K h j w J->R J j
abbrev DI (fa:Fa)(X:Cx)(tg h:Expr)(g:Env->Mem->Res Walk):Prop:=PI X tg h (tI fa X.K g)
def qk {K:O0}(h:dQ fa K μ0 H0 w J)(x:ExtW μ0 H0 μ1 H1):dQ fa K μ1 H1 w J:=λv H M j y u e=>h v H M j (x.trans y) u e
section
variable{fa:Fa}{X:Cx}{tg a b d:Expr}{ga gb gd:Env->Mem->Res D}{pos p:Pos}{es:List Expr}{n:Nat}
def xY {ad:Addr}(h:Rep fa X.K μ0 H0 dd (.ref ad)):dQ fa X.K μ0 H0 (λM=>fg M dd) (K9 X.K ad):=λP H M O x u e=>by
 obtain⟨E,j,ea,s,r⟩:=bK u (Rep.extW x h) e;cases ea;refine{λi d hd=>?_,λi F=>{j,s,by rw[r.length];exact F}}
 obtain⟨v,B,J⟩:=r.get hd;refine{⟨j,v,s,B⟩,λy L ⟨e,I⟩=>?_};subst e;have:=I j s;rw[B] at this;cases this;exact{.refl,u,J}
def AK {ad:Addr}(h:Rep fa X.K μ0 H0 (.tup ds) (.ref ad)):dQ fa X.K μ0 H0 (λ_=>some ds) (K5 X.K ad):=λQ H M E x I F=>by
 cases F;obtain⟨B,j,e,s,r⟩:=Rep.extW x h;cases e;refine{λi d hd=>?_,λi J=>{j,s,by rw[r.length];exact J}}
 obtain⟨v,u,O⟩:=r.get hd;refine{⟨j,v,s,u⟩,λy P ⟨e,L⟩=>?_};subst e;have:=L j s;rw[u] at this;cases this;exact{.refl,I,O}
def AM (lo:Int)(n:Nat):dQ fa X.K μ0 H0 (λ_=>some ((List.range n).map λ(k:Nat)=>D.int (lo+(k:Int)))) (EH lo n):=λB H M v x j e=>by
 cases e;refine{λi d hd=>?_,λi h=>(show n<=i by simpa using h)}
 rw[PZ] at hd;by_cases h:i<n
 ·rw[Rp h] at hd;have e:=Ph hd;subst e;refine{h,λy u ⟨e1,e2⟩=>?_};subst e1 e2;exact{.refl,j,rfl}
 ·rw[QV (by simpa using h)] at hd;cases hd
def dv (ga:Env->Mem->Res D):Env->Mem->Res Walk:=λj M=>(ga j M).bind λx M=>match x with
 |.lst h=>.ok (λ_=>some h) M
 |.tup h=>.ok (λ_=>some h) M
 |.frz h=>.ok (λ_=>some h) M
 |.cell k=>.ok (λM=>M[k]?) M
 |_=>.bad
def Kt (ha:DE fa X a ga):DI fa X tg a (dv ga):=λu s U H R I ⟨S,Z,M,W,Y,h⟩=>by
 obtain⟨x,O,e,q⟩:=aI h;have lst:(∀j E,RelM fa X.K j E O->∀v,Rep fa X.K j E x v->∃y,fg O x=some y)->(∀J E j,Ext S H j E->RelM fa X.K j E O->dQ fa X.K j E (λM=>fg M x) J->R J E)->
  wpAny (model X.prog X.w) X.A (eval a X.env) (λv s1=>wpAny (model X.prog X.w) X.A (pyIter v) (KY X u U tg R) X.xe s1) X.xe s:=λhx q=>by
  refine FU ha u s U H R I {S,Z,M,W,Y,?_};rw[e];intro v L B Q F r1;obtain⟨y,er⟩:=hx B L F v r1;obtain⟨ad,P,rfl,s1,r⟩:=bK F r1 er;exact{ad,rfl,⟨P,s1⟩,q _ L B Q F (xY r1)}
 cases x with
 |lst y=>exact lst (λ_ _ _ _ _=>⟨y,rfl⟩) q
 |frz y=>exact lst (λ_ _ _ _ _=>⟨y,rfl⟩) q
 | tup y=>
   refine IS ha u s U H R I {S,Z,M,W,Y,?_};rw[e];intro v L B Q F r1;obtain⟨ad,P,rfl,s1,r⟩:=id r1;exact{ad,rfl,⟨P,s1⟩,q _ L B Q F (AK r1)}
 |cell k=>exact lst (λj E m' v ⟨ad,_,hk⟩=>let{y,_,e,_}:=m'.mu_lt hk;⟨y,e⟩) q
 |_=>exact q.elim
def eh (ga:Env->Mem->Res D):Env->Mem->Res Walk:=λh M=>(ga h M).bind λx M=>match x with
 |.int n=>if -(2^62)<=n/\n<2^62 then .ok (λ_=>some ((List.range n.toNat).map λ(k:Nat)=>D.int (k:Int))) M else .bad
 |_=>.bad
set_option tactic.hygienic true in
def GY (L:DE fa X a ga)(O:Gl X "range")(hm:X.mg "range"=none)(hs:starEach [a] X.env=[(false,eval a X.env)]):DI fa X tg (.Call (.Name "range" p) [a] [] pos) (eh ga):=λj s Q H R I ⟨U,W,M,E,J,h⟩=>by
 refine y0 O hm (bE L cx hs) hs j s Q H R I ?_;refine t1 E J h λx S v B u P F y r1 h1=>?_;cases x with
 | int n=>
   dsimp only at h1;split at h1
   ·next c=>
    obtain rfl:v=.int n:=r1;refine{n,rfl,c.1,c.2,h1 _ B u P y ?_};have:=AM (fa:=fa) (X:=X) (μ0:=u) (H0:=B) 0 n.toNat;simpa using this
   ·exact h1.elim
 |_=>exact h1.elim
def fy (t:fw)(gb:Env->Mem->Res Fl):Fl->D->Mem->Res Fl:=λfl d M=>match fl with
 |.next j=>(bV M (b4 t d j)).bind λh M=>gb h M
 |fl=>.ok fl M
noncomputable def Fl.out:Fl->Bool
 |.next _=>false
 |_=>true
set_option tactic.hygienic true in
theorem ku {gb:Env->Mem->Res Fl}(ho:fl.out=true):∀(n i:Nat) (M:Mem),af (fB (fy t gb) w n i fl M) P->P fl M
 |0,_,_,h=>h.elim
 | n+1,i,M,h=>by
   unfold fB at h;cases e:w M with
   |none=>rw[e] at h;exact h.elim
   | some j=>
     rw[e] at h;dsimp only at h;cases e2:j[i]? with
     |none=>rw[e2] at h;exact h
     | some v=>
       rw[e2] at h;cases fl with
       |next u=>cases ho
       |ret d=>exact ku ho n (i+1) M h
       |exc x u=>exact ku ho n (i+1) M h
def tL (fa:Fa)(X:Cx)(g:Env->Mem->Res Fl):TS:=λD h H=>(∀h H,D.nx h H->D.ct h H)/\tF fa X g D h H
abbrev NC (fa:Fa)(X:Cx)(st:List Stmt)(g:Env->Mem->Res Fl):Prop:=j5 X st (tL fa X g)
def Mj {body:List Stmt}{gb:Env->Mem->Res Fl}(h:j7 fa X body gb):NC fa X body gb:=λj s u H D I q=>h j s u H D I q.2
set_option tactic.hygienic true in
def Kl {gw:Env->Mem->Res Walk}{gb:Env->Mem->Res Fl}(hp:PassesOwn (model X.prog X.w) X.A X.env X.xe)(hc:X.calm=true)(hi:DI fa X tg a gw)(hg:PG X tg (gT fa X.K t))(hb:NC fa X body gb)
 (hs:∀x,foldedSetIterable a X.env x=pure x):DS fa X (.For tg a body [] pos) (λZ M=>(gw Z M).bind λw M=>cQ (fy t gb) w (.next Z) M):=
 dm (IQ hp hc hi hg hb hs) λD' σ H ⟨μ,Z,M,hE,hM,h⟩=>by
  obtain⟨w,M1,e,q⟩:=aI h;refine{μ,Z,M,hE,hM,?_};rw[e];intro J H1 I x1 hM1 wk;have hE1:=hE.ext x1;refine{λi m E F=>∃j u L,Ext I H1 j F/\bc fa X.K j F E u/\RelM fa X.K j F L/\af (fB (fy t gb) w m i (.next u) L) (lS fa X μ H D'),
   {_,I,Z,M1,.refl,hE1,hM1,q},?_}
  rintro i m σ2 H2 ⟨B,S,M2,R,O,P,v⟩;cases m with
  |zero=>exact v.elim
  | succ m=>
    unfold fB at v;cases e2:w M2 with
    |none=>rw[e2] at v;exact v.elim
    | some ds=>
      rw[e2] at v;dsimp only at v;obtain⟨go,stop⟩:=wk B H2 M2 ds R.toExtW P e2;cases ed:ds[i]? with
      | none=>
        rw[ed] at v;exact .inl {stop i (List.getElem?_eq_none_iff.mp ed),v σ2 H2 B (x1.trans R) O P}
      | some d=>
        rw[ed] at v;obtain⟨g1,g2⟩:=go i d ed;refine .inr {g1,λE F=>∃j u L,Ext I H1 j F/\bc fa X.K j F E u/\RelM fa X.K j F L/\af (fB (fy t gb) w m (i+1) (.next u) L) (lS fa X μ H D'),λE F z=>{m,`a,z},λy H3 hy=>?_}
        obtain⟨x3,Q,r3⟩:=g2 y H3 hy;obtain⟨fl,M4,e4,q4⟩:=aI v;obtain⟨U,M5,Y,e6⟩:=d0 e4;cases eb:b4 t d S with
        |none=>rw[eb] at Y;cases Y
        | some ρ5=>
          rw[eb] at Y;cases Y;refine{B,S,_,d,U,O.ext x3,Q,r3,eb,λσ5 hE5=>{λ_ _ z=>z,B,U,_,hE5,Q,?_}};rw[e6];cases fl with
          |next W=>exact λσ6 H6 μ6 x6 hE6 hM6=>{μ6,W,M4,(R.trans x3).trans x6,hE6,hM6,q4}
          |ret d6=>exact(ku rfl m (i+1) M4 q4).ext ((x1.trans R).trans x3)
          |exc x6 W=>exact(ku rfl m (i+1) M4 q4).ext ((x1.trans R).trans x3)
end
abbrev FF:O3->O8->Prop:=λ_ _=>False
section
variable{prog:PU}{w:PM}{A:QE}{s:O8}
def Am
 (L:compTurn ce k it acc env=(standAt p >>= λ_=>pyNext it >>= λr=>match r with
  |none=>pure (.done .next)
  |some v=>letOwnedTupleGo target it v >>= λ_=>assign target env v >>= λ_=>body >>= λ_=>again (.compLoop ce k it acc env)))
 (hd:(model prog w).den (.compLoop ce k it acc env)=(compTurn ce k it acc env).onRaise (λx=>do noteFrame x env;theTreesLotGoes x)/\A.under (.compLoop ce k it acc env)=A) (I:Nat->O8->Prop)
 (turn:∀n s,I n s->wpAny (model prog w) A (pyNext it) (λr j=>match r with
  |none=>R (.ok .next) j
  |some v=>wpAny (model prog w) A (letOwnedTupleGo target it v) (λ_ y=>wpAny (model prog w) A (assign target env v) (λ_ B=>wpAny (model prog w) A body (λ_ E=>∃m,m<n/\I m E) FF B) FF y) FF j) FF s)
 (n:Nat) (h:I n s):codeAny (model prog w) A (.compLoop ce k it acc env) R s:=by
 refine codeAny_loop rfl I (λn s M=>?_) n h;rw[hd.1,hd.2];refine wpAny_noted ?_;rw[L];refine wpAny_noRaise ?_;refine tqa (wpAny_standAt (tqa (aQ (turn n s M) λr j u=>?_)));cases r with
 |none=>exact tqb u
 | some v=>
   refine tqa (aQ u λ_ y F=>?_);exact tqa (aQ F λ_ B H=>tqa (aQ H λ_ E J=>tqb ⟨rfl,J⟩))
def A6 (y h j:Expr)(E:List Rb)(u:Scope)(pos:Pos)(B acc:O3)(env:QC) :
 compTurn (.ListComp y [{h,j,[],0}] u pos) 0 B acc env=(standAt j.pos >>= λ_=>pyNext B >>= λr=>match r with
  |none=>pure (.done .next)
  |some v=>letOwnedTupleGo h B v >>= λ_=>assign h env v >>= λ_=>(eval y env >>= λx=>call (.builtin "list.append") [acc,x] >>= λ_=>pure ()) >>= λ_=>again (.compLoop (.ListComp y [{h,j,[],0}] u pos) 0 B acc env)):=`r
def turn_if (y h j c:Expr)(u:Scope)(pos:Pos)(B acc:O3)(env:QC) :
 compTurn (.ListComp y [{h,j,[c],0}] u pos) 0 B acc env=(standAt j.pos >>= λ_=>pyNext B >>= λr=>match r with
  |none=>pure (.done .next)
  |some v=>letOwnedTupleGo h B v >>= λ_=>assign h env v >>= λ_=>(isTrue c env (eval c env) >>= λok=>if ok=true then(eval y env >>= λx=>call (.builtin "list.append") [acc,x] >>= λ_=>pure ()) else pure ()) >>= λ_=>again (.compLoop (.ListComp y [{h,j,[c],0}] u pos) 0 B acc env)):=by
 rw[compTurn_list];refine congrArg _ (funext λ_=>congrArg _ (funext λr=>?_));cases r with
 |none=>rfl
 | some v=>
   simp only[List.forIn_cons,List.forIn_nil,if_true,bind_assoc,pure_bind];refine congrArg _ (funext λ_=>congrArg _ (funext λ_=>congrArg _ (funext λok=>?_)));cases ok<;>simp
def A4 (B h y t2 E:Expr)(u:Scope)(pos:Pos)(F acc:O3)(env:QC) :
 compTurn (.ListComp B [{h,y,[],0},{t2,E,[],0}] u pos) 0 F acc env=(standAt y.pos >>= λ_=>pyNext F >>= λr=>match r with
  |none=>pure (.done .next)
  |some v=>letOwnedTupleGo h F v >>= λ_=>assign h env v >>= λ_=>(eval E env >>= λx=>standAt E.pos >>= λ_=>foldedSetIterable E env x >>= λx=>holding [x] (pyIter x) >>= λj=>runOwn (.compStart (.ListComp B [{h,y,[],0},{t2,E,[],0}] u pos) 1 j acc env) env >>= λ_=>pure ()) >>= λ_=>again (.compLoop (.ListComp B [{h,y,[],0},{t2,E,[],0}] u pos) 0 F acc env)):=by
 refine bind_congr λ_=>bind_congr λr=>?_;cases r with
 |none=>rfl
 |some v=>simp
def A5 (y h u t2 E:Expr)(j:Scope)(pos:Pos)(B acc:O3)(env:QC) :
 compTurn (.ListComp y [{h,u,[],0},{t2,E,[],0}] j pos) 1 B acc env=(standAt E.pos >>= λ_=>pyNext B >>= λr=>match r with
  |none=>pure (.done .next)
  |some v=>letOwnedTupleGo t2 B v >>= λ_=>assign t2 env v >>= λ_=>(eval y env >>= λx=>call (.builtin "list.append") [acc,x] >>= λ_=>pure ()) >>= λ_=>again (.compLoop (.ListComp y [{h,u,[],0},{t2,E,[],0}] j pos) 1 B acc env)):=by
 rfl
set_option tactic.hygienic true in
theorem kI (env:QC):∀(ns:List (Str×NameKind)) (h:List (Str×Addr)),(∀y∈ns,y.2=.free->∃c,env.cells.lookup y.1=some c)->(∀x c,h.lookup x=some c->env.cells.lookup x=some c)->
 ∃cl,(forIn ns h λ(y:Str×NameKind) (r:List (Str×Addr))=>if (y.2==NameKind.free)=true then cellOf env y.1 >>= λa=>pure (ForInStep.yield ((y.1,a)::r)) else pure (ForInStep.yield r):Sem _)=pure cl/\
  (∀x c,cl.lookup x=some c->env.cells.lookup x=some c)/\(∀x c,h.lookup x=some c->∃E,cl.lookup x=some E)/\∀y∈ns,y.2=.free->∃c,cl.lookup y.1=some c
 |[],h,_,h2=>{h,`s,h2,λx c e=>⟨c,e⟩,λy j=>nomatch j}
 | (n,k)::ns,h,h1,h2=>by
   by_cases hk:k=.free
   ·subst hk;obtain⟨a,v⟩:=h1 (n,.free) Pn rfl;have lk:∀x c,((n,a)::h).lookup x=some c->env.cells.lookup x=some c:=λx c e=>by
     rw[P5] at e;split at e
     ·next q=>cases e;rw[eq_of_beq q];exact v
     ·exact h2 x c e
    obtain⟨cl,e,p1,p2,u⟩:=kI env ns ((n,a)::h) (λy j=>h1 y (Pa _ j)) lk;refine{cl,?_,p1,λx c q=>?_,λy j hf=>?_}
    ·rw[List.forIn_cons];have H:cellOf env n=pure a:=by unfold cellOf;rw[v]
     simp only[beq_self_eq_true,if_true,H];exact e
    ·by_cases B:x=n
     ·exact p2 x a (by rw[P5,B];simp)
     ·exact p2 x c (by rw[P5,P7.mpr B];exact q)
    ·rcases Pr.mp j with z|z
     ·subst z;exact p2 n a (by simp[P5])
     ·exact u y z hf
   ·obtain⟨cl,e,p1,p2,u⟩:=kI env ns h (λy j=>h1 y (Pa _ j)) h2;refine{cl,?_,p1,p2,λy j hf=>?_}
    ·rw[List.forIn_cons];have F:(k==NameKind.free)=false:=by simpa using hk
     simp only[F,Bool.false_eq_true,if_false];exact e
    ·rcases Pr.mp j with z|z
     ·subst z;exact absurd hf hk
     ·exact u y z hf
def oJ (h:∀y∈j.names,y.2=.free->∃c,env.cells.lookup y.1=some c) :
 ∃cl,closureFor j env=pure cl/\(∀x c,cl.lookup x=some c->env.cells.lookup x=some c)/\∀y∈j.names,y.2=.free->∃c,cl.lookup y.1=some c:=by
 obtain⟨cl,e,p1,_,u⟩:=kI env j.names [] h (λx c q=>nomatch q);exact{cl,by unfold closureFor;simp only[bind_pure];exact e,p1,u}
end
noncomputable def fv (X:Cx)(own bn:List Str)(scope:Scope)(cl:List (Str×Addr))(C:Addr)(fp:List Addr)(s:O8)(H:Hp):Cx:=
 {X with N:=own++bn,s₀:=s,H₀:=H,env:=compEnvC scope cl C X.env,outer:=X.stack,ex:=fp,fn:=λx=>scope.names.lookup x==some .cell,pn:=[],xe:=FF}
set_option tactic.hygienic true in
noncomputable def mem_of_lookup {j:Type}:∀{l:List (Str×j)}{x:Str}{k:j},l.lookup x=some k->(x,k)∈l
 |[],_,_,h=>by cases h
 | (n,b)::r,x,k,h=>by
   rw[P5] at h;split at h
   ·next q=>cases h;rw[eq_of_beq q];exact Pn
   ·exact Pa _ (mem_of_lookup h)
set_option tactic.hygienic true in
theorem fZ {env:QC}:∀{j:List (Str×NameKind)}{x:Str}{k:NameKind},
 (j.map λ(n,k)=>if (k==NameKind.free&&env.scope.kind==.function&&env.kindOf n==some .cell) then(n,NameKind.cell) else(n,k)).lookup x=some k->
 ∃k0,(x,k0)∈j/\j.lookup x=some k0/\(k=k0\/(k0=.free/\k=.cell))
 |[],_,_,h=>by cases h
 | (n,k0)::r,x,k,h=>by
   have y:=@fZ env r x k;have h:List.lookup x ((if (k0==NameKind.free&&env.scope.kind==.function&&env.kindOf n==some .cell)=true then(n,NameKind.cell) else(n,k0))::_)=some k:=h;cases u:x==n with
   | true=>
     have e:=eq_of_beq u;subst e;refine{k0,Pn,by simp[P5],?_}
     split at h
     ·next c=>
      simp[P5] at h;simp at c;exact .inr ⟨c.1.1,h.symm⟩
     ·simp[P5] at h;exact .inl h.symm
   | false=>
     have v:List.lookup x (r.map λ(n,k)=>if (k==NameKind.free&&env.scope.kind==.function&&env.kindOf n==some .cell) then(n,NameKind.cell) else(n,k))=some k:=by
      split at h<;>simpa[P5,u] using h
     obtain⟨k1,h1,h2,h3⟩:=y v;exact{k1,Pa _ h1,by simp[P5,u];exact h2,h3}
noncomputable def nY {h j:Type}{R:h->j->Prop}:∀{l:List h}{r:List j}{i:Nat}{x:h},Q0 R l r->l[i]?=some x->∃y,r[i]?=some y/\R x y
 |_,_,_,_,.nil,e=>by simp at e
 |_,_,0,_,.cons p _,e=>by simp at e;subst e;exact{_,rfl,p}
 | _,_,i+1,x,.cons _ t,e=>by
   obtain⟨y,h1,h2⟩:=nY t (by simpa using e)
   exact{y,by simpa using h1,h2}
structure eQ (X:Cx) (own bn:List Str) (scope:Scope):Prop where
 kind:scope.kind=.function
 cel:∀y∈scope.names,y.2=.cell->scope.names.lookup y.1=some .cell
 loc:∀y∈scope.names,y.2=.local->scope.names.lookup y.1=some .local
 free:∀y∈scope.names,y.2=.free->X.env.kindOf y.1=some .cell\/X.env.kindOf y.1=some .free
 dis:Q0 (λb x=>(b=x/\scope.names.lookup x≠some .local/\scope.names.lookup x≠some .cell)\/scope.names.lookup b=none) bn X.N
noncomputable def iW:∀(h:List (Str×NameKind)) (n:Nat) (acc:List (Str×Addr)),cellsFrom n h acc=cellsFrom n h []++acc
 |[],_,_=>rfl
 | (nm,k)::r,n,acc=>by
   unfold cellsFrom;split
   ·rw[iW r (n+1) ((nm,n)::acc),iW r (n+1) [(nm,n)],Qv];rfl
   ·exact iW r n acc
set_option tactic.hygienic true in
theorem uc:∀{j:List (Str×NameKind)}{n:Nat}{x:Str}{c:Addr},(x,c)∈cellsFrom n j []->(x,NameKind.cell)∈j
 |[],_,_,_,h=>nomatch h
 | (nm,k)::r,n,x,c,h=>by
   unfold cellsFrom at h;split at h
   ·next e=>
    rw[iW] at h;rcases PJ.mp h with h|h
    ·exact Pa _ (uc h)
    ·cases Pj.mp h;rw[eq_of_beq e];exact Pn
   ·exact Pa _ (uc h)
theorem oK:∀{j:List (Str×NameKind)}{n:Nat}{x:Str},(x,NameKind.cell)∈j->∃c,(x,c)∈cellsFrom n j []
 | (nm,k)::r,n,x,h=>by
   unfold cellsFrom;rcases Pr.mp h with h|h
   ·cases h;rw[if_pos (by rfl:(NameKind.cell==NameKind.cell)=true),iW]
    exact{n,PR _ (Pj.mpr rfl)}
   ·split
    ·obtain⟨c,u⟩:=oK h;rw[iW];exact{c,Qm _ u}
    ·exact oK h
noncomputable def lB {j:Type}:∀{l:List (Str×j)}{x:Str}{b:j},(x,b)∈l->∃c,l.lookup x=some c
 | (n,u)::r,x,b,h=>by
   rw[P5];cases e:x==n with
   |true=>exact{_,rfl}
   | false=>
     rcases Pr.mp h with z|z
     ·cases z;rw[beq_self_eq_true] at e;cases e
     ·exact lB z
def qQ
 (h:Q (newEnv scope s.heap.objs.size globals (cellsFrom (s.heap.objs.size+1) scope.names cl) qual none .none (some env) builtinsNs) {s with heap:=pushCells (s.heap.push {cls:=.type "dict",data:=.dict #[]}) scope.names}) :
 wpAny M A (newFunctionEnv scope globals cl [] qual none .none (some env)) Q E s:=by
 simp only[newFunctionEnv,Option.isSome_some,if_true];refine tqa (wpAny_alloc ?_);refine tqa (wpAny_layCells _ (λv kind j=>by cases u:kind==NameKind.cell<;>simp[u]) _ _ _ _ ?_)
 rw[show({s with heap:=s.heap.push {cls:=.type "dict",data:=.dict #[]}}:O8).heap.objs.size=s.heap.objs.size+1 from Heap.size_push ..]
 exact tqa (tqb (tqb h))
section
variable{X:Cx}{pins:List (Addr×Obj)}{σ:L2.St}{H:Hp}{s:O8}{fp:List Addr}{scope:Scope}{cl:List (Str×Addr)}{own bn:List Str}
structure Cl (X:Cx) (scope:Scope) (cl:List (Str×Addr)) (n:Nat):Prop where
 sub:∀x c,cl.lookup x=some c->(scope.names.lookup x=some .cell/\n<c)\/(scope.names.lookup x≠some .cell/\X.env.cells.lookup x=some c)
 inj:∀x y c,cl.lookup x=some c->cl.lookup y=some c->scope.names.lookup x=some .cell->scope.names.lookup y=some .cell->x=y
 has:∀y∈scope.names,(y.2=.free\/y.2=.cell)->∃c,cl.lookup y.1=some c
def Et (S:eQ X own bn scope)(h1:∀x c,cl.lookup x=some c->X.env.cells.lookup x=some c)(h2:∀y∈scope.names,y.2=.free->∃c,cl.lookup y.1=some c)(h:Heap)(hn:h.objs.size=n+1) :
 Cl X scope (cellsFrom (n+1) scope.names cl) n/\∀x c,(cellsFrom (n+1) scope.names cl).lookup x=some c->scope.names.lookup x=some .cell->(pushCells h scope.names).IsCell c none:=by
 have ok:=cellsFrom_ok scope.names h (n+1) [] {λ_ _ hm=>(nomatch hm),List.Pairwise.nil} (by rw[hn];exact O4 _)
 rw[hn] at ok;rw[iW];have j:∀{x c},(cellsFrom (n+1) scope.names []++cl).lookup x=some c->scope.names.lookup x=some .cell->(x,c)∈cellsFrom (n+1) scope.names []:=λ{x c} e u=>by
  obtain⟨E,I⟩:=oK (mem_of_lookup u);obtain⟨J,h2⟩:=lB I;rw[List.lookup_append,h2] at e;cases e;exact mem_of_lookup h2
 have v:∀{x c},(cellsFrom (n+1) scope.names []++cl).lookup x=some c->scope.names.lookup x≠some .cell->cl.lookup x=some c:=λ{x c} e u=>by
  rw[List.lookup_append] at e;cases z:(cellsFrom (n+1) scope.names []).lookup x with
  |none=>rw[z] at e;exact e
  |some E=>exact absurd (S.cel _ (uc (mem_of_lookup z)) rfl) u
 refine{{λx c e=>?_,λx y c e1 e2 u B=>?_,λy B hk=>?_},λx c e u=>(ok.empty x c (j e u)).1}
 ·by_cases u:scope.names.lookup x=some .cell
  ·exact .inl {u,(ok.empty x c (j e u)).2}
  ·exact .inr {u,h1 x c (v e u)}
 ·exact name_of_addr ok.apart (j e1 u) (j e2 B)
 ·rcases hk with hk|hk
  ·obtain⟨c,F⟩:=h2 y B hk;rw[List.lookup_append];cases (cellsFrom (n+1) scope.names []).lookup y.1 with
   |none=>exact⟨c,F⟩
   |some E=>exact⟨E,rfl⟩
  ·obtain⟨c,F⟩:=oK (by rw[<- hk];exact B)
   obtain⟨J,e2⟩:=lB F;rw[List.lookup_append,e2];exact⟨J,rfl⟩
def G7 (I:Inv X pins σ H s)(S:eQ X own bn scope)(j:Cl X scope cl s.heap.objs.size)(v:∀b∈fp,ef X pins H b)(B:∀b∈fp,∃o,s.heap.get? b=some o) :
 (fv X own bn scope cl s.heap.objs.size fp s H).Ok where
 mod:=I.ok.mod
 kind:=S.kind
 glob:=I.ok.glob
 blt:=I.ok.blt
 above:=O4 _
 inj:=λx y c h1 h2=>by
  have lt:=λz e=>Nat.not_lt.mpr (Rf (let{_,q}:=I.cell z c e;q.lt))
  rcases j.sub x c h1 with⟨a1,a2⟩|⟨a1,a2⟩<;>rcases j.sub y c h2 with⟨b1,b2⟩|⟨b1,b2⟩
  ·exact j.inj x y c h1 h2 a1 b1
  ·exact absurd a2 (lt y b2)
  ·exact absurd b2 (lt x a2)
  ·exact I.ok.inj x y c a2 b2
 has:=λx h=>by
  have E:∀k,(relabel scope X.env).names.lookup x=some k->(k=.cell\/k=.free)->∃c,cl.lookup x=some c:=λk hk F=>by
   obtain⟨L,h1,h2,h3⟩:=fZ hk;refine j.has _ h1 ?_;rcases h3 with e|⟨e,_⟩
   ·rcases F with z|z
    ·exact .inr (e.symm.trans z)
    ·exact .inl (e.symm.trans z)
   ·exact .inl e
  rcases h with h|h
  ·exact E _ h (.inl rfl)
  ·exact E _ h (.inr rfl)
 cab:=λx c h e=>by
  rcases j.sub x c e with⟨_,a2⟩|⟨a1,_⟩
  ·exact Rf a2
  ·exact absurd (eq_of_beq h) a1
 hd:=I.ok.hd
 frames:=I.ok.frames
 stk:=.inl rfl
 exf:=λb u=>{λe=>by
  obtain⟨o,ho⟩:=B b u;exact absurd (Po ho) (by rw[e];exact Ql _),λx c e=>by
  rcases j.sub x c e with⟨_,a2⟩|⟨_,a2⟩
  ·obtain⟨o,ho⟩:=B b u;exact λz=>absurd (Po ho) (by rw[<- z];exact Nat.lt_asymm a2)
  ·exact(v b u).2.2.2.2.1 x c a2}
 bs:=λb o e=>I.bs b o e
 bsz:=Pk I.ok.bsz I.sz
 noex:=λb o e u=>by
  rcases(v b u).2.2.2.1 with z|z
  ·exact I.ok.noex b o e z
  ·exact absurd (Pu (Po e) (Pk I.ok.bsz z)) (Ql _)
 exfs:=λb u J=>by
  rcases Pr.mp (I.stkSub b J) with e|e
  ·exact(v b u).2.1 e
  ·exact(v b u).2.2.1 e
 funs:=I.stack
 frf:=λb u=>I.stkFree b u
def ua (I:Inv X pins σ H s)(S:eQ X own bn scope)(h:Cl X scope cl s.heap.objs.size)(P:∀b∈fp,ef X pins H b)(O:∀b∈fp,∃o,s.heap.get? b=some o)
 (hn:h'.Ns s.heap.objs.size m) (hk:∀b o,s.heap.get? b=some o->h'.get? b=some o) (M:∀x c,cl.lookup x=some c->scope.names.lookup x=some .cell->h'.IsCell c none) :
 Inv (fv X own bn scope cl s.heap.objs.size fp s H) [] (List.replicate own.length none++σ) H {s with heap:=h',toks:=t'} where
 ok:=G7 I S h P O
 os:=rfl
 bare:=I.bare
 base:=Un.kept hk
 loc:=by
  refine{m,hn,λi x v e1 e2 W=>?_};have e1:(own++bn)[i]?=some x:=e1;have U:own.length<=i:=by
   by_cases q:i<own.length
   ·rw[O9 (by simpa using q),Ra] at e2
    simp[q] at e2
   ·omega
  rw[Py U] at e1;rw[Py (by simpa using U)] at e2
  simp only[QK] at e2;have L:X.N[i-own.length]?=some x/\scope.names.lookup x≠some .local/\scope.names.lookup x≠some .cell:=by
   rcases nY S.dis e1 with⟨y,h1,⟨h2,h3⟩|h2⟩
   ·subst h2;exact⟨h1,h3⟩
   ·exfalso;have no:∀k,(relabel scope X.env).names.lookup x≠some k:=λk hk=>by
     obtain⟨Q,_,h3,_⟩:=fZ hk;rw[h2] at h3;cases h3
    rcases W with z|z|z
    ·exact no _ z
    ·exact no _ z
    ·exact no _ z
  have R:∀k,(relabel scope X.env).names.lookup x=some k->(k=.local\/k=.cell\/k=.free)->∃c,(k=.cell\/k=.free)/\cl.lookup x=some c/\(X.env.kindOf x=some .cell\/X.env.kindOf x=some .free):=λk j J=>by
   obtain⟨Q,h1,h2,h3⟩:=fZ j;have nl:Q≠.local:=λe=>L.2.1 (by rw[h2,e])
   have hf:Q=.free:=by
    rcases h3 with e|⟨e,_⟩
    ·rcases J with z|z|z
     ·exact absurd (e.symm.trans z) nl
     ·exact absurd (by rw[h2,e.symm.trans z]) L.2.2
     ·exact e.symm.trans z
    ·exact e
   obtain⟨c,Y⟩:=h.has _ h1 (.inl hf);refine{c,?_,Y,S.free _ h1 hf};rcases J with z|z|z
   ·rcases h3 with e|⟨_,e⟩
    ·rw[hf] at e;rw[e] at z;cases z
    ·rw[e] at z;cases z
   ·exact .inl z
   ·exact .inr z
  have B:∀k,(relabel scope X.env).names.lookup x=some k->(k=.local\/k=.cell\/k=.free)->∃u,RelV v u/\Look (compEnvC scope cl s.heap.objs.size X.env) h' m x u:=λk j J=>by
   obtain⟨c,h1,h2,h3⟩:=R k j J;obtain⟨m0,_,hl⟩:=I.loc;obtain⟨u,r,l⟩:=hl _ x v L.1 e2 (.inr h3);refine{u,r,.inr {?_,c,h2,?_}}
   ·rcases h1 with z|z
    ·subst z;exact .inl j
    ·subst z;exact .inr j
   ·rcases l with⟨z,_⟩|⟨_,c',F,E⟩
    ·rcases h3 with q|q
     ·rw[z] at q;cases q
     ·rw[z] at q;cases q
    ·rcases h.sub x c h2 with⟨a1,_⟩|⟨_,a2⟩
     ·exact absurd a1 L.2.2
     rw[a2] at F;cases F;obtain⟨o,ho,hd⟩:=E;exact{o,hk _ _ ho,hd}
  rcases W with z|z|z
  ·exact B _ z (.inl rfl)
  ·exact B _ z (.inr (.inl rfl))
  ·exact B _ z (.inr (.inr rfl))
 cell:=λx c e=>by
  rcases h.sub x c e with⟨a1,_⟩|⟨_,a2⟩
  ·exact{none,M x c e a1}
  obtain⟨v,o,ho,hd⟩:=I.cell x c a2;exact{v,o,hk _ _ ho,hd}
 free:=I.hok.fresh (O4 _)
 freeC:=λx c e=>(h.sub x c e).elim (λz=>I.hok.fresh (Rf z.2)) λz=>I.freeC x c z.2
 pin:=λp hp=>nomatch hp
 hok:=I.hok.kept hk
 len:=by
  show(List.replicate own.length none++σ).length=(own++bn).length;have:=Paired.length S.dis;simp[I.len,this]
def comp_back (I:Inv X pins σ H s)(h:∀b∈fp,ef X pins H b)(j:Inv (fv X own bn scope cl C fp s H) pins' σ' H' s'):Inv X pins σ H' s':=
 I.call' j.os j.base j.hok j.bare λb u=>{(h b u).2.2.2.1,(h b u).2.1,(h b u).2.2.2.2.1,(h b u).2.2.2.2.2}
def qS (I:Inv X pins σ H s)(hf:H' s.heap.objs.size=none)(h:Inv X pins σ' H' s')(hs:QX s.heap.objs.size s'.heap h''):Inv X pins σ' H' {s' with heap:=h''}:=
 h.turned (λb o j e=>(hs.2 b j).trans e) hf (Qg I.lt) (.inr I.sz) (λx c e z=>by
  obtain⟨v,q⟩:=I.cell x c e;exact absurd q.lt (by rw[z];exact Ql _)) λp u z=>absurd (Po (I.pin p u).1) (by rw[z];exact Ql _)
end
structure eP (a:Addr) (μ:Mu) (H:Hp) (μ':Mu) (H':Hp):Prop extends ExtW μ H μ' H' where
 pr:μ'.priv=μ.priv
 pk:∀b∈μ.priv,b≠a->H' b=H b
def eP.refl:eP a μ H μ H:={.refl,rfl,λ_ _ _=>rfl}
def eP.trans (x:eP a μ H μ1 H1)(y:eP a μ1 H1 μ2 H2):eP a μ H μ2 H2:=
 {x.toExtW.trans y.toExtW,y.pr.trans x.pr,λb h n=>(y.pk b (by rw[x.pr];exact h) n).trans (x.pk b h n)}
def Ext.toD (x:Ext μ H μ' H'):eP a μ H μ' H':={x.toExtW,x.pr,λb h _=>x.pk b h}
noncomputable def slots:fw->List Nat
 |.one i=>[i]
 |.tup l=>l
 |.two i l=>i::l
def Clear (W:List Nat)(Z:Env):Prop:=∀i∈W,∀d,Z[i]?≠some (some d)
section
variable{fa:Fa}{K:O0}{μ μ':Mu}{H H':Hp}{σ:L2.St}{Z ρ1:Env}{M:Mem}{a:Addr}
def bc.weak (h:bc fa K μ H σ ρ1)(hl:ρ1.length=Z.length)(w:∀(i:Nat) d,Z[i]?=some (some d)->ρ1[i]?=some (some d)):bc fa K μ H σ Z:=
 {h.len.trans hl,λi d e=>h.at' i d (w i d e)}
theorem kg:∀{l:List Nat}{ds:List D}{Z ρ1:Env},fm l ds Z=some ρ1->ρ1.length=Z.length/\∀i,i∉l->ρ1[i]?=Z[i]?
 |[],[],Z,ρ1,h=>by cases h;exact{rfl,λ_ _=>rfl}
 |_::_,[],_,_,h=>by cases h
 |[],_::_,_,_,h=>by cases h
 | j::l,d::ds,Z,ρ1,h=>by
   obtain⟨h1,h2⟩:=kg (ds:=ds) h;refine{by simpa using h1,λi u=>?_}
   rw[h2 i (λz=>u (Pa _ z)),Pc (λz=>u (by rw[z];exact Pn))]
def qY (h:b4 t d Z=some ρ1):ρ1.length=Z.length/\∀i,i∉slots t->ρ1[i]?=Z[i]?:=by
 cases t with
 | one j=>
   cases h;exact{`s,λi u=>Pc (λz=>u (by rw[z];exact Pn))}
 | tup l=>
   cases d with
   |tup v=>exact kg h
   |_=>cases h
 | two j l=>
   obtain⟨e,v,rfl,h⟩:=um h;obtain⟨h1,h2⟩:=kg h;refine{by simpa using h1,λi u=>?_}
   rw[h2 i (λz=>u (Pa _ z)),Pc (λz=>u (by rw[z];exact Pn))]
def bc.unbind (h:b4 t d Z=some ρ1)(c:Clear (slots t) Z)(r:bc fa K μ H σ ρ1):bc fa K μ H σ Z:=by
 obtain⟨h1,h2⟩:=qY h;refine r.weak h1 λi d e=>?_;by_cases j:i∈slots t
 ·exact absurd e (c i j d)
 ·rw[h2 i j];exact e
def RelM.writeP (h:RelM fa K μ H M)(e:a∈μ.priv)(v:H a=some (.lst vs)):RelM fa K μ (upd H a (.lst ws)) M:=by
 have x:ExtW μ H μ (upd H a (.lst ws)):=ExtW.write v (.inr e);refine{λk B q=>?_,h.out,h.oout,h.inj,h.oinj,h.sep,λb y=>{?_,(h.pv b y).2}}
 ·rcases h.at' k B q with⟨b,u,h1,h2,h3⟩|⟨b,h1,h2,h3⟩
  ·have E:b≠a:=λz=>(h.pv a e).2 k (by rw[h1,z])
   exact .inl {b,u,h1,by rw[ao E];exact h2,h3.extW x}
  ·exact .inr {b,h1,h2,h3.extW x (ao (h3.nl v))}
 ·by_cases j:b=a
  ·subst j;exact⟨ws,bJ⟩
  ·obtain⟨u,q⟩:=(h.pv b y).1;exact{u,by rw[ao j];exact q}
def eP.writeP (e:a∈μ.priv)(h:H a=some (.lst vs)):eP a μ H μ (upd H a (.lst ws)):=
 {ExtW.write h (.inr e),rfl,λb _ n=>by rw[ao n]}
end
abbrev PA:=Mu->Hp->List D->Prop
def xJ (A:PA):Prop:=∀μ H μ' H' h,Ext μ H μ' H'->A μ H h->A μ' H' h
def LA (fa:Fa)(K:O0)(a:Addr):PA:=λμ H h=>a∈μ.priv/\∃j,H a=some (.lst j)/\aG fa K μ H h j
def LA.stab {K:O0}:xJ (LA fa K a):=(by rintro _ _ _ _ _ x ⟨h1,h,h2,h3⟩;exact{by rw[x.pr];exact h1,h,by rw[x.pk _ h1];exact h2,h3.ext x})
def WB (fa:Fa)(K:O0)(A:PA)(a:Addr)(μ:Mu)(H:Hp)(Z:Env)(Q:L2.St->Hp->Prop)(acc:List D)(M':Mem):Prop:=
 ∀h H' μ',eP a μ H μ' H'->bc fa K μ' H' h Z->RelM fa K μ' H' M'->A μ' H' acc->Q h H'
def WB.ext {K:O0}(h:WB fa K A a μ H Z Q acc M')(x:eP a μ H μ1 H1):WB fa K A a μ1 H1 Z Q acc M':=
 λj H' μ' y e m h1=>h j H' μ' (x.trans y) e m h1
def DB (fa:Fa)(X:Cx)(A:PA)(a:Addr)(W:List Nat)(body:Sem Unit)(g:Env->List D->Mem->Res (List D)):Prop:=
 ∀(h:List (Addr×Obj)) (s:O8) (σ:L2.St) (H:Hp) (Q:L2.St->Hp->Prop) (μ:Mu) (Z:Env) (M:Mem) (j:List D),Inv X h σ H s->bc fa X.K μ H σ Z->RelM fa X.K μ H M->Clear W Z->A μ H j->
  af (g Z j M) (WB fa X.K A a μ H Z Q)->wpAny (model X.prog X.w) X.A body (λ_ v=>∃u H',Inv X h u H' v/\Q u H') X.xe s
def cg (ge:Env->Mem->Res D):Env->List D->Mem->Res (List D):=λZ h M=>(ge Z M).bind λx M=>if h.length<sz then .ok (h++[x]) M else .bad
def oo (j:Env->Mem->Res Bool)(g:Env->List D->Mem->Res (List D)):Env->List D->Mem->Res (List D):=λZ h M=>(j Z M).bind λk M=>if k then g Z h M else .ok h M
def cU (t:fw)(g:Env->List D->Mem->Res (List D))(Z:Env):List D->D->Mem->Res (List D):=λh d M=>(bV M (b4 t d Z)).bind λρ1 M=>g ρ1 h M
def tR (t:fw)(j:Env->Mem->Res Walk)(g:Env->List D->Mem->Res (List D)):Env->List D->Mem->Res (List D):=λZ h M=>(j Z M).bind λw M=>cQ (cU t g Z) w h M
section
variable{fa:Fa}{X:Cx}{a:Addr}
set_option tactic.hygienic true in
def t6 (he:DE fa X elt ge):DB fa X (LA fa X.K a) a [] (eval elt X.env >>= λx=>call (.builtin "list.append") [.ref a,x] >>= λ_=>pure ()) (cg ge):=by
 rintro B s σ H Q μ Z M acc I R hM hc ⟨S,L,hH,hr⟩ h;obtain⟨x,Y,e,q⟩:=aI h;split at q
 ·next hz=>
  refine tqa (aQ (he B s σ H (λv y=>∃j,Ext μ H j y/\RelM fa X.K j y Y/\Rep fa X.K j y x v) I {μ,Z,M,R,hM,?_}) λu s1 ⟨v,y,U,rv,j,J,P,r1⟩=>?_)
  ·rw[e];exact λv y j J P r1=>⟨j,J,P,r1⟩
  have E:y a=some (.lst L):=by rw[J.pk a S];exact hH
  have F:a∈j.priv:=by rw[J.pr];exact S
  have hl:L.length<sizeLine:=by rw[hr.length,<- cJ];exact hz
  refine tqa (aQ (lz B s1 σ y (.ref a) [v] (.ref a) [u] (λ_ O=>O=upd y a (.lst (L++[v]))) U rfl (.cons rv .nil) ⟨a,L,v,rfl,rfl,E,hl,rfl⟩) λ_ s2 ⟨_,O,W,_,e2⟩=>tqb {σ,O,W,?_});subst e2;have xd:eP a j y j (upd y a (.lst (L++[v]))):=eP.writeP F E;exact q σ _ j (J.toD.trans xd) ((R.ext J).extW xd.toExtW) (P.writeP F E) {F,_,bJ,((hr.ext J).append (.one r1)).extW xd.toExtW}
 ·exact q.elim
def Mm (P:xJ A)(Y:DT fa X c gc)(U:DB fa X A a W body g) :
 DB fa X A a W (isTrue c X.env (eval c X.env) >>= λok=>if ok=true then body else pure ()) (oo gc g):=by
 intro u s σ H Q μ Z M E I F S hw O h;obtain⟨k,L,e,q⟩:=aI h;refine tqa (aQ (Y u s σ H (λb y=>b=k/\∃j,Ext μ H j y/\RelM fa X.K j y L) I {μ,Z,M,F,S,?_}) λb s1 ⟨y,J,R,j,v,B⟩=>?_)
 ·rw[e];exact λy j v B=>⟨rfl,j,v,B⟩
 subst R;cases b with
 | true=>
   rw[if_pos rfl];exact U u s1 σ y Q j Z L E J (F.ext v) B hw (P _ _ _ _ _ v O) (aD q λ_ _ w=>w.ext v.toD)
 | false=>
   rw[if_neg PC];exact tqb {σ,y,J,q σ y j v.toD (F.ext v) B (P _ _ _ _ _ v O)}
def pY (sA:xJ A)
 (heq:compTurn ce k (.ref it) (.ref a) X.env=(standAt p >>= λ_=>pyNext (.ref it) >>= λr=>match r with
  |none=>pure (.done .next)
  |some v=>letOwnedTupleGo tg (.ref it) v >>= λ_=>assign tg X.env v >>= λ_=>body >>= λ_=>again (.compLoop ce k (.ref it) (.ref a) X.env)))
 (hd:(model X.prog X.w).den (.compLoop ce k (.ref it) (.ref a) X.env)=(compTurn ce k (.ref it) (.ref a) X.env).onRaise (λx=>do noteFrame x X.env;theTreesLotGoes x)/\X.A.under (.compLoop ce k (.ref it) (.ref a) X.env)=X.A) (hx:X.xe=FF) (U:X.calm=true) (T:Turn X.prog X.w X.K tg J fp it tn) (hg:PG X tg (gT fa X.K t)) (S:DB fa X A a W body g) (hW:∀i∈W,i∉slots t)
 (I:Inv X pins σ H s) (st:tn 0 s.heap) (hf:∀b∈fp,ef X pins H b) (hE:bc fa X.K μ H σ Z) (hM:RelM fa X.K μ H M)
 (hcl:Clear (slots t++W) Z) (hA:A μ H acc) (wk:dQ fa X.K μ H w J) (q:af (cQ (cU t g Z) w acc M) (WB fa X.K A a μ H Z Q)) :
 codeAny (model X.prog X.w) X.A (.compLoop ce k (.ref it) (.ref a) X.env) (λr Y=>r=.ok .next/\∃j H',Inv X pins j H' Y/\Q j H') s:=by
 have stat:∀{H':Hp},(∀b∈fp,H' b=none)->∀b∈fp,ef X pins H' b:=λhn b S=>{hn b S,(hf b S).2};have clt:=λi hi=>hcl i (Qm _ hi);have clW:∀d ρ1,b4 t d Z=some ρ1->Clear W ρ1:=λd ρ1 e i hi d' z=>by
  rw[(qY e).2 i (hW i hi)] at z;exact hcl i (PR _ hi) d' z
 let P:Nat->Nat->O8->Prop:=λm i Y=>∃j H' μ' M' B,Inv X pins j H' Y/\tn i Y.heap/\(∀b∈fp,H' b=none)/\eP a μ H μ' H'/\bc fa X.K μ' H' j Z/\RelM fa X.K μ' H' M'/\A μ' H' B/\
  af (fB (cU t g Z) w m i B M') (WB fa X.K A a μ H Z Q)
 have P0:∃m,P m 0 s:={_,σ,H,μ,M,acc,I,st,λb S=>(hf b S).1,.refl,hE,hM,hA,q};obtain⟨m0,P0⟩:=P0;have hturn:∀(n:Nat) (i:Nat) (s3:O8),P n i s3->wpAny (model X.prog X.w) X.A (pyNext (.ref it)) (λr y=>match r with
  |none=>(∃j H',Inv X pins j H' y/\Q j H')
  |some v=>wpAny (model X.prog X.w) X.A (letOwnedTupleGo tg (.ref it) v) (λ_ F=>wpAny (model X.prog X.w) X.A (assign tg X.env v) (λ_ L=>wpAny (model X.prog X.w) X.A body (λ_ O=>∃m,m<n/\P m (i+1) O) FF L) FF F) FF y) FF s3:=by
  rintro n i s3 ⟨σ3,H3,E,M3,R,I3,st3,fr3,x3,hE3,hM3,hA3,q3⟩;have one:∀(d:D) (rest:List D->Mem->Res (List D)) (next:List D->Mem->Prop),J.go i H3->(∀x H',J.yld i H3 x H'->Ext E H3 E H'/\RelM fa X.K E H' M3/\Rep fa X.K E H' d x)->af ((cU t g Z R d M3).bind rest) (WB fa X.K A a μ H Z Q)->
   (∀j H' μ' M' B Y,Inv X pins j H' Y->tn (i+1) Y.heap->(∀b∈fp,H' b=none)->eP a μ H μ' H'->bc fa X.K μ' H' j Z->RelM fa X.K μ' H' M'->A μ' H' B->af (rest B M') (WB fa X.K A a μ H Z Q)->∃m,m<n/\P m (i+1) Y)->
   wpAny (model X.prog X.w) X.A (pyNext (.ref it)) (λr y=>match r with
    |none=>(∃j H',Inv X pins j H' y/\Q j H')
    |some v=>wpAny (model X.prog X.w) X.A (letOwnedTupleGo tg (.ref it) v) (λ_ F=>wpAny (model X.prog X.w) X.A (assign tg X.env v) (λ_ L=>wpAny (model X.prog X.w) X.A body (λ_ O=>∃m,m<n/\P m (i+1) O) FF L) FF F) FF y) FF s3:=by
   intro d rest next go yl qd fin
   refine aQ (T.item X rfl rfl rfl U i pins s3 σ3 H3 FF I3 (stat fr3) st3 go) ?_;rintro r s4 ⟨u,hr4,h4⟩;subst hr4;refine aQ h4 ?_;rintro _ s5 ⟨x,H5,I5,r5,y5,st5,fr5⟩;obtain⟨x5,hM5,rd⟩:=yl x H5 y5;have I5':=I5.pinned (stat fr5) (T.obj _ _ st5);obtain⟨acc6,M6,e6,q6⟩:=aI qd;obtain⟨ρ1,M7,e7,e8⟩:=d0 e6;cases eb:b4 t d Z with
   |none=>rw[eb] at e7;cases e7
   | some ρ2=>
     rw[eb] at e7;cases e7;have hg':=hg _ s5 σ3 H5 x u (λj H'=>H'=H5/\bc fa X.K E H5 j ρ1) I5' r5 {E,Z,_,d,ρ1,hE3.ext x5,hM5,rd,eb,λσ1 h1=>⟨rfl,h1⟩};rw[hx] at hg';refine aQ hg' ?_;rintro _ s6 ⟨σ6,H6,I6,eH,hE6⟩;subst eH;have hb':=S _ s6 σ6 H6 (λj H'=>∃μ',eP a E H6 μ' H'/\bc fa X.K μ' H' j ρ1/\RelM fa X.K μ' H' M6/\A μ' H' acc6) E ρ1 _ R I6 hE6 hM5 (clW d ρ1 eb) (sA _ _ _ _ _ x5 hA3) (by
      rw[e8];exact λj H' μ' z1 z2 z3 z4=>⟨μ',z1,z2,z3,z4⟩)
     rw[hx] at hb';refine aQ hb' ?_;rintro _ s7 ⟨σ7,H7,I7,μ7,x7,hE7,hM7,hA7⟩;refine fin σ7 H7 μ7 M6 acc6 s7 I7.unpinned (T.keep _ _ _ st5 λb S o e=>(I7.pin (b,o) (PR _ (PR _ (ir S e)))).1) (λb S=>?_) ((x3.trans x5.toD).trans x7) (hE7.unbind eb clt) hM7 hA7 q6;obtain⟨o,e,dd⟩:=T.obj _ _ st5 b S;exact(I7.pin (b,o) (PR _ (PR _ (ir S e)))).2.1
  have stop:J.stop i H3->af (.ok R M3) (WB fa X.K A a μ H Z Q)->wpAny (model X.prog X.w) X.A (pyNext (.ref it)) (λr y=>match r with
   |none=>(∃j H',Inv X pins j H' y/\Q j H')
   |some v=>wpAny (model X.prog X.w) X.A (letOwnedTupleGo tg (.ref it) v) (λ_ F=>wpAny (model X.prog X.w) X.A (assign tg X.env v) (λ_ L=>wpAny (model X.prog X.w) X.A body (λ_ O=>∃m,m<n/\P m (i+1) O) FF L) FF F) FF y) FF s3:=λhs q=>by
   refine aQ (T.done X rfl rfl rfl U i pins s3 σ3 H3 FF I3 (stat fr3) st3 hs) ?_;rintro r s4 ⟨hr4,I4⟩;subst hr4;exact{σ3,H3,I4,q σ3 H3 E x3 hE3 hM3 hA3}
  cases n with
  |zero=>exact q3.elim
  | succ n=>
    unfold fB at q3;cases e2:w M3 with
    |none=>rw[e2] at q3;exact q3.elim
    | some ds=>
      rw[e2] at q3;dsimp only at q3;obtain⟨go,stp⟩:=wk E H3 M3 ds x3.toExtW hM3 e2;cases ed:ds[i]? with
      | none=>
        rw[ed] at q3;exact stop (stp i (List.getElem?_eq_none_iff.mp ed)) q3
      | some d=>
        rw[ed] at q3;obtain⟨g1,g2⟩:=go i d ed;refine one d (fB (cU t g Z) w n (i+1)) (λ_ _=>True) g1 g2 q3 ?_;intro j H' μ' M' B Y z1 z2 z3 z4 z5 z6 z7 z8;exact{n,`a,j,H',μ',M',B,z1,z2,z3,z4,z5,z6,z7,z8}
 refine Am heq hd (λn Y=>∃i,P n i Y) (λn s3 ⟨i,h3⟩=>?_) m0 {0,P0};refine aQ (hturn n i s3 h3) λr s1 h=>?_;cases r with
 |none=>exact⟨rfl,h⟩
 |some v=>exact aQ h λ_ s2 h=>aQ h λ_ s3 h=>aQ h (by rintro _ s4 ⟨m,hm,h⟩;exact{m,hm,i+1,h})
end
section
variable{prog:PU}{w:PM}{A:QE}{s:O8}{R:Result->O8->Prop}
def rB {j t1 E t2 y:Expr}
 (F:codeAny (model prog w) A (.compLoop (.ListComp j [{t1,E,f1,0},{t2,y,f2,0}] scope pos) 1 it acc env) R s)
 (h:wpAny (model prog w) A (pyIter it) (λu v=>codeAny (model prog w) A (.compLoop (.ListComp j [{t1,E,f1,0},{t2,y,f2,0}] scope pos) 1 u acc env) R v)
  (notedBy (model prog w) A env λx v=>R (.error x) v) s) :
 codeAny (model prog w) A (.compStart (.ListComp j [{t1,E,f1,0},{t2,y,f2,0}] scope pos) 1 it acc env) R s:=by
 refine codeAny_of_tree ?_;refine wpAny_notedAt ?_;refine tqa (wpAny_askSetting (wpAny_ite ?_));split
 ·first
   |exact tqa (tqb (tqb (And.intro rfl F)))
   |exact tqb (And.intro rfl F)
 ·first
   |exact tqa (wpAny_rule (tqa (wpAny_standAt (tqa (wpAny_mono h (λu v B=>tqb (And.intro rfl B)) λ_ _ x=>x)))))
   |(refine tqa (wpAny_rule ?_);show wpAny _ _ (standAt y.pos >>= _) _ _ s;exact tqa (wpAny_standAt (tqa (wpAny_mono h (λu v B=>tqb (And.intro rfl B)) λ_ _ x=>x))))
end
section
variable{fa:Fa}{X:Cx}{a:Addr}
def Kx {y t1 W t2 B:Expr}(hx:X.xe=FF)(F:X.calm=true)(hi:DI fa X t2 B gw)(hg:PG X t2 (gT fa X.K t))(he:DE fa X y ge)
 (hs:∀x,foldedSetIterable B X.env x=pure x) :
 DB fa X (LA fa X.K a) a (slots t) (eval B X.env >>= λx=>standAt B.pos >>= λ_=>foldedSetIterable B X.env x >>= λx=>holding [x] (pyIter x) >>= λj=>runOwn (.compStart (.ListComp y [{t1,W,[],0},{t2,B,[],0}] scope pos) 1 j (.ref a) X.env) X.env >>= λ_=>pure ()) (tR t gw (cg ge)):=by
 intro E s σ H Q μ Z M acc I hE hM hc hA h;obtain⟨w,M1,e,q⟩:=aI h;refine tqa (aQ (hi E s σ H (λJ U=>∃u,Ext μ H u U/\RelM fa X.K u U M1/\dQ fa X.K u U w J) I {μ,Z,M,hE,hM,?_}) λv s1 h1=>?_)
 ·rw[e];exact λJ U u x1 m1 Y=>⟨u,x1,m1,Y⟩
 refine tqa (wpAny_standAt (tqa (wpAny_of_eq (hs v) (tqa (tqo (aQ h1 λitv s2 h2=>?_))))));obtain⟨it,fp,tn,J,H2,ei,I2,T,P,f2,μ2,x2,m2,Y⟩:=h2;subst ei;have go:=pY LA.stab (A5 y t1 W t2 B scope pos (.ref it) (.ref a) X.env) ⟨rfl,rfl⟩ hx F T hg (t6 he) (λi hi=>nomatch hi) I2 P f2 (hE.ext x2) m2 (by simpa using hc) (LA.stab _ _ _ _ _ x2 hA) Y (aD q λ_ _ z=>z.ext x2.toD)
 refine tqa (wpAny_runOwn ?_);have L:codeAny (model X.prog X.w) (X.A.mark none) (.compLoop (.ListComp y [{t1,W,[],0},{t2,B,[],0}] scope pos) 1 (.ref it) (.ref a) X.env) (λr O=>match r with|.ok f=>wpAny (model X.prog X.w) X.A (pure ():Sem Unit) (λ_ O=>∃S H',Inv X E S H' O/\Q S H') X.xe O|.error e=>cameBackBy (model X.prog X.w) X.A X.env X.xe e O) s2:=
  codeAny_mono go λr O ⟨er,z⟩=>by subst er;exact tqb z
 exact rB L (T.self _ 0 _ _ _ P L)
end
section
variable{fa:Fa}{K:O0}{μ1 μ':Mu}{H1 H':Hp}{M1 M':Mem}{a:Addr}
noncomputable def JC (μ:Mu)(a:Addr):Mu:={μ.pub,a::μ.priv,μ.ob}
def lJ (h:RelM fa K μ1 H1 M1)(j:H1 a=none)(o:HO):ExtW μ1 H1 (JC μ1 a) (upd H1 a o):=by
 have x:ExtW μ1 H1 μ1 (upd H1 a o):=(Ext.alloc h j).toExtW;refine{x.mu,x.tups,λb u e n=>{(x.lsts b u e n).1,λz=>?_},x.frzs,x.exts,x.obs};rcases z with z|z
 ·exact n (.inl z)
 ·rcases Pr.mp z with z|z
  ·subst z;rw[j] at e;cases e
  ·exact n (.inr z)
def yT (h:RelM fa K μ1 H1 M1)(j:H1 a=none)(vs:List V):RelM fa K (JC μ1 a) (upd H1 a (.lst vs)) M1:=by
 have x:=lJ h j (.lst vs);refine{λk v e=>(h.at' k v e).imp ((by rintro⟨b,u,h1,h2,h3⟩;exact{b,u,h1,by rw[ao (aS h2 j)];exact h2,h3.extW x})) (by rintro⟨b,h1,h2,h3⟩;exact{b,h1,h2,h3.extW x (ao (h3.new j))}),h.out,h.oout,h.inj,h.oinj,h.sep,λb y=>?_}
 ·rcases Pr.mp y with z|z
  ·subst z;exact{⟨vs,bJ⟩,λk e=>by
    obtain⟨_,_,_,q,_⟩:=h.mu_lt e;rw[j] at q;cases q}
  ·obtain⟨⟨u,q⟩,n⟩:=h.pv b z;exact{{u,by rw[ao (aS q j)];exact q},n}
set_option tactic.hygienic true in
def FN (h:RelM fa K μ1 H1 M1)(ha:H1 a=none)(x:eP a (JC μ1 a) (upd H1 a (.lst [])) μ' H')(v:RelM fa K μ' H' M')(hH:H' a=some (.lst vs))(hr:aG fa K μ' H' acc vs)
 (q:af (bt m acc M') (a7 fa K μ1 H1 Q)):Q (.ref a) H':=by
 have R:=λz=>h.pne ha z rfl;have E:=x.pr;have S:∀k,μ'.pub k≠some a:=(v.pv a (by rw[E];exact Pn)).2
 have F:=lJ h ha (.lst []);have xe:Ext μ1 H1 ⟨μ'.pub,μ1.priv,μ'.ob⟩ H':=by
  refine{{λk b e=>x.mu k b e,λb y e=>x.tups b y (F.tups b y e),λb y e n=>?_,λb ob u e=>x.frzs b ob u (F.frzs b ob u e),λb o i e=>x.exts b o i (F.exts b o i e),λk b e=>x.obs k b (F.obs k b e)},rfl,λb B=>?_}
  ·obtain⟨H,I⟩:=F.lsts b y e n;obtain⟨Y,z4⟩:=x.lsts b y H I;refine{Y,λz=>z4 ?_};rcases z with z|z
   ·exact .inl z
   ·exact .inr (by rw[E];exact Pa _ z)
  ·have nb:b≠a:=λe=>R (by rw[<- e];exact B)
   rw[x.pk b (Pa _ B) nb,ao nb]
 have W:ExtW μ' H' ⟨μ'.pub,μ1.priv,μ'.ob⟩ H':={λ_ _ e=>e,λ_ _ e=>e,λb y e n=>{e,λz=>n (z.elim .inl λz=>.inr (by rw[E];exact Pa _ z))},λ_ _ _ e=>e,λ_ _ _ e=>e,λ_ _ e=>e}
 have me:RelM fa K ⟨μ'.pub,μ1.priv,μ'.ob⟩ H' M':={λk L e=>(v.at' k L e).imp ((by rintro⟨b,y,h1,h2,h3⟩;exact{b,y,h1,h2,h3.extW W})) (by rintro⟨b,h1,h2,h3⟩;exact{b,h1,h2,h3.extW W rfl}),v.out,v.oout,v.inj,v.oinj,v.sep,λb B=>v.pv b (by rw[E];exact Pa _ B)}
 have re:=hr.extW W;have P:¬ (⟨μ'.pub,μ1.priv,μ'.ob⟩:Mu).Mt a:=λz=>z.elim ((by rintro⟨k,e⟩;exact S k e)) R
 unfold bt at q;split at q
 ·cases m with
  | false=>
    exact q (.ref a) H' _ xe me {a,vs,rfl,⟨hH,P⟩,re}
  | true=>
    have pc:∀k b,(eW ⟨μ'.pub,μ1.priv,μ'.ob⟩ M'.length a).pub k=some b->(k=M'.length/\b=a)\/(k≠M'.length/\μ'.pub k=some b):=λk b e=>by
     have e:(if k=M'.length then some a else μ'.pub k)=some b:=e;split at e
     ·next z=>cases e;exact .inl ⟨z,rfl⟩
     ·next z=>exact .inr ⟨z,e⟩
    have mc:∀k b,μ'.pub k=some b->(eW ⟨μ'.pub,μ1.priv,μ'.ob⟩ M'.length a).pub k=some b:=λk b e=>by
     show(if k=M'.length then some a else μ'.pub k)=some b;split
     ·next z=>rw[z,v.out _ (O4 _)] at e;cases e
     ·exact e
    have ac:(eW ⟨μ'.pub,μ1.priv,μ'.ob⟩ M'.length a).pub M'.length=some a:=by
     show(if M'.length=M'.length then some a else _)=some a;rw[if_pos rfl]
    have nc:∀b,¬ μ'.Mt b->¬ (eW ⟨μ'.pub,μ1.priv,μ'.ob⟩ M'.length a).Mt b:=λb n z=>by
     rcases z with⟨k,z⟩|z
     ·rcases pc k b z with⟨_,e⟩|⟨_,e⟩
      ·exact n (.inr (by rw[E,e];exact Pn))
      ·exact n (.inl ⟨k,e⟩)
     ·exact n (.inr (by rw[E];exact Pa _ z))
    have xc:ExtW μ' H' (eW ⟨μ'.pub,μ1.priv,μ'.ob⟩ M'.length a) H':={mc,λ_ _ e=>e,λb y e n=>{e,nc b n},λ_ _ _ e=>e,λ_ _ _ e=>e,λ_ _ e=>e};have U:Ext μ1 H1 (eW ⟨μ'.pub,μ1.priv,μ'.ob⟩ M'.length a) H':=by
     refine{{λk b e=>mc k b (x.mu k b e),xe.tups,λb y e n=>?_,xe.frzs,xe.exts,xe.obs},rfl,xe.pk};obtain⟨H,I⟩:=F.lsts b y e n;obtain⟨Y,z4⟩:=x.lsts b y H I;exact{Y,nc b z4}
    have O:RelM fa K (eW ⟨μ'.pub,μ1.priv,μ'.ob⟩ M'.length a) H' (M'++[acc]):=by
     refine{λk L e=>?_,λk hk=>?_,λk hk=>v.oout k (by simp at hk;omega),λj k b e1 e2=>?_,v.oinj,λk b z=>?_,λb B=>?_}
     ·by_cases hk:k<M'.length
      ·rw[O9 hk] at e;rcases v.at' k L e with⟨b,y,h1,h2,h3⟩|⟨b,h1,h2,h3⟩
       ·exact .inl {b,y,mc k b h1,h2,h3.extW xc}
       ·exact .inr {b,h1,by show(if k=M'.length then some a else μ'.pub k)=none;rw[if_neg (PH hk)];exact h2,h3.extW xc rfl}
      ·have M:k=M'.length:=by
        have:=(O1.mp e).1;simp at this;omega
       subst M;rw[Py (O4 _)] at e;simp at e;subst e;exact .inl {a,vs,ac,hH,hr.extW xc}
     ·simp at hk;show(if k=M'.length then some a else μ'.pub k)=none;rw[if_neg `a]
      exact v.out k `a
     ·rcases pc j b e1 with⟨j1,J⟩|⟨j1,J⟩<;>rcases pc k b e2 with⟨k1,k2⟩|⟨k1,k2⟩
      ·omega
      ·exact absurd (J ▸ k2) (S k)
      ·exact absurd (k2 ▸ J) (S j)
      ·exact v.inj j k b J k2
     ·show μ'.ob (a9 k)=none;rcases pc k b z with⟨e,_⟩|⟨_,e⟩
      ·rw[e];exact v.oout _ (O4 _)
      ·exact v.sep k b e
     ·have B:=B;obtain⟨H,I⟩:=v.pv b (by rw[E];exact Pa _ B)
      refine{H,λk e=>?_};rcases pc k b e with⟨_,e⟩|⟨_,e⟩
      ·exact R (e ▸ B)
      ·exact I k e
    exact q (.ref a) H' _ U O ⟨a,rfl,ac⟩
 ·exact q.elim
end
section
variable{fa:Fa}{X:Cx}
def cn (m:Bool)(n:Nat)(t:fw)(j:Env->Mem->Res Walk)(g:Env->List D->Mem->Res (List D)):Env->Mem->Res D:=λh M=>
 (j h M).bind λw M=>(cQ (cU t g (List.replicate n none++h)) w [] M).bind (bt m)
def oU (X:Cx)(u E h:Expr)(y:List Expr)(rest:List Rb)(j:Scope)(pos:Pos)(body:Addr->QC->Sem Unit):Prop:=
 ∀(B a:Addr) (env:QC),compTurn (.ListComp u ({E,h,y,0}::rest) j pos) 0 (.ref B) (.ref a) env=(standAt h.pos >>= λ_=>pyNext (.ref B) >>= λr=>match r with
  |none=>pure (.done .next)
  |some v=>letOwnedTupleGo E (.ref B) v >>= λ_=>assign E env v >>= λ_=>body a env >>= λ_=>again (.compLoop (.ListComp u ({E,h,y,0}::rest) j pos) 0 (.ref B) (.ref a) env))
structure Block (fa:Fa) (X:Cx) (A:Addr->PA) (own bn:List Str) (scope:Scope) (tg:Expr) (t:fw) (W:List Nat) (body:Addr->QC->Sem Unit) (g:Env->List D->Mem->Res (List D)):Prop where
 pg:∀cl C fp s H,PG (fv X own bn scope cl C fp s H) tg (gT fa X.K t)
 db:∀cl C fp s H a,DB fa (fv X own bn scope cl C fp s H) (A a) a W (body a (compEnvC scope cl C X.env)) g
def qU (h:∀i∈W,i<n):Clear W (List.replicate n none++Z):=λi j d e=>by
 rw[O9 (by simpa using h i j),Ra] at e
 simp[h i j] at e
def sD {K:O0}(n:Nat)(h:bc fa K μ H σ Z):bc fa K μ H (List.replicate n none++σ) (List.replicate n none++Z):=by
 refine{by simp[h.len],λi d e=>?_}
 by_cases j:i<n
 ·rw[O9 (by simpa using j),Ra] at e
  simp[j] at e
 ·rw[Py `o] at e ⊢
  simp only[QK] at e ⊢;exact h.at' _ d e
def oH {rest:List Rb}
 (S:eQ X own bn scope) (R:X.calm=true) (hi:DI fa X tg iter gw) (B:Block fa X (LA fa X.K) own bn scope tg t W body g) (hT:oU X elt tg iter ifs rest scope pos body) (hW:∀i∈W,i∉slots t) (hn:∀i∈slots t++W,i<own.length)
 (hs:∀x,foldedSetIterable iter X.env x=pure x)
 (I:Inv X pins σ H s) (hE:bc fa X.K μ H σ Z) (hM:RelM fa X.K μ H M) (h:af (cn m own.length t gw g Z M) (a7 fa X.K μ H Q))
 (post:∀(a C:Addr) (s':O8) (H':Hp),Inv X pins σ H' s'->Q (.ref a) H'->(∃m,s'.heap.Ns C m)->(∀σ2 E s2,Inv X pins σ2 E s2->(H' C=none->E C=none)->E C=none/\∀P,QX C s2.heap P->Inv X pins σ2 E {s2 with heap:=P})->H' C=none->(C≠X.env.locals/\∀x c,X.env.cells.lookup x=some c->c≠C)->compPost (model X.prog X.w) X.A X.xe use QQ (.ref a) C (.ok .next) s') :
 wpAny (model X.prog X.w) X.A (comprehension (.ListComp elt ({tg,iter,ifs,0}::rest) scope pos) scope X.env p0 (newList []) false (eval iter X.env) use) QQ X.xe s:=by
 obtain⟨w,M1,ew,q⟩:=aI h;obtain⟨acc,M2,ea,q2⟩:=aI q;obtain⟨cl,hcl,O,L⟩:=oJ λy hy hf=>I.ok.has y.1 (S.free y hy hf);refine wpAny_comprehension_free rfl hs hcl S.kind S.loc ?_;refine aQ (hi pins s σ H (λJ H1=>∃μ1,Ext μ H μ1 H1/\RelM fa X.K μ1 H1 M1/\dQ fa X.K μ1 H1 w J) I {μ,Z,M,hE,hM,?_}) λv s1 h1=>aQ h1 λitv s2 h2=>?_
 ·rw[ew];exact λJ H1 μ1 x1 m1 wk=>⟨μ1,x1,m1,wk⟩
 obtain⟨it,fp,tn,J,E,ei,I2,T,st2,f2,μ2,x2,m2,wk⟩:=h2;subst ei;refine wpAny_newObj_type ?_;have ha:=I2.hok.fresh (O4 _);have I3:Inv X pins σ (upd E s2.heap.objs.size (.lst [])) {s2 with heap:=s2.heap.push {cls:=.type "list",dict:=none,data:=.seq ([]:List O3).toArray}}:=
  I2.laid (λb o e=>O5 _ e) (O4 _) {Q1 _,[],_,.nil,PD _ rfl}
 generalize hs3:({s2 with heap:=s2.heap.push {cls:=.type "list",dict:=none,data:=.seq ([]:List O3).toArray}}:O8)=s3 at I3 ⊢
 have k3:∀b o,s2.heap.get? b=some o->s3.heap.get? b=some o:=λb o e=>by rw[<- hs3];exact O5 _ e
 have fo2:=T.obj _ _ st2;have f3:∀b∈fp,ef X pins (upd E s2.heap.objs.size (.lst [])) b:=λb u=>by
  obtain⟨o,e,_⟩:=fo2 b u;exact{by rw[ao (PH (Po e))];exact(f2 b u).1,(f2 b u).2}
 have fo3:∀b∈fp,∃o,s3.heap.get? b=some o:=λb u=>let{o,e,_}:=fo2 b u;{o,k3 b o e}
 obtain⟨CL,U⟩:=Et S O L (s3.heap.push {cls:=.type "dict",data:=.dict #[]}) (Heap.size_push ..);generalize F:cellsFrom (s3.heap.objs.size+1) scope.names cl=cl' at CL U;refine qQ ?_;rw[F];have j:(pushCells (s3.heap.push {cls:=.type "dict",data:=.dict #[]}) scope.names).Ns s3.heap.objs.size (λ_=>none):=(Heap.Ns.new s3.heap (.type "dict")).keeps (pushCells_keeps _ _);have k4:∀b o,s3.heap.get? b=some o->(pushCells (s3.heap.push {cls:=.type "dict",data:=.dict #[]}) scope.names).get? b=some o:=λb o e=>pushCells_keeps _ _ b o (O5 _ e);generalize pushCells (s3.heap.push {cls:=.type "dict",data:=.dict #[]}) scope.names=h₁ at j k4 U ⊢;clear hcl F O L cl
 rename List (Str×Addr)=>cl
 have I4:=ua (t':=s3.toks) I3 S CL f3 fo3 j k4 U;have Y:=I4.ok;have f4:∀b∈fp,ef (fv X own bn scope cl s3.heap.objs.size fp s3 (upd E s2.heap.objs.size (.lst []))) [] (upd E s2.heap.objs.size (.lst [])) b:=λb u=>
  {(f3 b u).1,(Y.exf b u).1,Y.exfs b u,.inl u,(Y.exf b u).2,λp hp=>nomatch hp}
 have st4:=T.keep _ _ _ st2 λb u o e=>k4 b o (k3 b o e);have x3:=lJ m2 ha (.lst []);have go:=pY LA.stab (X:=fv X own bn scope cl s3.heap.objs.size fp s3 (upd E s2.heap.objs.size (.lst []))) (acc:=[]) (hT it s2.heap.objs.size _) ⟨rfl,rfl⟩ rfl R T (B.pg _ _ _ _ _) (B.db _ _ _ _ _ _) hW I4 st4 f4
  (sD own.length ((hE.ext x2).extW x3)) (yT m2 ha []) (qU hn) {Pn,_,bJ,rfl} (qk wk x3) (by
   rw[ea];rintro σ' H' μ' z1 z2 z3 ⟨_,vs',z4,z5⟩;exact FN m2 ha z1 z3 z4 z5 (jL q2 x2))
 have go':codeAny (model X.prog X.w) X.A (.compLoop (.ListComp elt ({tg,iter,ifs,0}::rest) scope pos) 0 (.ref it) (.ref s2.heap.objs.size) (compEnvC scope cl s3.heap.objs.size X.env)) (compPost (model X.prog X.w) X.A X.xe use QQ (.ref s2.heap.objs.size) s3.heap.objs.size) {s3 with heap:=h₁}:=
  codeAny_mono go λr s' ⟨er,σ',H',I',z⟩=>by
   subst er;refine post _ _ s' H' (comp_back I3 f3 I') z (let{m,hn,_}:=I'.loc;⟨m,hn⟩) (λσ2 E s2' I2' hf=>{hf I'.free,λP hs''=>qS I3 (hf I'.free) I2' hs''}) I'.free {Qg I3.lt,λx c e z=>by
    obtain⟨v,q⟩:=I3.cell x c e;exact absurd q.lt (by rw[z];exact Ql _)}
 exact codeAny_compStart_list go' (T.self _ 0 _ _ _ st4 go')
def KG (m:Bool){v E j:Expr}{rest:List Rb}
 (S:eQ X own bn scope) (u:X.calm=true) (hi:DI fa X E j gw) (B:Block fa X (LA fa X.K) own bn scope E t W body g) (U:oU X v E j ifs rest scope pos body) (Y:∀i∈W,i∉slots t) (hn:∀i∈slots t++W,i<own.length)
 (hs:∀x,foldedSetIterable j X.env x=pure x):DE fa X (.ListComp v ({E,j,ifs,0}::rest) scope pos) (cn m own.length t gw g):=by
 rintro J s σ H Q I ⟨μ,Z,M,P,R,h⟩;rw[eval_ListComp];refine oH S u hi B U Y hn hs I P R h ?_;rintro a C s' H' L q ⟨m,hn⟩ y hf _;exact{m,hn,λO F=>{.ref a,H',(y σ H' s' L id).2 O F,rfl,q}}
def xx (m:Bool){y:Str}{rest:List Rb}
 (S:eQ X own bn scope) (j:X.calm=true) (hi:DI fa X tg iter gw) (B:Block fa X (LA fa X.K) own bn scope tg t W body g) (hT:oU X elt tg iter ifs rest scope pos body) (hW:∀i∈W,i∉slots t) (hn:∀i∈slots t++W,i<own.length)
 (hs:∀x,foldedSetIterable iter X.env x=pure x) (hN:X.N.Nodup) (hy:X.N[i]?=some y) (hl:X.env.scope.names.lookup y=some .local)
 (J:swapsWith (.ListComp elt ({tg,iter,ifs,0}::rest) scope pos) (some (.Name y py)) spos.line X.env=pure true) :
 DS fa X (.Assign [.Name y py] (.ListComp elt ({tg,iter,ifs,0}::rest) scope pos) spos) (λZ M=>(cn m own.length t gw g Z M).bind λx M=>(bV M (b4 (.one i) x Z)).bind λρ1 M=>.ok (.next ρ1) M):=by
 rintro O s σ H D' I ⟨μ,Z,M,L,Y,h⟩;obtain⟨x,M1,ex,q⟩:=aI h;rw[exec_Assign_Name_used _ _ _ _ J];refine tqa (wpAny_standAt (tqa ?_));refine tqa (aQ (oH S j hi B hT hW hn hs I L Y (by
  rw[ex];exact λv H' μ' P m1 r1=>q _ H' μ' P ((L.ext P).set r1) m1) ?_) λ_ s' hq=>tqb (tqb hq))
 rintro a C s' H' Q q ⟨m,hn⟩ u hf ⟨nL,nC⟩;refine wpAny_assign_Name (qt Q hN hy (.inl hl) (v:=.ref a) rfl (λs2 R ⟨b,hb,E⟩=>?_) (.inr hl));have nb:C≠b:=by
  rcases E with z|z
  ·rw[z];exact nL
  ·exact Qi (nC y b z)
 exact{m,hn.sameBut hb nb,λU F=>{_,H',(u _ H' s2 R id).2 U F,q}}
end
section
variable{X:Cx}{pins:List (Addr×Obj)}{σ:L2.St}{H:Hp}{s:O8}{h':Heap}{t':Nat}{ch:List Addr}
def E9 (I:Inv X pins σ H s)(hf:∀b∈ch,ef X pins H b)(k:∀b o,b∉ch->s.heap.get? b=some o->h'.get? b=some o):Inv X pins σ H {s with heap:=h',toks:=t'}:=by
 have j:∀b u,H b=some u->b∉ch:=λb u e z=>by rw[(hf b z).1] at e;cases e
 refine I.step (λb y=>{(hf b y).2.2.2.1,(hf b y).2.1,(hf b y).2.2.2.2.1,(hf b y).2.2.2.2.2}) (λb o _ _ h e _=>k b o h e) (λb o _ _ h e _=>{o.slots,k b o h e}) (λ_ _ _ _ n=>n)
  (λb o h e=>{o,k b o h e}) (λ_ _ e=>e) (λ_ _ _ e=>e) (λb ps e=>{#[],by rw[e];simp}) (λm hm=>?_) (λb u e=>?_) I.bare
 ·obtain⟨o,E,B,ho,r⟩:=hm;exact{o,E,B,k _ o (λz=>(hf _ z).2.1 rfl) ho,r}
 ·refine(I.hok b u e).stay (λc v h q=>k c v ?_ q) (λ_ q=>q) λ_ _ q=>q;rcases h with z|z
  ·rw[z];exact j b u e
  ·exact j c _ z
def yr (I:Inv X pins σ H s)(hf:∀b∈ch,ef X pins H b)(k:∀b o,b∉ch->s.heap.get? b=some o->h'.get? b=some o)(B:s.heap.objs.size<=T)(new:dF X.prog X.w (upd H T o) h' T o) :
 Inv X pins σ (upd H T o) {s with heap:=h',toks:=t'}:=by
 have hn:=I.hok.fresh B;have y:∀b u,H b=some u->b∉ch:=λb u e z=>by rw[(hf b z).1] at e;cases e
 refine I.step (λb h=>{(hf b h).2.2.2.1,(hf b h).2.1,(hf b h).2.2.2.2.1,(hf b h).2.2.2.2.2}) (λb o _ _ j e _=>k b o j e) (λb o _ _ j e _=>{o.slots,k b o j e})
  (λb o _ e n=>by rw[ao (PH (Pu (Po e) B))];exact n)
  (λb o j e=>{o,k b o j e}) (λb xs e=>by rw[ao (aS e hn)];exact e) (λb ob u e=>by rw[ao (aS e hn)];exact e) (λb ps e=>{#[],by rw[ao (aS e hn),e];simp}) (λm hm=>?_) (λb u e=>?_) I.bare
 ·obtain⟨o,F,E,ho,r⟩:=hm;exact{o,F,E,k _ o (λz=>(hf _ z).2.1 rfl) ho,r}
 ·by_cases h:b=T
  ·subst h;rw[bJ] at e;cases e;exact new
  ·rw[ao h] at e;refine(I.hok b u e).stay (λc v j q=>k c v ?_ q) (λc q=>by rw[ao (aS q hn)];exact q) λc xs q=>by rw[ao (aS q hn)];exact q
   rcases j with z|z
   ·rw[z];exact y b u e
   ·exact y c _ z
end
section
variable{fa:Fa}{X:Cx}{a:Expr}{ga:Env->Mem->Res D}{pos p:Pos}
noncomputable def jh:∀(ds:List D) (k i:Nat),(dX k ds)[i]?=(ds[i]?).map λd=>.tup [.int ((k+i:Nat):Int),d]
 |[],_,_=>by simp[dX]
 |d::ds,k,0=>by simp[dX]
 | d::ds,k,i+1=>by
   have:=jh ds (k+1) i;simp only[dX,Qa,this]
   congr 1
   funext d
   congr 3
   omega
noncomputable def iV:∀(ds:List D) (k:Nat),(dX k ds).length=ds.length
 |[],_=>rfl
 |d::ds,k=>by simp[dX,iV ds]
end
def d3:Bool->Heap->Addr->Array O3->Prop
 |true,h,a,j=>h.IsList a j
 |false,h,a,j=>h.IsTuple a j
def eO:Bool->Heap->Addr->Addr->Nat->Prop
 |true,h,j,a,i=>h.IsListIter j a i
 |false,h,j,a,i=>h.IsTupleIter j a i
def d3.extBut (x:d3 b h a its)(hs:Heap.ExtBut c h h')(n:a≠c):d3 b h' a its:=by
 cases b<;>(obtain⟨o,ho,r⟩:=x;exact{o,hs a o n ho,r})
def eO.extBut (x:eO b h it a i)(hs:Heap.ExtBut c h h')(n:it≠c):eO b h' it a i:=by
 cases b<;>(obtain⟨o,ho,r⟩:=x;exact{o,hs it o n ho,r})
def d3.at (x:d3 b h a its)(k:∀o,h.get? a=some o->h'.get? a=some o):d3 b h' a its:=by
 cases b<;>(obtain⟨o,ho,r⟩:=x;exact{o,k o ho,r})
def eO.at (x:eO b h it a i)(k:∀o,h.get? it=some o->h'.get? it=some o):eO b h' it a i:=by
 cases b<;>(obtain⟨o,ho,r⟩:=x;exact{o,k o ho,r})
def eO.obj (x:eO b h it a i):∃o,h.get? it=some o/\∀v,o.data≠.cell v:=by
 cases b<;>(obtain⟨o,ho,c,d⟩:=x;exact{o,ho,λv z=>by rw[d] at z;cases z})
section
variable{prog:PU}{w:PM}{A:QE}{E:O3->O8->Prop}{s:O8}
def kn {b:Bool}{y a:Addr}{i:Nat}{j:Array O3}{Q:O3->O8->Prop}(hh:A.handled=none)(h:eO b s.heap y a i)(hl:d3 b s.heap a j)
 (J:∀x u,j[i]?=some x->eO b u y a (i+1)->QX y s.heap u->Q x {s with heap:=u})
 (I:j[i]?=none->∀u e,Heap.ExtBut y s.heap u->(∃o,u.get? e=some o/\o.cls=.type "StopIteration")->E (.ref e) {s with heap:=u}):wpAny (model prog w) A (Builtin.SmallTypes.nextOf (.ref y)) Q E s:=by
 cases b with
 | true=>cases v : j[i]? with
   |some x=>exact wpAny_nextOf_list_item h hl v λu=>J x u v
   |none=>exact wpAny_nextOf_list_end hh h hl v (I v)
 | false=>
   obtain⟨o,ho,L,hd⟩:=id h;obtain⟨M,H,_,nl,B⟩:=hl;refine tqa (wpAny_callSpecial?_slot h.typeIs F.slot_tuple_iterator_next
    (wpAny_call_entry F.slot_tuple_iterator_next h.typeIs F.entry_tuple_iterator_next ?_ (F.args_tuple_iterator_next_1 _)))
   show wpAny _ _ (field (.ref y) 0 >>= _) _ _ s;refine tqa (tqf ho hd rfl ?_);show wpAny _ _ (if (Value.ref a==Value.none)=true then _ else _) _ _ s;rw[if_neg (show ¬ ((Value.ref a==Value.none)=true) from PC)];refine tqa (tqf ho hd rfl ?_);refine tqa (wpAny_seqItems H B ?_);cases v:j[i]? with
   | some x=>
     simp only[QM,v];refine tqa (wpAny_setField ho hd `s (tqb {x,rfl,tqb (J x _ v ?_ (QT ..))}))
     exact{_,QB _ ho (Rl (QD hd _)),(Obj.cls_mapFields ..).trans L,by
      rw[QD hd];simp[rawInt]}
   | none=>
     simp only[QM,v];refine tqa (wpAny_rule (tqa (wpAny_setField ho hd `s ?_)))
     refine tqa ?_;refine tqa (wpAny_newObj_type ?_ (by size_fits))
     refine tqa (wpAny_of_eq (by first|rfl|(simp only[firstArgMember];rfl)) ?_)
     refine wpAny_newObj_type ?_ (by size_fits)
     refine tqa (wpAny_handled ?_);first|rw[show A.in1.handled=none from hh]|rw[hh]
     refine tqa (tqb (wpAny_throw ?_));exact I v _ _ (((QT ..).extBut.push _).push _) {_,PD _ rfl,rfl}
end
def uB (K:O0)(H:Hp):Bool->Addr->List V->Prop
 |true,a,xs=>cz K H a xs
 |false,a,xs=>c8 K H a xs
noncomputable def og:D->Bool
 |.tup _=>false
 |_=>true
noncomputable def kA:D->Bool
 |.tup _=>true
 |.lst _=>true
 |.frz _=>true
 |.cell _=>true
 |_=>false
def pb {X:Cx}{u:List (Addr×Obj)}{v:L2.St}{H:Hp}{s:O8}{b:Bool}{a:Addr}{xs:List V}(I:Inv X u v H s)(h:uB X.K H b a xs):∃j:List O3,Vals xs j/\d3 b s.heap a j.toArray:=by
 cases b with
 |true=>obtain⟨j,r,p,_⟩:=I.list h;exact⟨j,r,p.isList⟩
 |false=>obtain⟨j,r,p,_⟩:=I.tuple h;exact⟨j,r,p⟩
def Bx {X:Cx}{j:List (Addr×Obj)}{v:L2.St}{H:Hp}{s:O8}{b:Bool}{a:Addr}{xs ys:List V}(I:Inv X j v H s)(h:uB X.K H b a xs)(u:uB X.K H b a ys):xs=ys:=by
 cases b with
 |true=>exact I.list_inj h u
 |false=>exact I.tuple_inj h u
def su {fa:Fa}{X:Cx}{μ:Mu}{H:Hp}{M:Mem}{d:D}{a:Addr}{ds:List D}(v:RelM fa X.K μ H M)(h:Rep fa X.K μ H d (.ref a))(e:cE M d=some ds):∃vs,uB X.K H (og d) a vs/\aG fa X.K μ H ds vs:=by
 cases d with
 |tup xs=>cases e;obtain⟨u,vs,e,s,r⟩:=h;cases e;exact⟨vs,s,r⟩
 |lst xs=>obtain⟨u,vs,j,s,r⟩:=bK v h (e);cases j;exact⟨vs,s,r⟩
 |frz xs=>obtain⟨u,vs,j,s,r⟩:=bK v h (e);cases j;exact⟨vs,s,r⟩
 |cell k=>obtain⟨u,vs,j,s,r⟩:=bK v h (e);cases j;exact⟨vs,s,r⟩
 |_=>cases e
def Bw {fa:Fa}{X:Cx}{y:List (Addr×Obj)}{L:L2.St}{μ:Mu}{H:Hp}{s:O8}{M:Mem}{d:D}{v:V}(I:Inv X y L H s)(F:RelM fa X.K μ H M)(h:Rep fa X.K μ H d v)(e:kA d=true):∃(a:Nat) (j:Array O3),v=.ref a/\d3 (og d) s.heap a j:=by
 have u:∀B,cE M d=some B->∃(a:Nat) (j:Array O3),v=.ref a/\d3 (og d) s.heap a j:=λB z=>by
  obtain⟨a,J,rfl,_,_⟩:=iP F h z;obtain⟨J,s1,_⟩:=su F h z;obtain⟨j,_,p⟩:=pb I s1;exact⟨a,j.toArray,rfl,p⟩
 cases d with
 |tup xs=>exact u xs rfl
 |lst xs=>exact u xs rfl
 |frz xs=>exact u xs rfl
 | cell k=>
   obtain⟨a,e,hk⟩:=id h;obtain⟨B,_,z,_⟩:=F.mu_lt hk;exact u B z
 |_=>cases e
def d3.lt {b:Bool}{h:Heap}{a:Addr}{j:Array O3}(x:d3 b h a j):a<h.objs.size:=by
 cases b<;>(obtain⟨o,ho,r⟩:=x;exact Po ho)
noncomputable def ma (b:Bool)(a:Addr):Obj:={cls:=.type (if b then "list_iterator" else "tuple_iterator"),data:=.fields #[.ref a,.int 0 0]}
def eO.new {b:Bool}{h:Heap}{j a:Addr}(e:h.get? j=some (ma b a)):eO b h j a 0:=by
 cases b<;>exact{_,e,rfl,rfl}
noncomputable def xw (h:Addr):Obj:={cls:=.type "enumerate",data:=.fields #[.none,.bool false,.ref h,rawInt 0,.none,.none]}
set_option tactic.hygienic true in
def zz (l:Addr)(us:Array O3)(n:Nat)(dct:Option Addr)(sl:Array (Option O3)) :
 Meets (Builtin.«enumerate.__new__» {[.type "enumerate",.ref l],[]}) (λ_ R s=>s.heap.get? l=some {.type "tuple",dct,.seq us n,sl}/\
  R (.ok (.ret (.ref (s.heap.push (ma false l)).objs.size))) {s with heap:=(s.heap.push (ma false l)).push (xw s.heap.objs.size)}):=
 .of_wp λprog w A R s h=>by
  obtain⟨v,g,d,tk,os⟩:=s;obtain⟨j,h⟩:=h;have q:=sub_enumerate;have u:Heap.IsTuple (Shared.heap ⟨v,g,d,tk,os⟩) l us:={_,j,rfl,n,rfl};wp_walk using AutoSeq1.wpAny_loadPart' j
  refine wpAny_stack_any λ_=>tqb ?_;split
  ·rename_i c _ _ _ _ _;cases (c==Value.type "enumerate")<;>
   ·wp_walk using AutoSeq1.wpAny_loadPart' j,wpAny_pyIter_tuple u
    exact{_,rfl,h}
  ·wp_walk using AutoSeq1.wpAny_loadPart' j,wpAny_pyIter_tuple u
   exact{_,rfl,h}
section
variable{prog:PU}{w:PM}{A:QE}{E:O3->O8->Prop}{s:O8}
def CK (u:d3 b s.heap l us)
 (h:∀j,IsEnum j (s.heap.objs.size+1) s.heap.objs.size 0 .none->eO b j s.heap.objs.size l 0->(∀c o,s.heap.get? c=some o->j.get? c=some o)->Q (.ref (s.heap.objs.size+1)) {s with heap:=j}):wpAny (model prog w) A (call (.type "enumerate") [.ref l]) Q E s:=by
 cases b with
 |true=>exact call_enumerate_list u λj e i _ k=>h j e i k
 | false=>
   obtain⟨⟨c,dct,H,sl⟩,B,y,n,hd⟩:=u;cases y;cases hd;refine callType_new F.called_enumerate `d (F.typeCall_enumerate_1 _) (F.newCall_enumerate_1 _) (λo=>F.args_object_init_2 o _) F.entry_enumerate_new (zz l us n dct sl) {B,?_}
   have v:(s.heap.push (ma false l)).objs.size=s.heap.objs.size+1:=Heap.size_push ..;rw[v];have he:IsEnum ((s.heap.push (ma false l)).push (xw s.heap.objs.size)) (s.heap.objs.size+1) s.heap.objs.size 0 .none:=by
    have:=PD (s.heap.push (ma false l)) (o:=xw s.heap.objs.size) rfl;rw[v] at this;exact this
   exact{{_,he,rfl},h _ he (eO.new (O5 _ (PD _ rfl))) λc o x=>O5 _ (O5 _ x)}
def Kp (hh:A.handled=none)(y:l≠it)(us:Array O3):Draws prog w A it [it,l] us.size (λi v=>us[i]?=some v) (λi h=>eO b h it l i/\d3 b h l us) where
 live:=λ_ _ st=>let{o,ho,_}:=st.1.obj;⟨o,ho⟩
 frame:=λ_ _ _ st hk=>{st.1.at λo e=>hk it `s o e,st.2.at λo e=>hk l `s o e}
 item:=λi s Q E J st I=>kn hh st.1 st.2 (λx F u B j=>I _ F s.toks u {B,st.2.extBut j.extBut y} j) λz=>by rw[Array.getElem?_eq_getElem J] at z;cases z
 done:=λs Q E st H=>kn hh st.1 st.2 (λx F u=>by rw[Array.getElem?_eq_none (O4 _)] at u;cases u) λ_=>H
def Ko (hh:A.handled=none)(v:us[i]?=none):Draws prog w A it [it,l] i (λ_ _=>True) (λk h=>k=i/\eO b h it l i/\d3 b h l us) where
 live:=λ_ _ st=>let{o,ho,_}:=st.2.1.obj;⟨o,ho⟩
 frame:=λ_ _ _ st hk=>{st.1,st.2.1.at λo e=>hk it `s o e,st.2.2.at λo e=>hk l `s o e}
 item:=λk s Q E u st B=>absurd st.1 (PH u)
 done:=λs Q E st j=>kn hh st.2.1 st.2.2 (λx y e=>by rw[v] at e;cases e) λ_=>j
def Mi {P:Nat->O3->Prop}{St:Nat->Heap->Prop}(D:Draws prog w A it fp n P St)(k:Nat):Draws prog w A it fp (k+n) (λj=>P (j-k)) (λj h=>k<=j/\St (j-k) h) where
 live:=λ_ _ st=>D.live _ _ st.2
 frame:=λ_ _ _ st hk=>{st.1,D.frame _ _ _ st.2 hk}
 item:=λj s Q E F st y=>D.item (j-k) s Q E (by have:=st.1;omega) st.2 λx u tk B hs=>y x u tk B {Nat.le_succ_of_le st.1,by rw[Nat.succ_sub st.1];exact hs}
 done:=λs Q E st v=>D.done s Q E (by have:=st.2;rwa [Qc] at this) v
end
noncomputable def NB (K:O0)(b:Bool)(a:Addr)(k:Nat):It:=
 {λi H=>∃xs x,uB K H b a xs/\xs[i]?=some x,λi H v h=>∃p x,H p=none/\v=.ref p/\h=upd H p (.tup [.int (k+i:Nat),x])/\∀xs,uB K H b a xs->xs[i]?=some x,λi H=>∃xs,uB K H b a xs/\xs.length<=i}
def yv {K:O0}(b:Bool)(a L e:Addr)(k:Nat)(M:e≠L)(hna:a≠L)(hea:e≠a) :
 Turn P w K (.Tuple elts kk pos) (NB K b a k) [e,L] e (λi h=>(∃old,IsEnum h e L (k+i:Nat) old)/\eO b h L a i) where
 mem:=`s
 obj:=λi h ⟨⟨old,he⟩,hi⟩ c B=>by
  rcases Pr.mp B with z|z
  ·subst z;exact{_,he,λv z=>by cases z}
  ·have e:c=L:=by simpa using z
   subst e;exact hi.obj
 keep:=(by rintro i h h' ⟨⟨old,he⟩,st⟩ q;exact{{old,q e `s _ he},st.at λo e=>q L `s o e})
 item:=by
  intro X hP hw hK hc i S s σ H E I hf st hg;subst hP hw hK;obtain⟨xs,x,Y,hx⟩:=hg;obtain⟨⟨old,he⟩,F⟩:=st;obtain⟨J,rv,p⟩:=pb I Y;obtain⟨u,hu,ru⟩:=rv.get hx;have hi:i<J.toArray.size:=by have:=(O1.mp hu).1;simpa using this
  have R:k+i-k=i:=Qc k i;refine wpAny_pyNext_enum_itemD (Mi (Kp (A:=X.A.in1) (I.ok.hd hc) hna J.toArray) k) he {Q7 k i,by rw[R];exact⟨F,p⟩} (Nat.add_lt_add_left hi k) M (by simp[M,hea]) λU h1 tk y ho j hT hsz hk=>{_,rfl,?_}
  rw[R] at y;replace j:=j.2;rw[show k+i+1-k=i+1 from Qc k (i+1)] at j;have eu:U=u:=by
   have y:J[i]?=some U:=by simpa using y
   rw[hu] at y;exact(Ph y).symm
  subst eu;have hT0:=I.hok.fresh (O4 _);have Q:=Po he;refine wpAny_letOwnedTupleGo_enum ho λh2 he2 O=>?_;have hT2:h2.get? s.heap.objs.size=some {cls:=.type "tuple",data:=.seq #[.int (k+i:Nat) tk,U]}:=(O.2 _ (Qg Q)).trans hT;refine{.ref s.heap.objs.size,upd H s.heap.objs.size (.tup [.int (k+i:Nat),x]),yr (s:=s) I hf (λc o B q=>(O.2 c (λz=>B (by simp[z]))).trans (hk c o (λz=>B (by simp[z])) (λz=>B (by simp[z])) q)) (O4 _) {?_,[.int (k+i:Nat) tk,U],.cons {_,rfl} (.cons ru .nil),{_,hT2,rfl,_,rfl}},rfl,
   {_,x,hT0,rfl,rfl,λys hy=>by rw[Bx I hy Y];exact hx},{⟨U,he2⟩,j.1.extBut O.extBut (Qi M)},λc B=>?_}
  ·show 2<=sizeLine;decide
  ·have:c<s.heap.objs.size:=by
    rcases Pr.mp B with z|z
    ·subst z;exact Q
    ·have e:c=L:=by simpa using z
     subst e;obtain⟨o,e,_⟩:=F.obj;exact Po e
   rw[ao (PH this)];exact(hf c B).1
 done:=by
  intro X hP hw hK hc i S s σ H E I hf st hg;subst hP hw hK;obtain⟨xs,Y,hx⟩:=hg;obtain⟨⟨old,he⟩,F⟩:=st;obtain⟨J,rv,p⟩:=pb I Y;have hl:=rv.length;exact wpAny_pyNext_enum_endD (Ko (A:=X.A.in1) (I.ok.hd hc) `o) he ⟨rfl,F,p⟩ λh' eb=>{rfl,E9 I hf λc o B q=>eb c o (λz=>B (by simp[z])) q}
 self:=(by rintro _ _ _ _ _ ⟨⟨old,he⟩,_⟩ h;exact wpAny_pyIter_enum he h)
section
variable{fa:Fa}{X:Cx}{a:Expr}{ga:Env->Mem->Res D}{pos p:Pos}
def xZ {ad:Addr}{k:Nat}(h:Rep fa X.K μ0 H0 dd (.ref ad)):dQ fa X.K μ0 H0 (λM=>(cE M dd).map (dX k)) (NB X.K (og dd) ad k):=λY H M W x j e=>by
 dsimp only at e;cases u:cE M dd with
 |none=>rw[u] at e;cases e
 | some I=>
   rw[u] at e;have e:=Ph e;subst e;obtain⟨F,s,r⟩:=su j (Rep.extW x h) u;refine{λi d hd=>?_,λi P=>{F,s,by rw[r.length,<- iV I k];exact P}}
   rw[jh] at hd;cases e1:I[i]? with
   |none=>rw[e1] at hd;cases hd
   | some U=>
     rw[e1] at hd;have hd:=Ph hd;subst hd;obtain⟨v,J,R⟩:=r.get e1;refine{⟨F,v,s,J⟩,λy S ⟨q,z,B,O,L,Q⟩=>?_};have:=Q F s;rw[J] at this;cases this;subst L O;refine{Ext.alloc j B,j.alloc B,q,[.int (k+i:Nat),v],rfl,.inl (.inl bJ),.int (k+i:Nat),[v],rfl,rfl,v,[],rfl,R.ext (Ext.alloc j B),rfl}
def iw (ga:Env->Mem->Res D):Env->Mem->Res Walk:=λh M=>(ga h M).bind λx M=>if kA x=true then .ok (λM=>(cE M x).map (dX 0)) M else .bad
def GZ {B:List Expr}(ha:DE fa X a ga)(hg:Gl X "enumerate")(hm:X.mg "enumerate"=none)(hs:starEach [a] X.env=[(false,eval a X.env)]):DI fa X (.Tuple B kk tp) (.Call (.Name "enumerate" p) [a] [] pos) (iw ga):=by
 rintro F s σ H R I ⟨Y,Z,M,hE,hM,h⟩;obtain⟨x,M1,e,q⟩:=aI h;cases Q:kA x with
 |false=>rw[Q] at q;exact q.elim
 |true=>
 rw[Q] at q;refine Call_ (iT I hg hm boot_enumerate (QR (aQ (bE ha cx hs pos F s σ H (λW u=>∃v j,W=[v]/\Ext Y H j u/\RelM fa X.K j u M1/\Rep fa X.K j u x v) I {Y,Z,M,hE,hM,?_}) λus s1 ⟨W,u,J,r1,v,j,ev,S,O,U⟩=>?_) hs rfl))
 ·rw[e];exact λv u j S O r1=>⟨v,j,rfl,S,O,r1⟩
 subst ev;obtain⟨ad,its,rfl,p1⟩:=Bw J O U Q;cases r1 with
 | cons r1 rr=>
   cases rr;obtain rfl:=r1;have y:=p1.lt;refine CK p1 λh1 he P hk=>?_;have I2:=J.kept (t':=s1.toks) hk;refine wpAny_pyIter_enum he ?_;refine{s1.heap.objs.size+1,[s1.heap.objs.size+1,s1.heap.objs.size],_,_,u,rfl,I2,yv (og x) ad s1.heap.objs.size (s1.heap.objs.size+1) 0 (Nat.succ_ne_self _) (PH y) (Qg (Nat.lt_succ_of_lt y)),{{.none,he},P},λb L=>?_,q _ u j S O (xZ U)};have L:s1.heap.objs.size<=b:=by
    rcases Pr.mp L with z|z
    ·subst z;exact Rx _
    ·have e:b=s1.heap.objs.size:=by simpa using z
     subst e;exact O4 _
   exact J.fpOk L (J.hok.fresh L)
end
abbrev GE:=Env->Mem->Res D
abbrev GT:=Env->Mem->Res Bool
abbrev GA:=Env->Mem->Res (List D)
abbrev GW:=Env->Mem->Res Walk
abbrev GS:=Env->Mem->Res Fl
abbrev GB:=Env->List D->Mem->Res (List D)
abbrev Call:=Nat->List D->Mem->Res D
def aa (i:Nat):GE:=λh M=>bV M (h[i]?.getD none)
noncomputable def gC (d:D):GE:=λ_ M=>.ok d M
def ah (m:Bool)(o:rj)(a b:GE):GE:=λh M=>(a h M).bind λx M=>(b h M).bind λy M=>fi m o x y M
def aH (o:jv)(a b:GE):GE:=λh M=>(a h M).bind λx M=>(b h M).bind λy M=>(bV M (bp o x y M)).bind λb M=>.ok (.bl b) M
def iU (o j:jv)(a b c:GE):GE:=λh M=>(a h M).bind λx M=>(b h M).bind λy M=>(bV M (bp o x y M)).bind λk M=>
 if k then(c h M).bind λz M=>(bV M (bp j y z M)).bind λb M=>.ok (.bl b) M else .ok (.bl false) M
def dw (a:GE):GE:=λh M=>(a h M).bind λx M=>match x with|.int i=>.ok (.int (-i)) M|_=>.bad
def d9 (a b:GE):GE:=λh M=>(a h M).bind λx M=>match x with|.bl true=>b h M|.bl false=>.ok (.bl false) M|_=>.bad
def Nz (a b:GE):GE:=λh M=>(a h M).bind λx M=>match x with|.bl true=>.ok (.bl true) M|.bl false=>b h M|_=>.bad
def J2 (a:GE):GE:=λh M=>(a h M).bind λx M=>match x with|.bl k=>.ok (.bl (!k)) M|_=>.bad
def gj (t:GT)(a b:GE):GE:=λh M=>(t h M).bind λk M=>if k then a h M else b h M
def aF (a b:GE):GE:=λh M=>(a h M).bind λx M=>(b h M).bind λy M=>bV M (da x y M)
def bZ (m hl hh:Bool)(a lo hi:GE):GE:=λj M=>(a j M).bind λx M=>(lo j M).bind λl M=>(hi j M).bind λh M=>if b7 hl l&&b7 hh h then dU m x l h M else .bad
noncomputable def ba:GA:=λ_ M=>.ok [] M
def aM (a:GE)(s:GA):GA:=λh M=>(a h M).bind λx M=>(s h M).bind λxs M=>.ok (x::xs) M
def aU (s:GA):GE:=λh M=>(s h M).bind ko
def aA (m:Bool)(s:GA):GE:=λh M=>(s h M).bind (bt m)
def ai (f:Nat)(c:Call)(s:GA):GE:=λj M=>(s j M).bind λh M=>c f h M
def lI (i:Nat)(c:Call)(s:GA):GE:=λh M=>match h[i]?.getD none with|some (.fn f)=>(s h M).bind λj M=>c f j M|_=>.bad
def aX (f:uI)(s:GA):GE:=λj M=>(s j M).bind λh M=>fM f h M
def cw (t:Ty)(a:GE):GE:=λh M=>(a h M).bind λx M=>(bV M (cj t x)).bind λb M=>.ok (.bl b) M
def aj (a:GE):GT:=λh M=>(a h M).bind λx M=>bV M (jx M x)
def dM (a b:GT):GT:=λh M=>(a h M).bind λk M=>if k then b h M else .ok false M
def cT (a b:GT):GT:=λh M=>(a h M).bind λk M=>if k then .ok true M else b h M
def bG (a:GT):GT:=λh M=>(a h M).bind λk M=>.ok (!k) M
def ax (t:fw)(a:GE):GS:=λj M=>(a j M).bind λx M=>(bV M (b4 t x j)).bind λh M=>.ok (.next h) M
def fK (a b d:GE):GS:=λh M=>(d h M).bind λz M=>(a h M).bind λx M=>(b h M).bind λy M=>match x,y with
 | .cell k,.int n=>match M[k]? with
   | some u=>match bO u.length n with
     |some j=>.ok (.next h) (M.set k (u.set j z))
     |none=>.bad
   |none=>.bad
 |_,_=>.bad
def km (a d:GE):GS:=λh M=>(a h M).bind λx M=>(d h M).bind λz M=>match x with
 | .cell k=>match M[k]? with
   |some j=>if j.length<sz then .ok (.next h) (M.set k (j++[z])) else .bad
   |none=>.bad
 |_=>.bad
def sEx (a:GE):GS:=λh M=>(a h M).bind λ_ M=>.ok (.next h) M
def aR (a:GE):GS:=λh M=>(a h M).bind λx M=>.ok (.ret x) M
noncomputable def Dv:GS:=λ_ M=>.ok (.ret .non) M
def Dw:GS:=λh M=>.ok (.next h) M
def c6:GS:=λ_ _=>.bad
def aV (c:GT)(a b:GS):GS:=λh M=>(c h M).bind λk M=>if k then a h M else b h M
def d8 (t:fw)(w:GW)(b:GS):GS:=λh M=>(w h M).bind λw M=>cQ (fy t b) w (.next h) M
def aJ:GS:=λh M=>.ok (.next h) M
noncomputable def bg (a b:GS):GS:=λh M=>(a h M).bind λfl M=>match fl with
 |.next h=>b h M
 |fl=>.ok fl M
noncomputable def notStar:Expr->Bool
 |.Starred _ _=>false
 |_=>true
def bo (h:notStar a=true):starEach (a::es) env=(false,eval a env)::starEach es env:=by
 cases a<;>first|rfl|cases h
noncomputable def c4:∀{es:List Expr},es.all notStar=true->(backTo pos (starEach es env)).any (·.1)=false
 |[],_=>rfl
 | a::es,h=>by
   simp only[Qx,O2] at h;have j:=c4 (pos:=pos) (env:=env) h.2;rw[bo h.1];simpa[backTo] using j
section
variable{fa:Fa}{X:Cx}{a b d:Expr}{ga gb gd:GE}{ta tb:GT}{pos p:Pos}{es:List Expr}{gs:GA}{n:Nat}
def Iv {i:Int}(h:Gl X x)(hm:X.mg x=some (.int i t))(hd:(x==("__debug__":Str))=false):DE fa X (.Name x pos) (gC (.int i)):=iJ (v:=.int i) (eU h hm ⟨t,rfl⟩ hd) λ_ _=>rfl
end
structure Df where
 params:Nat
 slots:Nat
 body:Call->GS
noncomputable def OA:Fl->Mem->Res D
 |.ret d,M=>.ok d M
 |.next _,M=>.ok .non M
 |.exc x _,M=>.err x M
def Oz:Res Fl->Res D
 |.ok fl M=>OA fl M
 |_=>.bad
def fL (c:Call)(d:Df)(ds:List D)(M:Mem):Res D:=if ds.length=d.params then Oz (d.body c (ds.map some++List.replicate (d.slots-ds.length) none) M) else .bad
noncomputable def ag (P:Nat->Option Df):Nat->Call
 |0,_,_,_=>.bad
 | n+1,f,h,M=>match P f with
   |none=>.bad
   |some d=>fL (ag P n) d h M
structure xP (K:O0) (x qual:Str) (st:Stmt) (f:Addr) (fd:FuncData):Prop where
 ex:∃(oc:O3) (od:Option Addr) (dV kV doc pm:O3) (an:Option Addr) (cdv ct:O3) (osl:Array (Option O3)),
  fd=PySem.W.fnOf x qual (cW st) (bT st) (aE st) dV kV doc pm an cdv ct/\K.lookup f=some {oc,od,.func fd,osl}/\PySem.W.codeIn K cdv qual=true
 kp:PySem.W.keepIn K (.ref f)=true
def mI.toD {K:O0}{st:Stmt}(F:mI K x qual st f fd):xP K x qual st f fd:=let⟨oc,od,kV,j,pm,v,h,ct,u,r⟩:=F.ex;{{oc,od,.none,kV,j,pm,v,h,ct,u,r},F.kp}
structure xQ (fa:Fa) (P:PU) (w:PM) (K:O0) (mg:Str->Option O3) (base:Heap) (f:Nat) (d:Df):Prop where
 ex:∃(ad:Addr) (fd:FuncData) (ps N:List Str) (st:Stmt) (x qual:Str),fa f=some ad/\xP K x qual st ad fd/\Binds K fd ps []/\((fa (500+f)).isSome=true->Binds K fd ps [.none])/\fW N ps (aE st)/\d.params=ps.length/\d.slots=N.length/\
  ∀(call:Call) (n:Nat) (cdv:O3) (A:QE) (outer:List QC) (s:O8) (H:Hp) (E:XK),(∀f,gA fa P w K mg base n f (call f))->b5 (2*n+5) (A.deeper (envOfC qual (aE st) s.heap.objs.size ad cdv))->
   j7 fa (dY (fx P w) P w K mg base N qual (aE st) ad cdv A outer s H E) (bT st) (d.body call)
def yG {K:O0}(h:aG fa K μ H ds vs):bc fa K μ H (L2.start N vs) (ds.map some++List.replicate (N.length-ds.length) none):=by
 have hl:=h.length;refine{by unfold L2.start;simp[hl],λi d e=>?_}
 by_cases j:i<ds.length
 ·rw[O9 (by simpa using j),PZ] at e
  cases e1:ds[i]? with
  |none=>rw[e1] at e;cases e
  | some B=>
    rw[e1] at e;cases e;obtain⟨v,u,y⟩:=h.get e1;refine{v,?_,y};unfold L2.start;rw[O9 `o,PZ,u]
    rfl
 ·rw[Py `o,Ra] at e
  split at e<;>cases e
def pQ {K:O0}{st:Stmt}(F:xP K x qual st f fd)(S:fW N ps (aE st))(len:∀vs H Q E,sp vs H Q E->vs.length=ps.length)
 (j:∀(h:O3) (A:QE) (outer:List QC) (s:O8) (H:Hp) (vs:List V) (Q:VK) (E:XK),b5 k (A.deeper (envOfC qual (aE st) s.heap.objs.size f h))->sp vs H Q E->
  ∃t,j5 (dY (fx P w) P w K mg base N qual (aE st) f h A outer s H E) (bT st) t/\t {nx:=λ_ y=>Q .non y,rt:=Q} (start N vs) H):jG P w K mg base (fx P w) (k+1) f fd ps sp:=by
 obtain⟨oc,od,dV,kV,B,pm,J,h,ct,I,rfl,lk,u⟩:=F.ex;exact L8 lk u S len λA outer s H vs Q E hr v=>j h A outer s H vs Q E hr v
set_option tactic.hygienic true in
def qX {K:O0}
 (hs:d.slots=N.length) (O:RelM fa K μ H M) (hr:aG fa K μ H ds vs) (h:dG (fL c d ds M) (a7 fa K μ H Q) (EC fa K μ H E)):tF fa (dY (fx P w) P w K mg base N qual scope f cd A outer s H E) (d.body c) {nx:=λ_ u=>Q .non u,rt:=Q} (start N vs) H:=by
 unfold fL at h;split at h
 ·refine{μ,_,M,yG hr,O,?_};rw[<- hs];cases e1:d.body c (ds.map some++List.replicate (d.slots-ds.length) none) M with
  | ok fl Y=>
    rw[e1] at h;cases fl with
    | next B=>
      have v:=h;exact λF u j U e' S=>v .non u j U S rfl
    |ret d=>exact h
    | exc x B=>
      have v:=h;exact λJ F u j s' a C L c p I y _ m ex R hn fl=>B6 I fl (v C L c p u j y m ex R hn)
  |err=>rw[e1] at h;exact h.elim
  |bad=>rw[e1] at h;exact h.elim
 ·exact h.elim
theorem ui {P:PU}{w:PM}{K:O0}(h:∀f d,Pg f=some d->xQ fa P w K mg base f d):∀(n f:Nat),gA fa P w K mg base n f (ag Pg n f)
 |0,f=>.inl λ_ _=>rfl
 | n+1,f=>by
   have Y:=ui h n;cases e:Pg f with
   |none=>exact .inl λj M=>by show(match Pg f with|none=>Res.bad|some d=>fL (ag Pg n) d j M)=Res.bad;rw[e]
   | some d=>
     have eq:∀j M,ag Pg (n+1) f j M=fL (ag Pg n) d j M:=λj M=>by show(match Pg f with|none=>Res.bad|some d=>fL (ag Pg n) d j M)=_;rw[e]
     obtain⟨ad,L,ps,N,st,x,J,h1,F,R,B,S,U,hs,u⟩:=(h f d e).ex;refine .inr {ad,L,ps,h1,F.kp,R,λj M hl=>?_,?_,B}
     ·rw[eq];unfold fL;rw[if_neg (by rw[U];exact hl)]
     ·refine pQ F S (λvs H Q E v=>v.1) λy A outer s H vs Q E hr v=>{_,u (ag Pg n) n y A outer s H E Y hr,?_};obtain⟨hl,μ,M,j,O,hr,I⟩:=v;rw[eq] at I;exact qX hs O hr I
def nB (P:QO)(e:QS)(h:Str×Addr):Prop:=∃t,e={PyData.keyHash P h.1,.str h.1 t,.ref h.2}
structure ff (K:O0) (P:QO) (a:Addr) (kvs:List (Str×Addr)):Prop where
 ex:∃(es:Array QS) (n:Nat),K.lookup a=some {cls:=.type "dict",data:=.dict es n}/\Q0 (nB P) es.toList kvs
 nd:(kvs.map (·.1)).Nodup
 ns:(a==sysModules)=false
def vB (kvs:List (Str×Addr)):List (Key×O3):=kvs.map λh=>(Sum.inr h.1,.ref h.2)
noncomputable def t4:∀{es:List QS}{kvs:List (Str×Addr)},Q0 (nB P) es kvs->∀e∈es,∃x t,e.key=.str x t/\e.hash=PyData.keyHash P x
 |_,_,.nil,e,h=>nomatch h
 | _,_,.cons r t,e,h=>by
   rcases Pr.mp h with z|z
   ·subst z;obtain⟨t,rfl⟩:=r;exact{_,t,rfl,rfl}
   ·exact t4 t e z
noncomputable def oG:∀{es:List QS}{kvs:List (Str×Addr)},Q0 (nB w.params) es kvs->Pairs (jS prog w) es (vB kvs)
 |_,_,.nil=>.nil
 | e::es,h::kvs,.cons r t=>by
   obtain⟨u,rfl⟩:=r;exact Pairs.cons (jb h.1 u) rfl (oG t)
def tG (I:Inv X pins σ H s)(h:ff X.K X.w.params a kvs):s.heap.DictOf (jS X.prog X.w) a (vB kvs):=by
 obtain⟨j,n,lk,pr⟩:=h.ex;refine{_,j,n,I.kIn _ _ lk,⟨rfl,rfl,rfl⟩,rfl,λe he=>?_,oG pr,?_}
 ·obtain⟨x,t,e1,e2⟩:=t4 pr e (by simpa using he)
  exact{Sum.inr x,by rw[e1];exact jb x t,e2}
 ·have e:(vB kvs).map (·.1)=(kvs.map (·.1)).map Sum.inr:=by unfold vB;simp
  rw[e];exact List.Pairwise.map _ (λa b (n:a≠b) z=>n (Sum.inr.inj z)) h.nd
def zF (kvs:List (Str×Addr))(k:Str):valueAt (vB kvs) (Sum.inr k:Key)=(kvs.lookup k).map Value.ref:=by
 induction kvs with
 |nil=>rfl
 | cons j r h=>
   unfold valueAt vB at h ⊢;rw[Qt,List.find?_cons,P5];by_cases e:j.1=k
   ·subst e;simp
   ·have e2:decide ((Sum.inr j.1:Key)=Sum.inr k)=false:=decide_eq_false λz=>e (Sum.inr.inj z);have u:=P7.mpr (Qi e);rw[e2,u];exact h
def dJ (fa:Fa)(kvs:List (Str×Addr))(fs:List (Str×Nat)):Prop:=Q0 (λ(p:Str×Addr) (q:Str×Nat)=>p.1=q.1/\fa q.2=some p.2) kvs fs
theorem dJ.look:∀{kvs:List (Str×Addr)}{fs:List (Str×Nat)},dJ fa kvs fs->(fs.lookup k=none/\kvs.lookup k=none)\/∃f ad,fs.lookup k=some f/\kvs.lookup k=some ad/\fa f=some ad
 |_,_,.nil=>.inl ⟨rfl,rfl⟩
 | (x,a)::r,(y,f)::t,.cons ⟨e1,e2⟩ q=>by
   subst e1;rw[P5,P5];cases e:k==x with
   |true=>exact .inr ⟨f,a,rfl,rfl,e2⟩
   |false=>exact dJ.look q
def kC (fs:List (Str×Nat))(i:GE):GE:=λh M=>(i h M).bind λd M=>match d with
 |.str k=>bV M ((fs.lookup k).map D.fn)
 |_=>.bad
def ix (fs:List (Str×Nat))(i:GE):GE:=λh M=>(i h M).bind λd M=>match d with
 |.str k=>.ok (.bl (!(fs.lookup k).isSome)) M
 |_=>.bad
section
variable{fa:Fa}{X:Cx}{a b:Expr}{ga gb:GE}{pos p:Pos}{ad:Addr}{kvs:List (Str×Addr)}{fs:List (Str×Nat)}{x:Str}
def Cg (hd:ff X.K X.w.params ad kvs):ju X (λx y H Q=>∃k v,x=.ref ad/\y=.str k/\kvs.lookup k=some v/\Q (.ref v) H):=by
 intro B j J s R H x y v u Q I O P h hs;obtain⟨k,c,rfl,rfl,hk,q⟩:=h;cases O;obtain⟨t,rfl⟩:=P;have E:=tG I hd;have L:s.TypeIs (.ref ad) "dict":=let{o,_,_,ho,{M,_},_}:=E;⟨o,ho,M⟩
 refine tail_any L PySem.F.slot_dict_getitem.lookup (wpAny_getItem_of (k:=(Sum.inr k:Key)) (jb k t) E.mapOf (v:=.ref c) ?_ ?_) hs
 ·rw[zF,hk];rfl
 ·exact{.ref c,H,I.tok _,rfl,q}
def sO (hd:ff X.K X.w.params ad kvs):bN X (compareOp .NotIn) (λx y H Q=>∃k,x=.str k/\y=.ref ad/\Q (.bl (!(kvs.lookup k).isSome)) H):=by
 intro j s J H x y v u Q I E F h;obtain⟨k,rfl,rfl,q⟩:=h;obtain⟨t,rfl⟩:=E;cases F;have B:=tG I hd;refine wpAny_notIn_of (k:=(Sum.inr k:Key)) (jb k t) hd.ns B.mapOf ?_;rw[zF,Rh];exact{.bl _,H,I.tok _,rfl,q}
def Iy (hd:ff X.K X.w.params ad kvs)(ho:dJ fa kvs fs)(O:Gl X x)(hm:X.mg x=some (.ref ad))(u:(x==("__debug__":Str))=false)(L:DE fa X b gb)(hs:iM b):DE fa X (.Subscript (.Name x p) b pos) (kC fs gb):=
 bx (wH (Cg hd) (eU (v:=.ref ad) O hm rfl u) L hs) λW H Q ⟨S,U,M,F,J,h⟩=>t1 F J h λd R v B y P I j r1 h1=>by
  cases d with
  | str k=>
    obtain⟨d,e,q⟩:=jM h1;rcases ho.look with⟨e1,_⟩|⟨f,c,e1,e2,E⟩
    ·rw[e1] at e;cases e
    ·rw[e1] at e;cases e;exact{k,c,rfl,r1,e2,q (.ref c) B y P j {c,rfl,.inl E}}
  |_=>exact h1.elim
def BP {d:D}{P:D->Mem->Prop}(h:af (match d with|.str k=>Res.ok (.bl (!(fs.lookup k).isSome)) M1|_=>.bad) P):∃k,d=.str k/\P (.bl (!(fs.lookup k).isSome)) M1:=by
 cases d with
 |str k=>exact⟨k,rfl,h⟩
 |_=>exact h.elim
def CD (ho:dJ fa kvs fs)(k:Str):(kvs.lookup k).isSome=(fs.lookup k).isSome:=by
 rcases ho.look with⟨e1,e2⟩|⟨f,c,e1,e2,_⟩<;>rw[e1,e2]<;>rfl
def zW (ho:dJ fa kvs fs)(B:L2.St)(H:Hp)(Q:VK)(h:tE fa X.K (ix fs ga) B H Q):yD (λx y H Q=>∃k,x=.str k/\y=.ref ad/\Q (.bl (!(kvs.lookup k).isSome)) H) (tE fa X.K ga) (tC (.ref ad)) B H Q:=by
 obtain⟨P,R,M,F,J,h⟩:=h;refine t1 F J h λd O v E u L I j r1 h1=>?_;obtain⟨k,rfl,q⟩:=BP h1;refine{k,r1,rfl,?_};rw[CD ho];exact q (.bl _) E u L j rfl
def Iw (hd:ff X.K X.w.params ad kvs)(ho:dJ fa kvs fs)(B:Gl X x)(hm:X.mg x=some (.ref ad))(j:(x==("__debug__":Str))=false)(y:DE fa X a ga)(u:behindInMarks .NotIn (.Name x p)=false):DE fa X (.Compare a [.NotIn] [.Name x p] pos) (ix fs ga):=
 bx (pA (sO hd) y (eU (v:=.ref ad) B hm rfl j) u) λE H Q h=>zW ho E H Q h
def IJ (hd:ff X.K X.w.params ad kvs)(ho:dJ fa kvs fs)(J:Gl X x)(hm:X.mg x=some (.ref ad))(j:(x==("__debug__":Str))=false)(I:DE fa X a ga)(u:behindInMarks .NotIn (.Name x p)=false):DT fa X (.Compare a [.NotIn] [.Name x p] pos) (aj (ix fs ga)):=
 jJ (pq (sO hd) I (eU (v:=.ref ad) J hm rfl j) u) λW H Q h=>by
  refine zW ho W H _ ?_;obtain⟨S,U,M,E,F,h⟩:=h;obtain⟨z,M3,e,q⟩:=aI h;refine{S,U,M,E,F,?_};rw[e];have L:∃k,z=.bl k:=by
   obtain⟨d,Y,e1,e2⟩:=d0 e;cases d<;>first|(cases e2;exact{_,rfl})|cases e2
  obtain⟨k,rfl⟩:=L;intro v B y R O P;obtain rfl:v=.bl k:=P;exact{k,rfl,q B y R O}
def lG (m:Bool)(a:GE):GE:=λh M=>(a h M).bind λx M=>match x with
 |.int n=>if -(2^62)<=n/\n<2^20 then bt m ((List.range n.toNat).map λ(k:Nat)=>D.int (k:Int)) M else .bad
 |_=>.bad
def xl:∀(n:Nat) (y:List O3),y.length=n->(∀(i:Nat) (v:O3),y[i]?=some v->∃t,v=.int (i:Int) t)->Vals ((List.range n).map λ(k:Nat)=>V.int (k:Int)) y:=by
 intro n y hl h;have B:∀(k:Nat) (y:List O3),(∀(i:Nat) (v:O3),y[i]?=some v->∃t,v=.int ((k+i:Nat):Int) t)->Vals ((List.range y.length).map λj=>V.int ((k+j:Nat):Int)) y:=by
  intro k y;induction y generalizing k with
  |nil=>intro _;exact .nil
  | cons v r E=>
    intro h;rw[Q9,List.range_succ_eq_map,Qt,QG];refine .cons (h 0 v rfl) ?_;have:=E (k+1) λi u e=>by
     have:=h (i+1) u (by simpa using e)
     rw[show k+1+i=k+(i+1) by omega];exact this
    refine cast (congrArg (λf=>Vals ((List.range r.length).map f) r) ?_) this
    funext j
    congr 2
    omega
 have:=B 0 y λi v e=>by rw[Nat.zero_add];exact h i v e
 rw[hl] at this;simpa using this
def Fz (m:Bool)(hc:X.calm=true)(ha:DE fa X a ga)(L:Gl X "list")(P:X.mg "list"=none)(hg:Gl X "range")(hm:X.mg "range"=none)(hs:starEach [a] X.env=[(false,eval a X.env)])
 (F:starEach [.Call (.Name "range" p2) [a] [] pos2] X.env=[(false,eval (.Call (.Name "range" p2) [a] [] pos2) X.env)]) :
 DE fa X (.Call (.Name "list" p1) [.Call (.Name "range" p2) [a] [] pos2] [] pos) (lG m ga):=by
 rintro y s σ H Q I ⟨μ,Z,M,hE,hM,h⟩;obtain⟨x,M1,e,q⟩:=aI h;have U:∀n,x=.int n->af (if -(2^62)<=n/\n<2^20 then bt m ((List.range n.toNat).map λ(k:Nat)=>D.int (k:Int)) M1 else .bad) (a7 fa X.K μ H Q)->
  wpAny (model X.prog X.w) X.A (eval (.Call (.Name "list" p1) [.Call (.Name "range" p2) [a] [] pos2] [] pos) X.env) (EP X y σ Q) X.xe s:=λn en J=>by
  subst en;by_cases c:-(2^62)<=n/\n<2^20
  ·rw[if_pos c] at J;refine Call_ (iT I L P (by decide +kernel:bootBuiltins "list"=some (.type "list")) (QR ?_ F rfl))
   rw[F];refine Calls.spliced_cons ?_;refine Call_ (iT I hg hm boot_range (QR (aQ (bE ha cx hs pos2 y s σ H (λvs E=>∃j,vs=[.int n]/\Ext μ H j E/\RelM fa X.K j E M1) I {μ,Z,M,hE,hM,?_}) λus s1 ⟨vs,E,I1,r1,j,ev,Y,W⟩=>?_) hs rfl))
   ·rw[e];intro v E j Y W r1;obtain rfl:v=.int n:=r1;exact⟨j,rfl,Y,W⟩
   subst ev;cases r1 with
   | cons r rr=>
     cases rr;obtain⟨t,rfl⟩:=r;refine call_range_1 ?_;refine Calls.spliced_nil ?_;refine call_list_range (n:=n.toNat) (I.ok.hd hc) (IsRange.new ..) (small_one `a `a `a `a) (by rw[rangeSize_one];split<;>omega) `a λh' tk B c' kp eS S=>?_
     obtain⟨R,O⟩:=S;have I2:Inv X y σ E {s1 with heap:=s1.heap.push {cls:=.type "range",data:=.fields #[.int 0 s1.toks,.int n t,.int 1 (s1.toks+1)]},toks:=s1.toks+1+1}:=I1.kept λb o e=>O5 _ e
     have hv:=xl n.toNat B.toList (by simpa using R) λi v e=>by
      obtain⟨u,z⟩:=O i v (by simpa using e)
      exact{u,by rw[z];simp}
     have rl:aG fa X.K j E ((List.range n.toNat).map λ(k:Nat)=>D.int (k:Int)) ((List.range n.toNat).map λ(k:Nat)=>V.int (k:Int)):=by
      have:=aG.ints (fa:=fa) (K:=X.K) (μ:=j) (H:=E) ((List.range n.toNat).map λ(k:Nat)=>(k:Int));simpa[QG,Function.comp_def] using this
     obtain⟨c1,k1⟩:=fJ W rl (jL J Y);refine{.ref _,_,I2.laid (o:=.lst ((List.range n.toNat).map λ(k:Nat)=>V.int (k:Int))) kp (O4 _) {?_,B.toList,c',hv,by simpa using eS},rfl,k1 _ (I2.hok.fresh (O4 _))}
     rw[rl.length,<- cJ];exact c1
  ·rw[if_neg c] at J;exact J.elim
 cases x with
 |int n=>exact U n rfl q
 |_=>exact q.elim
end
noncomputable def pZ (bn N:List Str)(sc scope:Scope):Bool:=
 scope.names.all (λy=>(y.2 != .cell||scope.names.lookup y.1==some .cell)&&(y.2 != .local||scope.names.lookup y.1==some .local)&&(y.2 != .free||sc.names.lookup y.1==some .cell||sc.names.lookup y.1==some .free)) &&
 bn.length==N.length&&(bn.zip N).all λp=>(p.1==p.2&&(scope.names.lookup p.2 != some .local&&scope.names.lookup p.2 != some .cell))||scope.names.lookup p.1==none
noncomputable def nX {j v:Type}{R:j->v->Prop}:∀{l:List j}{r:List v},l.length=r.length->(∀p∈l.zip r,R p.1 p.2)->Q0 R l r
 |[],[],_,_=>.nil
 |a::l,b::r,h,g=>.cons (g (a,b) Pn) (nX (by simpa using h) λp B=>g p (Pa _ B))
 |[],_::_,h,_=>by cases h
 |_::_,[],h,_=>by cases h
def An (hk:scope.kind=.function)(hs:X.env.scope=sc)(v:X.N=N)(h:pZ bn N sc scope=true):eQ X own bn scope:=by
 unfold pZ at h;rw[O2,O2,Pm,Pm] at h;obtain⟨⟨h1,hl⟩,h2⟩:=h;refine{hk,λy j e=>?_,λy j e=>?_,λy j e=>?_,?_}
 ·have:=h1 y j;rw[e] at this;simpa using this
 ·have:=h1 y j;simp only[O2] at this;rw[e] at this;simpa using this
 ·have:=h1 y j;simp only[O2] at this;rw[e] at this;show X.env.scope.names.lookup y.1=_\/X.env.scope.names.lookup y.1=_;rw[hs];simpa using this
 ·rw[v];refine nX (by simpa using hl) λp B=>?_
  have:=h2 p B;simp only[QN,O2,beq_iff_eq,bne_iff_ne] at this;exact this
section
variable{fa:Fa}{X:Cx}{elt tg iter c t2 i2:Expr}{scope:Scope}{pos:Pos}{own bn:List Str}{t u:fw}{gw gw2:GW}{ge:GE}{gc:GT}
def kc {l:List Nat}(h:l.all (· < n)=true):∀i∈l,i<n:=λi j=>by
 have:=Pm.mp h i j;simpa using this
def yN {l W:List Nat}(h:W.all (λi=>!l.contains i)=true):∀i∈W,i∉l:=λi j z=>by
 have:=Pm.mp h i j;simp[z] at this
variable{i:Nat}{y:Str}{py spos:Pos}
def FE {i:Int}(j:Gl X x)(hm:∃t,X.mg x=some (.int i t))(hd:(x==("__debug__":Str))=false):DE fa X (.Name x pos) (gC (.int i)):=let{_,h}:=hm;Iv j h hd
def FH (h:∃ad j,X.mg x=some (.ref ad)/\ff X.K X.w.params ad j/\dJ fa j fs)(E:Gl X x)(v:(x==("__debug__":Str))=false)(B:DE fa X b gb)(hs:iM b):DE fa X (.Subscript (.Name x p) b pos) (kC fs gb):=
 let{_,_,h1,h2,h3}:=h;Iy h2 h3 E h1 v B hs
def FG (h:∃ad j,X.mg x=some (.ref ad)/\ff X.K X.w.params ad j/\dJ fa j fs)(F:Gl X x)(v:(x==("__debug__":Str))=false)(E:DE fa X a ga)(B:behindInMarks .NotIn (.Name x p)=false):DE fa X (.Compare a [.NotIn] [.Name x p] pos) (ix fs ga):=
 let{_,_,h1,h2,h3}:=h;Iw h2 h3 F h1 v E B
def FK (h:∃ad j,X.mg x=some (.ref ad)/\ff X.K X.w.params ad j/\dJ fa j fs)(F:Gl X x)(v:(x==("__debug__":Str))=false)(E:DE fa X a ga)(B:behindInMarks .NotIn (.Name x p)=false):DT fa X (.Compare a [.NotIn] [.Name x p] pos) (aj (ix fs ga)):=
 let{_,_,h1,h2,h3}:=h;IJ h2 h3 F h1 v E B
def Fw (h:b5 (n+4) X.A):Rm X:=by have:=h.un;show X.A.units+100<cLine;omega
end
noncomputable def iy {j v:Type}{f g:j->Option v}:∀{l:List j},(∀x∈l,f x=g x)->l.filterMap f=l.filterMap g
 |[],_=>rfl
 | a::l,h=>by
   rw[Rq,Rq,h a Pn,iy λx u=>h x (Pa _ u)]
def qy (n:Nat)(xs:List O3)(h:xs.length=n):(List.range n).filterMap (λ(k:Nat)=>xs[n-1-k]?)=xs.reverse:=by
 have e:∀k∈List.range n,xs[n-1-k]?=some (xs.reverse.getD k .none):=λk hk=>by
  have hk:=QF.mp hk;rw[Qk,List.getElem?_reverse `a,h,PB `a]
  simp
 have:(List.range n).filterMap (λk=>xs[n-1-k]?)=(List.range n).map λk=>xs.reverse.getD k .none:=by
  rw[iy e];simp
 rw[this];refine List.ext_getElem? λi=>?_;rw[PZ];by_cases j:i<n
 ·rw[Rp j];show some (xs.reverse.getD i .none)=_;rw[Qk,PB (show i<xs.reverse.length by simp;omega)]
  simp
 ·rw[QV `o,QV `o]
  rfl
def rq (h:List O3):slicePick h.toArray none none (some (-1))=h.reverse.toArray:=by
 unfold slicePick sliceBounds sliceRange;simp only[Qj,Pd];have e1:¬ ((-1:Int) > 0):=`d
 simp only[e1,if_false];have e2:(if (h.length:Int)-1 > -1 then((h.length:Int)-1 - -1 - -1-1) / (- -1) else 0).toNat=h.length:=by
  split
  ·simp
  ·omega
 rw[e2,List.filterMap_map,<- qy h.length h rfl]
 congr 1
 refine iy λk hk=>?_;have j:((h.length:Int)-1+-1*(k:Int)).toNat=h.length-1-k:=`a
 show h.toArray[((h.length:Int)-1+-1*(k:Int)).toNat]?=_;rw[j];simp
section
variable{prog:PU}{w:PM}{A:QE}{E:O3->O8->Prop}{s:O8}
def mB (B:IsTup s.heap t items)(hs:s.heap.IsSliceOf sl .none .none (.int (-1) k))
 (h:Q (.ref s.heap.objs.size) {s with heap:=s.heap.push {cls:=.type "tuple",data:=.seq items.toList.reverse.toArray}})
 (hsz:items.size<=sizeLine):wpAny (model prog w) A (getItem (.ref t) (.ref sl)) Q E s:=by
 have j:sizeOk (.seq items.toList.reverse.toArray):=by
  show items.toList.reverse.toArray.size<=sizeLine;simpa using hsz
 obtain⟨os,u,H,v⟩:=id hs;have F:s.TypeIs (.ref sl) "slice":=⟨os,u,H⟩;unfold getItem;try with_reducible refine tqo ?_
 first|refine tqa (tqb ?_)|skip
 refine tqa (wpAny_sequenceKey B.typeIs `d ?_)
 refine tqa (wpAny_callSpecial?_slot B.typeIs P6
  (wpAny_call_entry P6 B.typeIs entry_tuple_getitem ?_ (args_tuple_getitem _ _)))
 show wpAny _ _ (Builtin.Tuple.tupleItemsOf (.ref t) >>= _) _ _ s;refine tqa (tupleItemsOf_ B ?_);refine tqa (wpAny_typeOf F ?_);rw[if_pos `d]
 refine tqa (tqa (tqa (tqf u v rfl (tqa (tqf u v rfl (tqa (tqf u v rfl (tqb ?_))))))));refine tqa (slicePart_int ?_);rw[if_neg `d]
 refine tqa (slicePart_none (tqa (slicePart_none (tqa (tqb ?_)))));have ea:Builtin.Slice.sliceAdjust none none (-1) (items.size:Int)=((items.size:Int)-1,-1):=by simp[Builtin.Slice.sliceAdjust]
 have L:Builtin.Slice.slicePlaces ((items.size:Int)-1) (-1) (-1)=items.size:=by
  unfold Builtin.Slice.slicePlaces;rw[if_neg `d]
  split
  ·simp
  ·omega
 show wpAny _ _ (match Builtin.Slice.sliceAdjust none none (-1) (items.size:Int) with|(lo,M)=>pure (lo,(-1:Int),Builtin.Slice.slicePlaces lo M (-1))) _ _ s
 rw[ea];show wpAny _ _ (pure ((items.size:Int)-1,(-1:Int),Builtin.Slice.slicePlaces ((items.size:Int)-1) (-1) (-1))) _ _ s;rw[L];refine tqb ?_;have I:¬ ((((items.size:Int)-1)==0&&(-1:Int)==1&&items.size==items.size)=true):=`s
 show wpAny _ _ (if (((items.size:Int)-1)==0&&(-1:Int)==1&&items.size==items.size)=true then _ else _) _ _ s;rw[if_neg I];have y:((List.range items.size).filterMap λ(m:Nat)=>items[(((items.size:Int)-1)+(m:Int) * -1).toNat]?).toArray=items.toList.reverse.toArray:=by
  rw[<- qy items.size items.toList `s]
  congr 1
  refine iy λm hm=>?_;have J:((items.size:Int)-1+(m:Int) * -1).toNat=items.size-1-m:=`a
  rw[J];simp
 rw[y];first
  |exact tqa (wpAny_newObj_type (tqb {_,rfl,tqb h}) j)
  |exact tqa (wpAny_newObj_type (tqa (tqb (tqb {_,rfl,tqb h}))) j)
  |exact tqa (tqa (wpAny_newObj_type (tqb (tqb {_,rfl,tqb h})) j))
  |exact tqa (tqa (wpAny_newObj_type (tqb {_,rfl,tqb h}) j))
end
section
variable{fa:Fa}{X:Cx}{a st:Expr}{ga:GE}{pos p2:Pos}
def wD (m:Bool)(x:D)(M:Mem):Res D:=match x with
 |.tup xs=>.ok (.tup xs.reverse) M
 | x=>match fg M x with
   |some xs=>bt m xs.reverse M
   |none=>.bad
def pO (m:Bool)(a:GE):GE:=λh M=>(a h M).bind λx M=>wD m x M
def ID (K:O0):V->Hp->VK->Prop:=λx H Q=>∃a xs,x=.ref a/\((cz K H a xs/\∀p,H p=none->Q (.ref p) (upd H p (.lst xs.reverse)))\/(c8 K H a xs/\∀p,H p=none->Q (.ref p) (upd H p (.tup xs.reverse))))
noncomputable def mJ:∀{xs:List V}{us:List O3},Vals xs us->Vals xs.reverse us.reverse
 |_,_,.nil=>.nil
 | _,_,.cons p r=>by
   rw[List.reverse_cons,List.reverse_cons];exact(mJ r).append (.cons p .nil)
def IV (ha:PE X a ta)(R:PE X st ts) :
 PE X (.Subscript a (.Slice none none (some st) p2) pos) (λJ H Q=>ta J H λx P=>ts J P λy Y=>y=.int (-1)/\ID X.K x Y Q):=by
 intro j s J H Q I h;refine Subscript_ (aQ (ha j s J H _ I h) λv s1 ⟨x,P,I1,r1,q1⟩=>?_);refine wpAny_Slice ?_;rw[evalPart_none];refine tqb ?_;refine tqb ?_;rw[evalPart_some];refine aQ (R j s1 J P _ I1 q1) ?_;rintro vu u ⟨y,H3,I3,r3,ey,q3⟩;subst ey;obtain⟨k,rfl⟩:=r3;have L:Inv X j J H3 {u with heap:=u.heap.push {cls:=.type "slice",data:=.fields #[.none,.none,.int (-1) k]}}:=I3.kept λb ob q=>O5 _ q
 have M:(u.heap.push {cls:=.type "slice",data:=.fields #[.none,.none,.int (-1) k]}).IsSliceOf u.heap.objs.size .none .none (.int (-1) k):=Heap.IsSliceOf.new ..;obtain⟨b,xs,rfl,q⟩:=q3;cases r1;have W:∃T id,typeLookup (.type T) "__getitem__"=pure (some (.builtin id))/\Shared.TypeIs {u with heap:=u.heap.push {cls:=.type "slice",data:=.fields #[.none,.none,.int (-1) k]}} (.ref b) T/\wpAny (model X.prog X.w) X.A (getItem (.ref b) (.ref u.heap.objs.size)) (EP X j J Q) X.xe {u with heap:=u.heap.push {cls:=.type "slice",data:=.fields #[.none,.none,.int (-1) k]}}:=by
  rcases q with⟨S,q⟩|⟨S,q⟩
  ·obtain⟨U,r,F,O⟩:=L.list S;have B:=r.length;refine{"list",_,slot_list_getitem.lookup,F.isList.typeIs,?_};refine wpAny_getItem_list_slice F.isList M .none .none (.int (-1) k) `d ?_ (by rw[Pd]<;>omega)
   rw[rq];refine{.ref _,_,L.laid (λb ob q=>O5 _ q) (O4 _) ?_,rfl,q _ (L.hok.fresh (O4 _))};exact{by simpa using O,_,0,mJ r,PD _ rfl}
  ·obtain⟨U,r,F,O⟩:=L.tuple S;have B:=r.length;refine{"tuple",_,P6.lookup,F.typeIs,?_};refine mB F M ?_ (by rw[Pd,<- B];exact O)
   refine{.ref _,_,L.laid (λb ob q=>O5 _ q) (O4 _) ?_,rfl,q _ (L.hok.fresh (O4 _))};exact{by simpa using O,_,mJ r,IsTup.new _ _}
 obtain⟨T,id,hT,F,hg⟩:=W;exact tail_any F hT hg (by with_unfolding_all rfl)
def Lx (m:Bool)(U:DE fa X a ga):DE fa X (.Subscript a (.Slice none none (some (.UnaryOp .USub (.Constant (.int 1) k pc) pu)) p2) pos) (pO m ga):=
 bx (IV U (Dz yb zb)) λY H Q ⟨L,W,M,O,S,h⟩=>t1 O S h λx F v B I J P y r1 h1=>by
  refine{1,rfl,rfl,?_};have lst:∀(u:List D) (b:Addr) (j:List V),cz X.K B b j->aG fa X.K I B u j->af (bt m u.reverse F) (a7 fa X.K L H Q)->ID X.K (.ref b) B Q:=λu b j hs hr h1=>by
   obtain⟨_,q⟩:=fJ y hr.reverse (jL h1 J);exact{b,j,rfl,.inl ⟨hs,q⟩}
  cases x with
  | tup u=>
    obtain⟨b,j,rfl,hs,hr⟩:=r1;exact{b,j,rfl,.inr {hs,gF y hr.reverse (a7.ext h1 J)}}
  | lst u=>
    obtain⟨b,j,rfl,hs,hr⟩:=r1;exact lst u b j (cz.of hs.1) hr h1
  | frz u=>
    obtain⟨b,j,rfl,hs,hr⟩:=r1;exact lst u b j (hs.elim ((by rintro⟨o,z⟩;exact .inl (.inr ⟨o,z⟩))) .inr) hr h1
  | cell k=>
    obtain⟨b,rfl,hk⟩:=r1;obtain⟨u,j,e,R,hr⟩:=y.mu_lt hk;have h1:af (match F[k]? with|some xs=>bt m xs.reverse F|none=>.bad) (a7 fa X.K L H Q):=h1
    rw[e] at h1;exact lst u b j (cz.of R) hr h1
  |_=>exact h1.elim
end
def mm {fa:Fa}{mg:Str->Option O3}(e:fa i=some f)(m:mg x=some (.ref f)):∀ad,fa i=some ad->mg x=some (.ref ad):=λad h=>by rw[e] at h;cases h;exact m
def us1 {j:Type}{p:List j->Prop}(h:∀a,p [a])(us:List j)(hl:us.length=1):p us:=by
 obtain⟨a,rfl⟩:=List.length_eq_one_iff.mp hl;exact h a
def MS {j:Type}{p:List j->Prop}(h:∀a b,p [a,b]):∀(us:List j) (hl:us.length=2),p us
 |[a,b],_=>h a b
def us3 {j:Type}{p:List j->Prop}(h:∀a b c,p [a,b,c]):∀(us:List j) (hl:us.length=3),p us
 |[a,b,c],_=>h a b c
def us4 {j:Type}{p:List j->Prop}(h:∀a b c d,p [a,b,c,d]):∀(us:List j) (hl:us.length=4),p us
 |[a,b,c,d],_=>h a b c d
def zM:Q0 (nB P) [] []:=.nil
def fR (h:Q0 (nB P) es kvs):Q0 (nB P) ({PyData.keyHash P x,.str x t,.ref a}::es) ((x,a)::kvs):=.cons ⟨t,rfl⟩ h
def Dt (K:O0):Sp:=λj H Q _=>∃(a:Addr) (ns:List Int),j=[.ref a]/\cz K H a (ns.map V.int)/\xM H/\ns.length<=63/\∀h,Q (.bl true) h
def JK {K:O0}{ad:Addr}{st:Stmt}(h:∀f d,Pg f=some d->xQ fa P w K mg base f d)
 (hl:∀ns:List Int,ns.length<=63->∃M,ag Pg (n+1) f [.frz (ns.map D.int)] []=.ok (.bl true) M) (e:Pg f=some d) (F:mI K x qual st ad fd) (S:fW N [y] (aE st)) (hs:d.slots=N.length)
 (u:∀(call:Call) (n:Nat) (j:O3) (A:QE) (outer:List QC) (s:O8) (H:Hp) (E:XK),(∀f,gA fa P w K mg base n f (call f))->b5 (2*n+5) (A.deeper (envOfC qual (aE st) s.heap.objs.size ad j))->
  j7 fa (dY (fx P w) P w K mg base N qual (aE st) ad j A outer s H E) (bT st) (d.body call)):jG P w K mg base (fx P w) (2*n+5+1) ad fd [y] (Dt K):=by
 have eq:∀I M,ag Pg (n+1) f I M=fL (ag Pg n) d I M:=λI M=>by show(match Pg f with|none=>Res.bad|some d=>fL (ag Pg n) d I M)=_;rw[e]
 refine pQ (mI.toD F) S (λU H Q E B=>?_) λj A outer s H U Q E hr B=>{_,u (ag Pg n) n j A outer s H E (ui h n) hr,?_}
 ·obtain⟨a,ns,rfl,_⟩:=B;rfl
 ·obtain⟨a,ns,rfl,R,O,hn,q⟩:=B;obtain⟨Y,J⟩:=hl ns hn;rw[eq] at J;have rp:aG fa K {λ_=>none,[],λ_=>none} H [.frz (ns.map D.int)] [.ref a]:=by
   refine{.ref a,[],rfl,{a,ns.map V.int,rfl,?_,aG.ints ns},rfl};rcases R with(z|⟨o,z⟩)|z
   ·rcases O a with y|⟨o,xs,y⟩
    ·rw[y] at z;cases z
    ·rw[y] at z;cases z
   ·exact .inl ⟨o,z⟩
   ·exact .inr z
  refine qX (μ:={λ_=>none,[],λ_=>none}) (M:=[]) hs {λk I z=>by simp at z,λ_ _=>rfl,λ_ _=>rfl,(λ_ _ _ z=>nomatch z),(λ_ _ _ z=>nomatch z),(λ_ _ z=>nomatch z),(λ_ z=>nomatch z)} rp ?_
  rw[J];intro v L X _ _ r;obtain rfl:v=.bl true:=r;exact q L
def vt {K:O0}{ad:Addr}(X:K.In h)(G:h.Ns mainGlobals mg)(a:PySem.W.nsIn K mainGlobals x=some (some (.ref ad)))
 (l:K.lookup ad=some {cls:=.type "dict",data:=.dict es n}) (he:Q0 (nB P) es.toList j) (nd:(j.map (·.1)).Nodup) (ns:(ad==sysModules)=false) (dk:dJ fa j fs):∃ad j,mg x=some (.ref ad)/\ff K P ad j/\dJ fa j fs:=
 {ad,j,Qw X G a,{⟨es,n,l,he⟩,nd,ns},dk}
def yF (lo hi:Option Int)(n:Nat):Builtin.Str.strSliceIndices lo hi 1 n=(List.range (HT.aK n n hi-HT.aK n 0 lo)).map (HT.aK n 0 lo+·):=by
 rw[<- sliceRange_one];unfold Builtin.Str.strSliceIndices;simp only[show(1:Int) > 0 by decide,if_true]
 congr 1
 ·cases lo with
  |none=>rfl
  | some i=>
    simp only[HT.aK];split<;>omega
 ·cases hi with
  |none=>rfl
  | some i=>
    simp only[HT.aK];split<;>omega
def ib (z:Str)(l h:Nat):Str:={(cut z.cps.toList l h).toArray}
section
variable{fa:Fa}{X:Cx}{a b:Expr}{ga gb:GE}{pos p2:Pos}{tg:Expr}
def sL (h:IsPart v o):∃p:Option (Int×Tok),v=partValue p/\p.map (·.1)=o:=by
 cases h with
 |none=>exact⟨none,rfl,rfl⟩
 |int i t=>exact{some (i,t),rfl,rfl}
set_option tactic.hygienic true in
def HX:kU X (λx lo hi H Q=>∃z:Str,x=.str z/\z.cps.size<=sizeLine/\Q (.str (ib z (HT.aK z.cps.size 0 lo) (HT.aK z.cps.size z.cps.size hi))) H):=by
 intro F s S H x v P R lo hi sl Q I J hs pl pu h;obtain⟨z,rfl,O,q⟩:=h;obtain⟨t,rfl⟩:=J;obtain⟨l,rfl,B⟩:=sL pl;obtain⟨u,rfl,E⟩:=sL pu;refine{"str",_,slot_str_getitem.lookup,typeIs_str s z t,?_};refine wpAny_getItem_str_slice (st:=none) hs rfl ?_;have e:(slicePicked z l u none).filterMap (z.cps[·]?)=cut z.cps.toList (HT.aK z.cps.size 0 lo) (HT.aK z.cps.size z.cps.size hi):=by
  unfold slicePicked;rw[B,E];show(Builtin.Str.strSliceIndices lo hi 1 z.cps.size).filterMap _=_;rw[yF,pick_run];rfl
 unfold sliceMade;split
 ·next c=>
  have j:(slicePicked z l u none).length=z.length:=by simpa using c
  have e2:ib z (HT.aK z.cps.size 0 lo) (HT.aK z.cps.size z.cps.size hi)=z:=by
   have hl:HT.aK z.cps.size z.cps.size hi-HT.aK z.cps.size 0 lo=z.cps.size:=by
    unfold slicePicked at j;rw[B,E] at j;have j:(Builtin.Str.strSliceIndices lo hi 1 z.cps.size).length=z.cps.size:=j;rw[yF] at j;simpa using j
   have M:HT.aK z.cps.size z.cps.size hi<=z.cps.size:=by
    cases hi with
    |none=>exact O4 _
    |some i=>simp only[HT.aK];split<;>omega
   have y:HT.aK z.cps.size 0 lo=0\/z.cps.size=0:=`a
   unfold ib cut;rw[hl];rcases y with y|y
   ·rw[y];rcases z with⟨L⟩
    rw[List.drop_zero,Qn `s]
   ·have:z.cps=#[]:=Array.eq_empty_of_size_eq_zero y;rcases z with⟨L⟩
    simp at this;subst this;simp
  rw[e2] at q;exact{.str z,H,I,⟨t,rfl⟩,q}
 ·rw[e];refine{?_,.str _,H,I.tok _,{_,rfl},q};have:(cut z.cps.toList (HT.aK z.cps.size 0 lo) (HT.aK z.cps.size z.cps.size hi)).length<=z.cps.size:=by
   unfold cut;rw[Qf,QL];simp;omega
  show(cut z.cps.toList _ _).toArray.size<=sizeLine;simp at this ⊢;omega
def mh (hl hh:Bool)(a lo hi:GE):GE:=λj M=>(a j M).bind λx M=>(lo j M).bind λl M=>(hi j M).bind λh M=>if b7 hl l&&b7 hh h then(match x with
 | .str z=>if z.cps.size <= sz then(match aK z.cps.size 0 l,aK z.cps.size z.cps.size h with
   |some l,some h=>.ok (.str (ib z l h)) M
   |_,_=>.bad) else .bad
 |_=>.bad) else .bad
set_option tactic.hygienic true in
def Ir (hl hh:Bool){lo hi:Option Expr}(ha:DE fa X a ga)(I:DO fa X lo hl gl)(F:DO fa X hi hh gh):DE fa X (.Subscript a (.Slice lo hi none p2) pos) (mh hl hh ga gl gh):=
 bx (sI HX ha I F) λσ H Q ⟨μ,S,M,hE,hM,h⟩=>t1 hE hM h λx U v H1 J x1 j y r1 h1=>by
  obtain⟨l,W,e2,h2⟩:=aI h1;obtain⟨u,M3,Y,h3⟩:=aI h2;split at h3
  ·next c=>
   rw[O2] at c;obtain⟨ol,O⟩:=part_of c.1;obtain⟨ou,P⟩:=part_of c.2;refine{J,S,U,j,y,?_};rw[e2];refine{ol,c.1,O,λH2 L R B=>{L,S,W,j.ext R,B,?_}};rw[Y];refine{ou,c.2,P,λH3 μ3 x3 E=>?_};cases x with
   | str z=>
     obtain rfl:v=.str z:=r1;dsimp only at h3;split at h3
     ·next hz=>
      simp only[mO,O,P,Option.map_some] at h3;exact{z,rfl,by rw[<- cJ];exact hz,aN E (a7.ext h3 ((x1.trans R).trans x3)) rfl}
     ·exact h3.elim
   |_=>exact h3.elim
  ·exact h3.elim
def signs (z:Str):List D:=z.cps.toList.map λc=>.str {#[c]}
def K8 (z:Str):It:={λi _=>i<z.cps.size,λi H x h=>h=H/\∃c,z.cps[i]?=some c/\x=.str {#[c]},λi _=>z.cps.size<=i}
def rZ {K:O0}(hn:["enumerate","zip","dict_itemiterator","dict_reverseitemiterator","odict_iterator","itertools.zip_longest","itertools.pairwise"].contains n=false)(j:Addr)(z:Str)(t:Tok)
 (W:∀A':QE,A'.handled=none->Walks P w A' j [j] [j] z.cps.size (SignAt z) (λi h=>h.IsStrIter j n z t i))
 (S:∀(A:QE) (i:Nat) (s:O8) (Q:O3->O8->Prop) (E:O3->O8->Prop),s.heap.IsStrIter j n z t i->Q (.ref j) s->wpAny (model P w) A (pyIter (.ref j)) Q E s)
 (D:∀(A:QE) (hh:A.handled=none) (i:Nat) (s:O8) (Q:Option O3->O8->Prop) (E:O3->O8->Prop),s.heap.IsStrIter j n z t i->z.cps.size<=i->(∀F,(∀b o,b≠j->s.heap.get? b=some o->F.get? b=some o)->Q none {s with heap:=F})->wpAny (model P w) A (pyNext (.ref j)) Q E s) :
 Turn P w K tg (K8 z) [j] j (λi h=>h.IsStrIter j n z t i) where
 mem:=`s
 obj:=λi h st b B=>by
  have e:b=j:=by simpa using B
  subst e;obtain⟨o,e,c,d⟩:=st;exact{o,e,λv z=>by rw[d] at z;cases z}
 keep:=λi h F st k=>let⟨o,e,r⟩:=st;{o,k j `s o e,r}
 item:=by
  intro X Y hw U hc i y s σ H E I hf st hg;subst Y hw U;obtain⟨L,f1,f2,M,O,R⟩:=hf j `s
  refine(W X.A (I.ok.hd hc)).item i s _ _ hg st λv F tk hv J kk=>?_;obtain⟨c,u,hc',rfl⟩:=hv;have I1:Inv X y σ H {s with heap:=F,toks:=tk}:=I.turned (λb o B e=>kk b o (by simpa using B) e) L f1 M O R
  obtain⟨o,e,co,d⟩:=id J;exact{_,rfl,rR e co d hn {.str {#[c]},H,I1,⟨u,rfl⟩,⟨rfl,c,hc',rfl⟩,J,λb B=>(hf b B).1}}
 done:=by
  intro X Y hw U hc i y s σ H E I hf st hg;subst Y hw U;obtain⟨L,f1,f2,M,O,R⟩:=hf j `s
  exact D X.A (I.ok.hd hc) i s _ _ st hg λF eb=>{rfl,I.turned (λb o B e=>eb b o B e) L f1 M O R}
 self:=λA i s Q E st h=>S A i s Q E st h
def IT {l:Expr}{tl:TE}(hl:PE X l tl):PI X tg l (λF H R=>tl F H λx u=>∃z,x=.str z/\R (K8 z) u):=by
 intro j s F H R I h;refine aQ (hl j s F H _ I h) ?_;rintro v s1 ⟨x,u,y,r1,S⟩;obtain⟨z,rfl,q⟩:=S;obtain⟨t,rfl⟩:=r1;have J:∀b∈[s1.heap.objs.size],ef X j u b:=λb O=>by
  have e:b=s1.heap.objs.size:=by simpa using O
  subst e;exact y.fpOk (O4 _) (y.hok.fresh (O4 _))
 cases L:z.cps.all (· < 128)
 ·refine wpAny_pyIter_wide L ?_;exact{s1.heap.objs.size,[s1.heap.objs.size],_,_,u,rfl,y.kept λb o e=>O5 _ e,rZ rfl _ z t (λM h=>Walks.strWide h _ z t) (λA i s Q E st h=>wpAny_pyIter_striter_wide st h) (λA B i s Q E st P k=>wpAny_pyNext_wide_end B st `o k),{_,PD _ rfl,rfl,rfl},J,q}
 ·refine wpAny_pyIter_ascii L ?_;exact{s1.heap.objs.size,[s1.heap.objs.size],_,_,u,rfl,y.kept λb o e=>O5 _ e,rZ rfl _ z t (λM h=>Walks.strAscii h _ z t) (λA i s Q E st h=>wpAny_pyIter_striter_ascii st h) (λA B i s Q E st P k=>wpAny_pyNext_ascii_end B st `o k),{_,PD _ rfl,rfl,rfl},J,q}
def om (ga:GE):Env->Mem->Res Walk:=λh M=>(ga h M).bind λx M=>match x with
 |.str z=>.ok (λ_=>some (signs z)) M
 |_=>.bad
def AL (z:Str):dQ fa X.K μ0 H0 (λ_=>some (signs z)) (K8 z):=λJ H M I x v e=>by
 cases e;refine{λi d hd=>?_,λi B=>(show z.cps.size<=i by simpa[signs] using B)}
 unfold signs at hd;rw[PZ] at hd;cases e:z.cps.toList[i]? with
 |none=>rw[e] at hd;cases hd
 | some c=>
   rw[e] at hd;have j:=Ph hd;subst j;have e2:z.cps[i]?=some c:=by simpa using e
   refine{(P4.mp e2).1,λy E ⟨e1,F,h,u⟩=>?_};rw[e2] at h;cases h;subst e1 u;exact{.refl,v,rfl}
def GX (F:DE fa X a ga):DI fa X tg a (om ga):=λj s Q H R I ⟨O,P,M,B,E,h⟩=>by
 obtain⟨x,S,e,q⟩:=aI h;refine IT F j s Q H R I {O,P,M,B,E,?_};rw[e];intro v y u L J r1;cases x with
 | str z=>
   obtain rfl:v=.str z:=r1;exact{z,rfl,q _ y u L J (AL z)}
 |_=>exact q.elim
end
end LD
namespace LD
open PySem PySem.Spec PySem.Calls PyProof.Rows PySem.W
section
variable{prog:PU}{w:PM}{A:QE}{E:O3->O8->Prop}{s:O8}{K:Frag}{x C:Addr}{ox:Obj}{od:Option Obj}{name:Str}
noncomputable def hX (K:Frag)(C:Addr):Bool:=findIn K (.ref C) "__getattribute__"==some (some (.builtin "BaseException.__getattribute__"))&&findIn K (.ref C) "__getattr__"==some none&&mroIn K C (.type "BaseException")==some true&&mroIn K C (.type "object")==some true &&
 findIn K (.ref C) "__class__"==some (some (.builtin "object.__class__"))&&specialIn K (.builtin "object.__class__") "__get__"==some (some (.builtin "getset_descriptor.__get__"))&&takesIn K (.builtin "object.__class__")==some true
def Ox (prog:PU)(w:PM)(A:QE)(x C:Addr)(Q:O3->O8->Prop)(E:O3->O8->Prop)(s:O8):Builtin.ObjectAttr.Found->Prop
 |.value v=>wpAny (model prog w) A (handedOut v) Q E s
 |.bind g a=>wpAny (model prog w) A.in1 (call g [a,.ref x,.ref C]) (λv h=>wpAny (model prog w) A (handedOut v) Q E h) (λ_ _=>False) s
 |.missing=>False
def vN {u j:Bool}(X:K.In s.heap)(I:InstAt s.heap x ox C od)(B:hX K C=true)(hf:findObj K C od name=some r)
 (h:Ox prog w A x C Q E s r) :
 wpAny (model prog w) A (getAttrBy (.ref x) (.str name tk) u j) Q E s:=by
 unfold hX at B;simp only[O2,beq_iff_eq] at B;obtain⟨⟨⟨⟨⟨⟨H,J⟩,L⟩,Y⟩,_⟩,_⟩,_⟩:=B;obtain⟨hh,g,d,t,os⟩:=s;have P:=I.type (M:=model prog w);have R:=looks_findIn (M:=model prog w) X H;have S:=looks_findIn (M:=model prog w) X J;have U:=looks_find (M:=model prog w) X I hf;have W:=looks_mroIn (M:=model prog w) X L;have O:(Value.builtin "BaseException.__getattribute__"==Value.builtin "object.__getattribute__")=false:=`k
 have hk:builtinKind "BaseException.__getattribute__"=some .slot:=`k
 have y:splitId "BaseException.__getattribute__"=some ("BaseException","__getattribute__"):=`k
 refine tqo (tqa (P.at (tqa (R.at ?_))));show wpAny _ _ (if (true&&Value.builtin "BaseException.__getattribute__"==Value.builtin "object.__getattribute__")=true then _ else _) _ _ _;rw[O,if_neg `d]
 refine tqa (S.at (tqa (wpAny_attempt (tqo ?_))));unfold callGetattribute;rw[if_neg (by cases j<;>decide)]
 refine tqa (wpAny_of_eq (PySem.F.excAttr_ValueError.ga.bind (.ref x)) ?_);refine wpAny_call (codeAny_call_builtin PySem.F.excAttr_ValueError.ga.plain F.entry_bexc_ga ?_);refine tqa (tqa (P.at (W.at ?_)))
 repeat (any_goals (first|assumption|wp_step))
 refine wpAny_loadPart_at I.at_ (tqb ?_);rw[I.cls];refine tqa (U.at ?_);cases r with
 |value v=>exact tqb h
 | bind g a=>
   exact tqa (tqo (wpAny_mono h (λv s' z=>tqb z) λ_ _ z=>z.elim))
 |missing=>exact h.elim
def qO {Q:Option O3->O8->Prop}(X:K.In s.heap)(I:InstAt s.heap x ox C od)(v:hX K C=true)(h:Q (some (.ref C)) {s with toks:=s.toks+1}):wpAny (model prog w) A (getAttr? (.ref x) "__class__") Q E s:=by
 have j:=v;unfold hX at j;simp only[O2,beq_iff_eq] at j;obtain⟨⟨⟨⟨⟨⟨_,_⟩,_⟩,hm⟩,y⟩,hn⟩,u⟩:=j;have hf:findObj K C od "__class__"=some (.bind (.builtin "getset_descriptor.__get__") (.builtin "object.__class__")):=by
  obtain⟨F,B,_⟩:=Px.mp hm;unfold findObj;rw[B,Q6,y,Q6];simp[hn,u]
 refine tqa (wpAny_mkText (tqa (wpAny_attempt (vN X I v hf ?_))));exact wpAny_call (class_get X I hm (handed_on rfl (tqb h)))
set_option tactic.hygienic true in
def GD (X:K.In s.heap)(I:InstAt s.heap x ox C od)(O:hX K C=true)(B:∀(M:Model) u,K.In u->Looks M u (typeOf c) (.type "type"))(y:∀(M:Model) u,K.In u->Looks M u (isType c) true)
 (J:(Value.ref C==c)=false) (j:∀(M:Model) u,K.In u->Looks M u (isSubtype (.ref C) c) false) (h:Q (.bool false) {s with toks:=s.toks+1}):wpAny (model prog w) A (call (.builtin "isinstance") [.ref x,c]) Q E s:=by
 refine call_isinstance_of ?_ (by intro q;cases q)
 have F:Looks (model prog w) s.heap (isType (.ref C)) true:=by
  have v:=O;unfold hX at v;simp only[O2,beq_iff_eq] at v;obtain⟨cd,H,_⟩:=Px.mp v.1.1.1.2;unfold clsIn at H;split at H
  ·rename_i c' d' R U ho;intro W Q' Y s' k q;exact tqa (wpAny_loadPart (k _ _ (X _ _ ho)) (tqb q))
  ·cases H
 have B:=B (model prog w) s.heap X;have y:=y (model prog w) s.heap X;have j:=j (model prog w) s.heap X;obtain⟨S,g,d,tt,os⟩:=s;have L:=I.type (M:=model prog w);have P:Looks (model prog w) S (isInstance (.ref x) c) false:=L.andThen j;refine tqa (L.at ?_);rw[if_neg (λq=>by rw[J] at q;exact Bool.noConfusion q)]
 refine tqa (B.at ?_);rw[if_pos `d]
 k_delta "plainIsInstance"
 refine tqa (tqa (y.at ?_));refine tqa (P.at ?_);refine tqa (qO X I O ?_);refine tqa (F.at ?_);refine tqa (wpAny_rule ?_);refine j.at ?_;exact tqb h
set_option tactic.hygienic true in
def Cr {D:Addr}(X:K.In s.heap)(I:InstAt s.heap x ox C od)(F:hX K C=true)(e:kin_not K C D=true)(h:Q (.bool false) {s with toks:=s.toks+1}):wpAny (model prog w) A (call (.builtin "isinstance") [.ref x,.ref D]) Q E s:=by
 unfold kin_not at e;rw[O2,O2,O2] at e;obtain⟨⟨⟨y,e1⟩,e2⟩,B⟩:=e;refine GD X I F (λ_ u j=>looks_typeIn j (Ru.mp e2)) (λ_ u j=>?_) ?_ (λ_ u j=>looks_subIn j (Ru.mp B)) h
 ·unfold clsIn at e1;split at e1
  ·rename_i O P v H ho;intro J M L R k q;exact tqa (wpAny_loadPart (k _ _ (j _ _ ho)) (tqb q))
  ·cases e1
 ·exact Bool.eq_false_iff.mpr λq=>of_decide_eq_true y (Value.ref.inj (Ru.mp q))
set_option tactic.hygienic true in
def BV {D:Addr}(X:K.In s.heap)(e1:(clsIn K D).isSome=true)(e2:typeIn K (.ref D)=some (.type "type"))(h:Q (.bool false) {s with toks:=s.toks+1}):wpAny (model prog w) A (call (.builtin "isinstance") [.none,.ref D]) Q E s:=by
 refine call_isinstance_of ?_ (by intro q;cases q)
 have v:=looks_typeIn (M:=model prog w) X e2;have j:=looks_subIn (M:=model prog w) (r:=false) X (show subIn K (.type "NoneType") (.ref D)=some false by rfl)
 have u:Looks (model prog w) s.heap (isType (.ref D)) true:=by
  unfold clsIn at e1;split at e1
  ·rename_i J L y B ho;intro F I H P k q;exact tqa (wpAny_loadPart (k _ _ (X _ _ ho)) (tqb q))
  ·cases e1
 obtain⟨O,g,d,R,os⟩:=s;refine tqa (wpAny_of_eq rfl ?_);rw[if_neg (by intro q;cases Ru.mp q)]
 refine tqa (v.at ?_);rw[if_pos `d]
 k_delta "plainIsInstance"
 refine tqa (tqa (u.at ?_));refine tqa (tqa (wpAny_of_eq rfl (j.at ?_)));refine tqa (class_attr_none ?_);refine tqa (wpAny_of_eq rfl ?_);refine tqa (wpAny_rule ?_);refine j.at ?_;exact tqb h
def GF (X:K.In s.heap)(I:InstAt s.heap x ox C od)(j:typeOf (.type T)=pure (.type "type"))(hm:mroIn K C (.type T)=some true)(h:Q (.bool true) s):wpAny (model prog w) A (call (.builtin "isinstance") [.ref x,.type T]) Q E s:=by
 refine call_isinstance_of ?_ (by intro q;cases q)
 have v:=looks_mroIn (M:=model prog w) X hm;obtain⟨B,g,d,F,os⟩:=s;have u:=I.type (M:=model prog w);have y:Looks (model prog w) B (isInstance (.ref x) (.type T)) true:=u.andThen v;refine tqa (u.at ?_);rw[if_neg (by intro q;cases Ru.mp q)]
 refine tqa (wpAny_of_eq j ?_);rw[if_pos `d]
 k_delta "plainIsInstance"
 refine tqa (tqa (wpAny_of_eq rfl ?_));refine tqa (y.at ?_);exact tqb (tqb h)
end
end LD
namespace LD
open PySem PySem.Spec PyProof.Rows L2
noncomputable def bL (f:Nat)(c:Call)(s:GA):GE:=λj M=>match s j M with
 |.ok h M=>c f h M
 |_=>.bad
noncomputable def rY (k:D->Mem->Res Fl)(Z:Env):Res D->Res Fl
 |.ok d M=>k d M
 |.err x M=>.ok (.exc x Z) M
 |.bad=>.bad
def eF (a:GE):GS:=λh M=>rY (λ_ M=>.ok (.next h) M) h (a h M)
def fz (t:fw)(a:GE):GS:=λh M=>rY (λx M=>(bV M (b4 t x h)).bind λj M=>.ok (.next j) M) h (a h M)
def wB (a:GE):GS:=λh M=>rY (λx M=>.ok (.ret x) M) h (a h M)
noncomputable def xp (t:GT)(a b:GE):GE:=λh M=>match t h M with
 |.ok k M=>if k then a h M else b h M
 |_=>.bad
noncomputable def eE (c:Nat)(s:GA):GS:=λh M=>match s h M with
 |.ok j M=>if j.length<=sz then .ok (.exc (.exc c none) h) M else .bad
 |_=>.bad
def dt (o:Option Nat)(a:GE):GE:=λh M=>(a h M).bind λx M=>match x,o with
 |.exc c _,_=>.ok (.bl (match o with|some k=>k==c|none=>true)) M
 |.non,some _=>.ok (.bl false) M
 |_,_=>.bad
noncomputable def Hs (i:Nat):Fl->Mem->Res Fl
 |.next h,M=>.ok (.next (h.set i none)) M
 |.ret d,M=>.ok (.ret d) M
 |.exc _ _,_=>.bad
def NF (i:Nat)(h:GS):Fl->Mem->Res Fl
 |.exc x j,M=>(h (j.set i (some x)) M).bind (Hs i)
 |fl,M=>.ok fl M
def sv (b:GS)(i:Nat)(h:GS):GS:=λj M=>(b j M).bind (NF i h)
def MZ (fa:Fa)(X:Cx)(g:GE):TE:=λv H Q=>∃h j M,bc fa X.K h H v j/\RelM fa X.K h H M/\dG (g j M) (a7 fa X.K h H Q) (λx u=>XW fa X h H x j u)
abbrev DX (fa:Fa)(X:Cx)(e:Expr)(g:GE):Prop:=PE X e (MZ fa X g)
section
variable{fa:Fa}{X:Cx}{a b:Expr}{ga gb:GE}{ta:GT}{pos p:Pos}{es:List Expr}{gs:GA}{n:Nat}
def x_call (f:Nat){call:Call}(C:∀f,gA fa X.prog X.w X.K X.mg X.base n f (call f))(hr:b5 (2*n+4) X.A)(hex:X.ex=[])(hg:Gl X x)(hm:∀ad,fa f=some ad->X.mg x=some (.ref ad))(hs:DA fa X (a::es) gs)
 (hdb:(x==("__debug__":Str))=false) (he:notStar a=true) (hpl:es.all notStar=true):DX fa X (.Call (.Name x p) (a::es) [] pos) (bL f call gs):=by
 rintro E s σ H Q I ⟨μ,Z,M,hE,hM,h⟩;unfold bL at h;cases eg:gs Z M with
 |err=>rw[eg] at h;exact h.elim
 |bad=>rw[eg] at h;exact h.elim
 | ok J S=>
   rw[eg] at h;have h:dG (call f J S) (a7 fa X.K μ H Q) (λx R=>XW fa X μ H x Z R):=h;rcases C f with hb|⟨ad,fd,ps,h1,h2,h3,h4,F,_⟩
   ·rw[hb] at h;exact h.elim
   ·have hl:J.length=ps.length:=by
     by_cases hl:J.length=ps.length
     ·exact hl
     ·rw[h4 J S hl] at h;exact h.elim
    refine wpAny_Call_Name_kw (fQ I hg (hm ad h1) ?_ hdb);refine Rv I.ok.mod.kin h2 (aQ (hs pos E s σ H (λY B=>∃j,Ext μ H j B/\RelM fa X.K j B S/\aG fa X.K j B J Y) I {μ,Z,M,hE,hM,by rw[eg];exact λY B j x1 m1 r1=>⟨j,x1,m1,r1⟩}) λus s1 ⟨Y,B,P,r,j,x1,m1,r1⟩=>{P.kIn,?_}) (bo he) (c4 hpl)
    have hsp:Du fa X.K ps.length (call f) Y B Q λCv dx L=>∃y R v C' c p,Cv=.ref C'/\Ext j B v L/\RelM fa X.K v L R/\y=.exc c p/\fa (c7 c)=some C'/\uz L c dx p/\XW fa X μ H y Z R:=by
     refine{by rw[r1.length];exact hl,j,S,J,m1,r1,?_}
     cases U:call f J S with
     |ok d M2=>rw[U] at h;exact a7.ext h x1
     |err y M2=>rw[U] at h;exact λC dx c p L v y' m ex hc hn=>{_,M2,v,C,c,p,rfl,y',m,ex,hc,hn,h}
     |bad=>rw[U] at h;exact h.elim
    have hl2:us.length=ps.length:=by rw[<- r.length,r1.length];exact hl
    have hb:=h3 s1 us P.kIn (by simpa using hl2)
    rw[Qz] at hb;refine wpAny_call (codeAny_mono (F.run X.A X.stack s1 B {us,[]} us Y Q _ hr P.env0 hb r hsp) λr' s' O=>?_);cases r' with
    | error e=>
      unfold CR at O;obtain⟨a',C',dx,L,rfl,I',fl,y,R,v,C2,c,p,U,ye,m',ey,hc,hn,hw⟩:=qM P hex O;cases U;exact hw E σ L v s' a' C' dx c p I' (x1.trans ye) ((hE.ext x1).ext ye) m' ey hc hn fl
    | ok fl=>
      cases fl with
      |ret u=>exact P.after O
      |next=>exact False.elim O
      |brk=>exact False.elim O
      |cont=>exact False.elim O
def ER (f:Nat){call:Call}(C:∀f,gA fa X.prog X.w X.K X.mg X.base n f (call f))(hr:b5 (2*n+4) X.A)(hex:X.ex=[])(hg:Gl X x)(hm:∀ad,fa f=some ad->X.mg x=some (.ref ad))(hdf:(fa (500+f)).isSome=true)(hs:DE fa X a ga)
 (hdb:(x==("__debug__":Str))=false) (he:notStar a=true):DX fa X (.Call (.Name x p) [a] [] pos) (bL f call (aM ga (aM (gC .non) ba))):=by
 rintro J s σ H Q I ⟨μ,Z,M,hE,hM,h⟩;unfold bL at h;cases eg:ga Z M with
 |err=>unfold aM at h;rw[eg] at h;exact h.elim
 |bad=>unfold aM at h;rw[eg] at h;exact h.elim
 | ok O U=>
   unfold aM at h;rw[eg] at h;have h:dG (call f [O,.non] U) (a7 fa X.K μ H Q) (λx S=>XW fa X μ H x Z S):=h;rcases C f with hb|⟨ad,fd,ps,h1,h2,h3,h4,F,hbd⟩
   ·rw[hb] at h;exact h.elim
   ·have hl:2=ps.length:=by
     by_cases hl:2=ps.length
     ·exact hl
     ·rw[h4 [O,.non] U hl] at h;exact h.elim
    refine wpAny_Call_Name_kw (fQ I hg (hm ad h1) ?_ hdb);refine Rv I.ok.mod.kin h2 (aQ (bE hs cx (bo he) pos J s σ H (λvs E=>∃v j,vs=[v]/\Ext μ H j E/\RelM fa X.K j E U/\Rep fa X.K j E O v) I {μ,Z,M,hE,hM,by rw[eg];exact λv E j x1 m1 r1=>⟨v,j,rfl,x1,m1,r1⟩}) λus s1 ⟨vs,E,R,r,v0,j,ev,x1,m1,r0⟩=>{R.kIn,?_}) (bo he) (c4 rfl)
    subst ev;have r1:aG fa X.K j E [O,.non] [v0,.non]:={v0,[.non],rfl,r0,.non,[],rfl,rfl,rfl};have hsp:Du fa X.K ps.length (call f) [v0,.non] E Q λCv dx L=>∃y S B C' c p,Cv=.ref C'/\Ext j E B L/\RelM fa X.K B L S/\y=.exc c p/\fa (c7 c)=some C'/\uz L c dx p/\XW fa X μ H y Z S:=by
     refine{hl,j,U,[O,.non],m1,r1,?_};cases Y:call f [O,.non] U with
     |ok d M2=>rw[Y] at h;exact a7.ext h x1
     |err y M2=>rw[Y] at h;exact λC dx c p L B y' m ex hc hn=>{_,M2,B,C,c,p,rfl,y',m,ex,hc,hn,h}
     |bad=>rw[Y] at h;exact h.elim
    have hl2:=r.length.symm;have hb:=hbd hdf s1 us R.kIn (by rw[Pt,hl2];exact hl)
    obtain⟨u0,rfl⟩:∃u0,us=[u0]:=List.length_eq_one_iff.mp hl2;have r2:Vals [v0,.non] [u0,.none]:=by cases r with|cons a _=>exact .cons a (.cons rfl .nil)
    refine wpAny_call (codeAny_mono (F.run X.A X.stack s1 E {[u0],[]} [u0,.none] [v0,.non] Q _ hr R.env0 hb r2 hsp) λr' s' P=>?_);cases r' with
    | error e=>
      unfold CR at P;obtain⟨a',C',dx,L,rfl,I',fl,y,S,B,C2,c,p,Y,ye,m',ey,hc,hn,hw⟩:=qM R hex P;cases Y;exact hw J σ L B s' a' C' dx c p I' (x1.trans ye) ((hE.ext x1).ext ye) m' ey hc hn fl
    | ok fl=>
      cases fl with
      |ret u=>exact R.after P
      |next=>exact False.elim P
      |brk=>exact False.elim P
      |cont=>exact False.elim P
def Ld (U:DT fa X c ta)(R:DX fa X a ga)(S:DX fa X b gb):DX fa X (.IfExp c a b pos) (xp ta ga gb):=
 bx (sJ U R S) λY H Q ⟨E,j,M,I,P,h⟩=>by
  unfold xp at h;cases u:ta j M with
  |err=>rw[u] at h;exact h.elim
  |bad=>rw[u] at h;exact h.elim
  | ok k v=>
    rw[u] at h;refine{E,j,M,I,P,?_};rw[u];intro J F B W;have go:∀g:GE,dG (g j v) (a7 fa X.K E H Q) (λx L=>XW fa X E H x j L)->MZ fa X g Y J Q:=λg q=>by
     refine{F,j,v,I.ext B,W,?_};cases e:g j v with
     |ok d O=>rw[e] at q;exact a7.ext q B
     |err y O=>rw[e] at q;exact XW.ext q B
     |bad=>rw[e] at q;exact q
    cases k with
    |true=>exact go ga h
    |false=>exact go gb h
def Lu (J:DX fa X a ga)(hs:swapsWith a none pos.line X.env=pure false):DS fa X (.Expr a pos) (eF ga):=
 dm (jK J hs) λQ P H ⟨O,B,M,u,I,h⟩=>{O,B,M,u,I,by
  unfold eF at h;cases e:ga B M with
  |ok d F=>rw[e] at h;exact λv E j y L r1=>h P E j y (u.ext y) L
  |err x F=>rw[e] at h;exact h
  |bad=>rw[e] at h;exact h.elim}
def Ie (S:DX fa X a ga)(U:PG X tg (gT fa X.K t))(hs:swapsWithSole [tg] a pos.line X.env=pure false)(W:swappedStores [tg] a X.env=pure none)(h1:(assignEach [tg] X.env).map (·.2)=[assign tg X.env]) :
 DS fa X (.Assign [tg] a pos) (fz t ga):=
 dm (nO S U hs W h1) λD σ H ⟨Y,y,M,J,R,h⟩=>{Y,y,M,J,R,by
  unfold fz at h;cases e:ga y M with
  | ok d Q=>
    rw[e] at h;obtain⟨F,M2,u,q⟩:=aI h;cases B:b4 t d y with
    |none=>rw[B] at u;cases u
    | some ρ2=>
      rw[B] at u;cases u;exact λv P j O L r1=>{j,y,_,d,F,J.ext O,L,r1,B,λI E=>q I P j O E L}
  |err x Q=>rw[e] at h;exact h
  |bad=>rw[e] at h;exact h.elim}
def Ia (B:DX fa X a ga):DS fa X (.Return (some a) pos) (wB ga):=
 dm (yX B) λF I H ⟨E,j,M,v,y,h⟩=>{E,j,M,v,y,by
  unfold wB at h;cases e:ga j M with
  |ok d u=>rw[e] at h;exact h
  |err x u=>rw[e] at h;exact h
  |bad=>rw[e] at h;exact h.elim}
end
noncomputable abbrev mF:List O3:=[.type "ValueError",.type "Exception",.type "BaseException",.type "object"]
noncomputable def H8 (K:O0)(C:Addr)(f:ClassData->Addr->List O3->String->Bool):Bool:=match K.lookup C with
 | some {.type "type",_,.cls h,sl}=>(match h.mro,sl.toList with
   |.ref j::bm,[_,_,_,_,some (.builtin n),_]=>f h j bm n
   |_,_=>false)
 |_=>false
set_option tactic.hygienic true in
def yO {K:O0}(X:K.In h)(q:H8 K C f=true) :
 ∃u N nm q bs hdct sn sub ab col dd k0 k1 k2 k3 k5 dl n j,f {nm,bs,.ref j::u,N,q,hdct,sn,sub,ab,col,dl} j u n=true/\h.get? C=some {.type "type",dd,.cls {nm,bs,.ref j::u,N,q,hdct,sn,sub,ab,col,dl},#[k0,k1,k2,k3,some (.builtin n),k5]}:=by
 unfold H8 at q;split at q
 ·rename_i dd y sl ho;split at q
  ·rename_i j u k0 k1 k2 k3 n k5 hm hs;obtain⟨nm,bs,B,ns,qn,hd,sn,sub,ab,col,del⟩:=y;subst hm;have v:sl=#[k0,k1,k2,k3,some (.builtin n),k5]:=by
    obtain⟨l⟩:=sl;simp only at hs;rw[hs]
   subst v;exact{_,_,_,_,_,_,_,_,_,_,_,_,_,_,_,_,_,_,_,q,X _ _ ho}
  ·cases q
 ·cases q
def Ct {K:O0}(X:K.In h)(q:PySem.W.excIn K C bmB newId=true) :
 ∃j N nm q bs hdct sn sub ab col dd k0 k1 k2 k3 k5 v,h.get? C=some (excClassObj nm q C N bs j hdct sn sub ab col dd k0 k1 k2 k3 k5 newId)/\h.Ns N v/\v "__init__"=none/\OwnTail h bmB j:=by
 obtain⟨j,ns,nm,qn,bs,hd,sn,sub,ab,col,dd,k0,k1,k2,k3,k5,dl,n,B,q,ho⟩:=yO X q;simp only[O2,beq_iff_eq,Q2] at q;obtain⟨⟨⟨⟨⟨rfl,rfl⟩,rfl⟩,y⟩,hok⟩,u⟩:=q;exact{j,ns,nm,qn,bs,hd,sn,sub,ab,col,dd,k0,k1,k2,k3,k5,_,ho,.of_isNs (PySem.W.isNs_of_in X hok),PySem.W.nsMap_none_of_in X hok u,PySem.W.tail_of_in X y}
def zk (x:dF P w H h a o):∃ob,h.get? a=some ob:=by
 cases o with
 |lst xs=>obtain⟨_,_,_,_,e⟩:=x;exact{_,e}
 |tup xs=>obtain⟨_,_,_,ob,e,_⟩:=x;exact{_,e}
 |dK j=>obtain⟨_,_,_,_,o,_,_,e,_⟩:=x;exact{_,e}
 |dT j=>obtain⟨_,_,_,_,o,_,_,e,_⟩:=x;exact{_,e}
 |set S n=>obtain⟨o,_,_,_,e,_⟩:=x;exact{_,e}
 |ins C v fs=>obtain⟨_,_,_,e,_⟩:=x;exact{_,e}
 |own y=>exact x
 |xd fs=>obtain⟨_,⟨_,_,_,e,_⟩,_⟩:=x;exact{_,e}
 |rng lo B=>obtain⟨_,_,_,e⟩:=x;exact{_,e}
 |frz ob u=>obtain⟨e,_⟩:=x;exact{_,e}
 |tbl ps=>exact{_,x}
 |met f y=>exact{_,x}
 |ext E=>obtain⟨_,e,_⟩:=x;exact e
 |dn es=>obtain⟨_,_,o,e,_⟩:=x;exact⟨o,e⟩
def ng (I:Inv X pins σ H s)(h:X.ex=[])(hn:s.heap.get? e=none):nz X e/\H e=none:=by
 refine{{?_,λp v z=>?_},?_}
 ·cases q:X.s₀.heap.get? e with
  |none=>rfl
  | some o=>
    obtain⟨y,j⟩:=I.base.there e o q (by rw[h];simp)
    rw[hn] at j;cases j
 ·have:=(I.pin p (Qm _ v)).1;rw[z,hn] at this;cases this
 ·cases q:H e with
  |none=>rfl
  | some u=>
    obtain⟨ob,z⟩:=zk (I.hok e u q);rw[hn] at z;cases z
section
variable{fa:Fa}{X:Cx}{a b:Expr}{ga gb:GE}{ta:GT}{pos p:Pos}{es:List Expr}{gs:GA}{n:Nat}
set_option tactic.hygienic true in
def Fv (c:Nat){x:Str}(hx:∃C,X.mg x=some (.ref C)/\fa (c7 c)=some C/\PySem.W.excIn X.K C mF "ValueError.__new__"=true)(O:X.ex=[])(hg:Gl X x)(hc:X.calm=true)(hs:DA fa X (a::es) gs)
 (L:(x==("__debug__":Str))=false) (he:notStar a=true) (U:es.all notStar=true):DS fa X (.Raise (some (.Call (.Name x np) (a::es) [] cpos)) none pos) (eE c gs):=by
 rintro u s σ H D' I ⟨μ,Z,M,hE,hM,h⟩;obtain⟨C,R,P,Q⟩:=hx;obtain⟨bm,N,nm,q,bs,hdct,sn,sub,ab,col,dd,k0,k1,k2,k3,k5,mN,hC,hN,S,T⟩:=Ct I.ok.mod.kin Q;unfold eE at h;cases B:gs Z M with
 |err=>rw[B] at h;exact h.elim
 |bad=>rw[B] at h;exact h.elim
 | ok ds M1=>
   rw[B] at h;dsimp only at h;split at h
   ·next hz=>
    refine wpAny_Raise_call_subT (nm:=nm) (q:=q) (N:=N) (bs:=bs) (hdct:=hdct) (sn:=sn) (sub:=sub) (ab:=ab) (col:=col) (dd:=dd) (k0:=k0) (k1:=k1) (k2:=k2) (k3:=k3) (k5:=k5) PySem.F.excBase_ValueError (T.hasType `k) (I.ok.hd hc) (c4 (by simp[he,U])) S (fQ I hg R {rfl,?_} L)
    have ar:=aQ (hs cpos u s σ H (λvs v=>∃j,Ext μ H j v/\RelM fa X.K j v M1/\aG fa X.K j v ds vs) I {μ,Z,M,hE,hM,by rw[B];exact λvs v j J Y r1=>⟨j,J,Y,r1⟩}) (Q':=λus s2=>([]:List (Str×O3))=[]/\us.length<=sizeLine/\s2.heap.get? C=some (excClassObj nm q C N bs bm hdct sn sub ab col dd k0 k1 k2 k3 k5 "ValueError.__new__")/\s2.heap.Ns N mN/\OwnTail s2.heap mF bm/\∀E e,Heap.MadeExcOf s2.heap E e (.ref C) us->X.xe (.ref e) {s2 with heap:=E}) λus s1 ⟨vs,v,y,r,j,J,Y,r1⟩=>by
     refine{rfl,?_,y.bk _ _ hC,hN.keeps y.bk,T.keeps y.bk,λE e hm=>?_}
     ·rw[<- r.length,r1.length,<- cJ];exact hz
     ·obtain⟨t,ht,_,_⟩:=hm.there;obtain⟨n1,n2⟩:=ng y O hm.new;exact h u σ v j {s1 with heap:=E} e C none c none (y.kept hm.keeps) J (hE.ext J) Y rfl P rfl {n1,n2,_,_,ht,rfl,rfl,rfl,.inl rfl}
    rw[bo he] at ar ⊢;exact PySem.Calls.evalArgs_plain ar
   ·exact h.elim
end
structure j4 (fa:Fa) (K:O0):Prop where
 g:∀c C,fa (c7 c)=some C->hX K C=true/\PySem.W.mroIn K C (.type "ValueError")=some true/\PySem.W.isIn K (.ref C) C=true
 d:∀c C D,fa (c7 c)=some C->fa 999=some D->PySem.W.isIn K (.ref C) D=true/\PySem.W.mroIn K C (.ref D)=some true/\PySem.W.mroIn K D (.type "BaseException")=some true/\PySem.W.typeIn K (.ref D)=some (.type "type")
 n:∀c C c' C',fa (c7 c)=some C->fa (c7 c')=some C'->c'≠c->PySem.W.kin_not K C C'=true
 z:∀c C,fa (c7 c)=some C->(PySem.W.clsIn K C).isSome=true/\PySem.W.typeIn K (.ref C)=some (.type "type")
section
variable{fa:Fa}{X:Cx}{pins:List (Addr×Obj)}{σ:L2.St}{H:Hp}{s:O8}{μ:Mu}
def md (I:Inv X pins σ H s)(r:Rep fa X.K μ H (.exc c p) v):∃a C u od,v=.ref a/\fa (c7 c)=some C/\Q5 s.heap a u C od:=by
 obtain⟨a,C,y,rfl,hf,j,hn⟩:=r;obtain⟨⟨o,L,h1,h2,h3,h4,F⟩,_,_⟩:=I.hok a _ j;have h:PySem.W.notCls o=true:=by unfold PySem.W.notCls;rw[h4]
 cases p with
 | none=>
   exact{a,C,o,none,rfl,hf,h1,h2,h,by rw[h3,hn];trivial}
 | some i=>
   obtain⟨d,rfl,hd⟩:=hn;obtain⟨J,⟨od,E,B,e,_⟩,_⟩:=I.hok d _ hd;exact{a,C,o,some od,rfl,hf,h1,h2,h,by rw[h3];exact e}
def nN (fa:Fa)(K:O0)(o:Option Nat)(w:V)(xs:List V)(H:Hp)(Q:VK):Prop:=(∃μ c p v,xs=[v,w]/\Rep fa K μ H (.exc c p) v/\Q (.bl (match o with|some k=>k==c|none=>true)) H)\/(o.isSome=true/\xs=[.non,w]/\Q (.bl false) H)
def Gw (y:j4 fa X.K){D:Addr}(j:fa (c7 k)=some D):cb X (.builtin "isinstance") (nN fa X.K (some k) (.ref D)):=by
 intro pins s σ H xs L Q I r h;obtain⟨μ,c,p,v,rfl,F,q⟩|⟨_,rfl,q⟩:=h
 case inr=>
  obtain⟨u,w,rfl,r1,r2⟩:=vals2 r;obtain rfl:w=Value.ref D:=r2;obtain rfl:u=Value.none:=r1;exact BV I.kIn (y.z k D j).1 (y.z k D j).2 {.bl false,H,I.tok _,rfl,q}
 obtain⟨u,w,rfl,r1,r2⟩:=vals2 r;obtain rfl:w=Value.ref D:=r2;obtain⟨a,C,J,od,rfl,hf,E⟩:=md I F;obtain rfl:u=Value.ref a:=r1;dsimp only at q;by_cases B:k=c
 ·subst B;rw[j] at hf;cases hf;rw[beq_self_eq_true] at q;exact PySem.W.isi_call I.kIn (λM=>E.type) (y.g k D j).2.2 (by intro z;cases z) {.bl true,H,I,rfl,q}
 ·rw[P7.mpr B] at q;exact Cr I.kIn E (y.g c C hf).1 (y.n c C k D hf j B) {.bl false,H,I.tok _,rfl,q}
def Gz (B:j4 fa X.K){D:Addr}(y:fa 999=some D):cb X (.builtin "isinstance") (nN fa X.K none (.ref D)):=by
 intro pins s σ H xs J Q I r h;obtain⟨μ,c,p,v,rfl,E,q⟩:=h.resolve_right λz=>nomatch z.1;obtain⟨u,w,rfl,r1,r2⟩:=vals2 r;obtain rfl:w=Value.ref D:=r2;obtain⟨a,C,F,od,rfl,hf,j⟩:=md I E;obtain rfl:u=Value.ref a:=r1;exact PySem.W.isi_call I.kIn (λM=>j.type) (B.d c C D hf y).1 (by intro z;cases z) {.bl true,H,I,rfl,q}
def Gx (y:j4 fa X.K):cb X (.builtin "isinstance") (nN fa X.K none (.ty "ValueError")):=by
 intro pins s σ H xs F Q I r h;obtain⟨μ,c,p,v,rfl,B,q⟩:=h.resolve_right λz=>nomatch z.1;obtain⟨u,w,rfl,r1,r2⟩:=vals2 r;obtain rfl:w=Value.type "ValueError":=r2;obtain⟨a,C,E,od,rfl,hf,j⟩:=md I B;obtain rfl:u=Value.ref a:=r1;exact GF I.kIn j (by kernel_rfl) (y.g c C hf).2.1 {.bl true,H,I,rfl,q}
end
section
variable{fa:Fa}{X:Cx}{a:Expr}{ga:GE}{pos p1 p2:Pos}{x:Str}
def pN (h:tE fa X.K (dt o ga) σ H Q):tE fa X.K ga σ H λv y=>nN fa X.K o w [v,w] y Q:=by
 obtain⟨μ,L,M,E,I,h⟩:=h;exact t1 E I h λx J v y u B F j r1 h1=>by
  cases x with
  |exc c p=>exact .inl {u,c,p,v,rfl,r1,aN j (a7.ext h1 B) rfl}
  | non=>
    cases o with
    | some k=>
      obtain rfl:v=.non:=r1;exact .inr {rfl,rfl,aN j (a7.ext h1 B) rfl}
    |none=>exact h1.elim
  |_=>exact h1.elim
def ph (k:Nat)(B:j4 fa X.K)(F:∃D,X.mg x=some (.ref D)/\fa (c7 k)=some D)(y:DE fa X a ga)(E:Gl X "isinstance")(hm:X.mg "isinstance"=none)(u:Gl X x)(j:(x==("__debug__":Str))=false)
 (he:starEach [a,.Name x p1] X.env=(false,eval a X.env)::starEach [.Name x p1] X.env):DE fa X (.Call (.Name "isinstance" p2) [a,.Name x p1] [] pos) (dt (some k) ga):=by
 obtain⟨D,h1,h2⟩:=F;exact bx (eG (Gw B h2) E hm `k (bE y (bE (eU u h1 (v:=.ref D) rfl j) cx `r) he) `d `d he `r) λσ H Q h=>pN h
def FD (B:j4 fa X.K)(F:∃D,X.mg x=some (.ref D)/\fa 999=some D)(y:DE fa X a ga)(E:Gl X "isinstance")(hm:X.mg "isinstance"=none)(u:Gl X x)(j:(x==("__debug__":Str))=false)
 (he:starEach [a,.Name x p1] X.env=(false,eval a X.env)::starEach [.Name x p1] X.env):DE fa X (.Call (.Name "isinstance" p2) [a,.Name x p1] [] pos) (dt none ga):=by
 obtain⟨D,h1,h2⟩:=F;exact bx (eG (Gz B h2) E hm `k (bE y (bE (eU u h1 (v:=.ref D) rfl j) cx `r) he) `d `d he `r) λσ H Q h=>pN h
def FA (B:j4 fa X.K)(y:DE fa X a ga)(E:Gl X "isinstance")(hm:X.mg "isinstance"=none)(j:Gl X "ValueError")(u:X.mg "ValueError"=none)
 (he:starEach [a,.Name "ValueError" p1] X.env=(false,eval a X.env)::starEach [.Name "ValueError" p1] X.env):DE fa X (.Call (.Name "isinstance" p2) [a,.Name "ValueError" p1] [] pos) (dt none ga):=
 bx (eG (Gx B) E hm `k (bE y (bE (ve j u `k (v:=.ty "ValueError") rfl) cx `r) he) `d `d he `r) λσ H Q h=>pN h
end
set_option tactic.hygienic true in
def uN {K:O0}{x C D:Addr}(X:K.In s.heap)(I:Q5 s.heap x ox C od)
 (y:PySem.W.mroIn K D (.type "BaseException")=some true) (O:PySem.W.typeIn K (.ref D)=some (.type "type")) (hs:PySem.W.mroIn K C (.ref D)=some true) (h:Q true s):wpAny (model prog w) A (excMatches (.ref x) (.ref D)) Q E s:=by
 obtain⟨P,g,d,t,os⟩:=s;have v:=PySem.W.looks_mroIn (M:=model prog w) X hs;have B:=PySem.W.looks_mroIn (M:=model prog w) X y;have J:=PySem.W.looks_typeIn (M:=model prog w) X O;have f:=tc_notTuple;obtain⟨cd,u,_⟩:=Px.mp y;unfold PySem.W.clsIn at u;split at u
 ·rename_i c' d' L R ho;have j:=X _ _ ho;have F:PySem.W.Looks (model prog w) P (isType (.ref D)) true:=λS Y U s' k q=>by
   exact tqa (wpAny_loadPart (k _ _ j) (tqb q))
  refine tqa (tqa (J.at (wpAny_of_eq f ?_)))
  repeat (first|with_reducible refine tqa (F.at ?_)|with_reducible refine B.at ?_|with_reducible refine v.at ?_|with_reducible refine wpAny_loadPart_at I.at_ ?_|wp_step)
  rw[I.cls];refine v.at ?_
  repeat (first|exact h|wp_step)
 ·cases u
def xt (f:lR New C dx a s.heap H)(h:Q () s):wpAny M A (setFlight (.ref a) none) Q E s:=by
 obtain⟨_,_,o,F,h1,_,_,h4,B⟩:=f;rcases B with t|⟨T,y,ts,t1,_,_,_,j,u,v⟩
 ·refine tqa (tqf h1 h4 t ?_);rw[if_neg `d]
  exact tqb h
 ·refine tqa (tqf h1 h4 t1 ?_);rw[if_pos `s]
  refine wpAny_setField j u (P4.mp v).1 ?_;have e:=Heap.update_setField_same s.heap T y ts 3 .none j u v;show Q () {s with heap:=s.heap.update T (Obj.mapFields (·.setIfInBounds 3 .none))}
  rw[e];exact h
section
variable{X:Cx}{pins:List (Addr×Obj)}{σ:L2.St}{H:Hp}{s:O8}
def vH (I:Inv X pins σ H s)(W:X.N.Nodup)(hi:X.N[i]?=some x)(hk:X.env.scope.names.lookup x=some .local)
 (h:∀R,Inv X pins (σ.set i none) H R->Q () R):wpAny M A (do bindName X.env x .none;unbindBehindTheSuite X.env x ps) Q E s:=by
 obtain⟨m,hn,hl⟩:=id I.loc;have B:(X.env.scope.kind==.class||(X.env.scope.kind==.module&&X.env.locals != X.env.globals))=false:=by rw[I.ok.kind];rfl
 refine wpAny_nameGoes_keeps hk hn B λh' v P hs=>h _ ?_;obtain⟨oL,_,_,Y,_⟩:=id hn;have n0:∀b o,X.s₀.heap.get? b=some o->b≠X.env.locals:=λb o e=>PH (Pu (Po e) I.ok.above);refine{I.ok,I.os,I.bare,{λb o e n L J=>?_,λb o e n L J=>?_,I.base.free,λb o e J=>?_,I.base.tups,I.base.frzs,I.base.tbls},{_,P,λj y v' e1 e2 U=>?_},λy c e=>?_,I.free,I.freeC,λp hp=>?_,λb ob e=>?_,by simpa using I.len}
 ·exact(hs.2 b (n0 b o e)).trans (I.base.keep b o e n L J)
 ·obtain⟨sl,e1⟩:=I.base.slot b o e n L J;exact{sl,(hs.2 b (n0 b o e)).trans e1}
 ·obtain⟨o',e1⟩:=I.base.there b o e J;exact{o',(hs.2 b (n0 b o e)).trans e1}
 ·by_cases O:j=i
  ·subst O;by_cases F:j<σ.length
   ·rw[PK F] at e2;cases e2
   ·rw[QV (by simpa using F)] at e2;cases e2
  ·rw[Pc (Qi O)] at e2;obtain⟨u',r',q⟩:=hl j y v' e1 e2 U;refine{u',r',?_};rcases q with⟨k,e⟩|⟨k,c,e,z⟩
   ·refine .inl {k,?_};have:y≠x:=λe=>O (mV W e1 (e ▸ hi));simp[this,e]
   ·exact .inr {k,c,e,z.sameBut hs (I.cne y c e)}
 ·obtain⟨S,z⟩:=I.cell y c e;exact{S,z.sameBut hs (I.cne y c e)}
 ·obtain⟨e,n,ne,nf,d⟩:=I.pin p hp;exact{(hs.2 p.1 ne).trans e,n,ne,nf,d}
 ·refine(I.hok b ob e).stay (λc S u q=>(hs.2 c ?_).trans q) (λ_ q=>q) λ_ _ q=>q;rintro rfl;rcases u with u|u
  ·rw[<- u,I.free] at e;cases e
  ·rw[I.free] at u;cases u
noncomputable abbrev rO (X:Cx)(pn:List (Addr×Obj))(E:O3->O8->Prop):Cx:={X with pn:=pn,xe:=E}
noncomputable abbrev rP (X:Cx)(v:O3)(E:O3->O8->Prop):Cx:={X with A:=X.A.mark (some v),calm:=false,xe:=E}
def zS (I:Inv X pins σ H s)(E:O3->O8->Prop):Inv (rO X (X.pn++pins) E) [] σ H s:=
 {⟨I.ok.mod,I.ok.kind,I.ok.glob,I.ok.blt,I.ok.above,I.ok.inj,I.ok.has,I.ok.cab,I.ok.hd,I.ok.frames,I.ok.stk,I.ok.exf,I.ok.bs,I.ok.bsz,I.ok.noex,I.ok.exfs,I.ok.funs,I.ok.frf⟩,I.os,I.bare,I.base,I.loc,I.cell,I.free,I.freeC,λp hp=>I.pin p (by simpa using hp),I.hok,I.len}
def hJ (I:Inv (rO X (X.pn++pins) E) pins' σ H s):Inv X pins σ H s:=
 {⟨I.ok.mod,I.ok.kind,I.ok.glob,I.ok.blt,I.ok.above,I.ok.inj,I.ok.has,I.ok.cab,I.ok.hd,I.ok.frames,I.ok.stk,I.ok.exf,I.ok.bs,I.ok.bsz,I.ok.noex,I.ok.exfs,I.ok.funs,I.ok.frf⟩,I.os,I.bare,I.base,I.loc,I.cell,I.free,I.freeC,λp hp=>I.pin p (Qm _ hp),I.hok,I.len}
def qK (I:Inv X pins σ H s)(v:O3)(E:O3->O8->Prop):Inv (rP X v E) pins σ H s:=
 {{I.ok.mod,I.ok.kind,I.ok.glob,I.ok.blt,I.ok.above,I.ok.inj,I.ok.has,I.ok.cab,(λz=>nomatch z),I.ok.frames,I.ok.stk,I.ok.exf,I.ok.bs,I.ok.bsz,I.ok.noex,I.ok.exfs,I.ok.funs,I.ok.frf},I.os,I.bare,I.base,I.loc,I.cell,I.free,I.freeC,I.pin,I.hok,I.len}
def qL (hh:X.calm=true->X.A.handled=none)(I:Inv (rP X v E) pins σ H s):Inv X pins σ H s:=
 {⟨I.ok.mod,I.ok.kind,I.ok.glob,I.ok.blt,I.ok.above,I.ok.inj,I.ok.has,I.ok.cab,hh,I.ok.frames,I.ok.stk,I.ok.exf,I.ok.bs,I.ok.bsz,I.ok.noex,I.ok.exfs,I.ok.funs,I.ok.frf⟩,I.os,I.bare,I.base,I.loc,I.cell,I.free,I.freeC,I.pin,I.hok,I.len}
end
section
variable{fa:Fa}{X:Cx}{pos np hp:Pos}{x nm:Str}{i:Nat}{body suite:List Stmt}{b0:Stmt}{gB gH:GS}
def bc.unset {K:O0}(h:bc fa K μ H σ Z)(i:Nat):bc fa K μ H (σ.set i none) (Z.set i none):=by
 refine{by simp[h.len],λj d e=>?_}
 by_cases u:j=i
 ·subst u;by_cases hl:j<Z.length
  ·rw[PK hl] at e;cases e
  ·rw[QV (by simpa using hl)] at e;cases e
 ·rw[Pc (Qi u)] at e;obtain⟨v,h1,h2⟩:=h.at' j d e;exact{v,by rw[Pc (Qi u)];exact h1,h2}
set_option tactic.hygienic true in
def Lr (hc:j4 fa X.K)(hx:∃D,X.mg x=some (.ref D)/\fa 999=some D)(hex:X.ex=[])(J:X.stack=X.env::X.outer)(hfr:X.env.frame=some X.env.locals)(hN:X.N.Nodup)(hi:X.N[i]?=some nm)(hl:X.env.scope.names.lookup nm=some .local)
 (hg:Gl X x) (hdb:(x==("__debug__":Str))=false) (hb:∀pn E,j7 fa (rO X pn E) body gB) (hh:∀v E,j7 fa (rP X v E) (b0::suite) gH) :
 DS fa X (.Try body [.ExceptHandler (some (.Name x np)) (some nm) (b0::suite) hp] [] [] pos) (sv gB i gH):=by
 rintro pins s σ H D' I ⟨μ,Z,M,hE,hM,h⟩;obtain⟨D,hmD,hfD⟩:=hx;obtain⟨fl,M1,e,q⟩:=aI h;refine wpAny_Try_except (wpAny_mono (hb (X.pn++pins) (λe s₁=>wpAny (model X.prog X.w) X.A (noteFrame e X.env) (λ_ s₂=>wpAny (model X.prog X.w) X.A (setFlight e none) (λ_ s₃=>wpAny (model X.prog X.w) X.A (handleBy e X.env [.ExceptHandler (some (.Name x np)) (some nm) (b0::suite) hp]) (SP X pins D') X.xe s₃) X.xe s₂) X.xe s₁) [] s σ H D' (zS I _) {μ,Z,M,hE,hM,?_}) (λf s1 z=>?_) λ_ _ z=>z)
 ·rw[e];cases fl with
  |next ρ'=>exact q
  |ret d=>exact q
  | exc y ρ1=>
    intro pins' σ' U L s' a C S c p R ye hE1 hM1 ey hcC hn fl;have hall:=fl.1.2;refine vi (by rw[<- J];exact R.ok.frames) (by rw[<- J];exact R.stack) hfr fl (λb z=>(ng R hex (Rr z)).1) R.hok (by rw[<- J];exact R.stkFree) λh' ch P u hok fl2=>?_
    have Y:=Ci (hJ R) (λb hb=>{(P b hb).1.1,(P b hb).2.2,(P b hb).1.2}) (by rw[J];exact u) hok
    have O:=hc.d c C D hcC hfD;obtain⟨nw,ha,o,vs,h1,h2,h3,h4,tr⟩:=id fl2;have hxat:wd C S a h':={o,vs,h1,h2,h3,h4,by
     rcases tr with t|⟨T,oT,ts,t,_⟩
     ·exact(P4.mp t).1
     ·exact(P4.mp t).1}
    have hnc:PySem.W.notCls o=true:=by unfold PySem.W.notCls;rw[h4]
    refine wpAny_handleBy_cons (codeAny_handlers_test (fQ (qK Y (.ref a) X.xe) hg hmD ?_ hdb)) (by intro z;cases z)
    have IA:∃od,Q5 h' a o C od:=by
     cases p with
     | none=>
       exact{none,h1,h2,hnc,by rw[h3,hn];trivial}
     | some k=>
       obtain⟨d,rfl,hd⟩:=hn;obtain⟨mA,⟨od,es,ep,ed,_⟩,_⟩:=hok d _ hd;exact{some od,h1,h2,hnc,by rw[h3];exact ed}
    obtain⟨od,IA⟩:=IA;refine uN Y.kIn IA O.2.2.1 O.2.2.2 O.2.1 ?_;refine codeAny_handlers_suite_as (xt fl2 ?_);have I3:Inv X pins σ' (upd U a (.ext (wd C S a))) {s' with heap:=h'}:=qJ Y hex ha nw.1 ⟨o,vs,h1,h4⟩ hall {hxat,⟨o,h1⟩,(by rintro g1 g2 ⟨o,vs,k1,k2⟩ kk;exact{o,vs,kk o k1,k2})}
    have xa:Ext L U L (upd U a (.ext (wd C S a))):=Ext.alloc hM1 ha;have rp:Rep fa X.K L (upd U a (.ext (wd C S a))) y (.ref a):=by
     rw[ey];refine{a,C,S,rfl,hcC,bJ,?_};cases p with
     |none=>exact hn
     |some k=>exact let⟨d,z1,z2⟩:=hn;{d,z1,by rw[ao (aS z2 ha)];exact z2}
    refine sj I3 hN hi (.inl hl) (v:=.ref a) rfl (λs4 I4=>?_) (.inr hl);obtain⟨fl3,M2,e3,q3⟩:=aI q;refine wpAny_mono (hh (.ref a) _ pins s4 (σ'.set i (some (.ref a))) (upd U a (.ext (wd C S a))) {nx:=λQ H2=>D'.nx (Q.set i none) H2,rt:=D'.rt} (qK I4 (.ref a) _) {L,_,M1,(hE1.ext xa).set rp,hM1.alloc ha,?_}) (λf s5 z=>?_) λ_ _ z=>z
    ·rw[e3];cases fl3 with
     |next ρ2=>exact λQ H2 μ2 x2 hE2 hM2=>q3 (Q.set i none) H2 μ2 ((ye.trans xa).trans x2) (hE2.unset i) hM2
     |ret d=>exact a7.ext q3 (ye.trans xa)
     |exc=>exact q3.elim
    ·dsimp only;cases f with
     | next=>
       obtain⟨j,B,F,z⟩:=z;exact vH (qL Y.ok.hd F) hN hi hl λs6 I6=>{_,B,I6,z}
     | ret u=>
       obtain⟨v,j,B,F,r5,z⟩:=z;exact vH (qL Y.ok.hd F) hN hi hl λs6 I6=>{v,_,B,I6,r5,z}
     |brk=>obtain⟨_,_,_,z⟩:=z;exact z.elim
     |cont=>obtain⟨_,_,_,z⟩:=z;exact z.elim
 ·cases f with
  |next=>obtain⟨j,B,F,z⟩:=z;exact wpAny_execs_nil {j,B,hJ F,z}
  |ret u=>obtain⟨v,j,B,F,r5,z⟩:=z;exact{v,j,B,hJ F,r5,z}
  |brk=>obtain⟨j,B,F,z⟩:=z;exact{j,B,hJ F,z}
  |cont=>obtain⟨j,B,F,z⟩:=z;exact{j,B,hJ F,z}
end
noncomputable def Hr (K:O0)(cl:List (Nat×Addr))(D:Addr):Bool:=PySem.W.mroIn K D (.type "BaseException")==some true&&PySem.W.typeIn K (.ref D)==some (.type "type") &&
 cl.all λq=>hX K q.2&&PySem.W.mroIn K q.2 (.type "ValueError")==some true&&((PySem.W.clsIn K q.2).isSome&&PySem.W.typeIn K (.ref q.2)==some (.type "type"))&&PySem.W.isIn K (.ref q.2) q.2&&PySem.W.isIn K (.ref q.2) D&&PySem.W.mroIn K q.2 (.ref D)==some true&&cl.all λr=>r.1==q.1||PySem.W.kin_not K q.2 r.2
noncomputable def tU (l cl:List (Nat×Addr))(D:Addr):Fa:=λi=>if i<999 then l.lookup i else if i=999 then some D else cl.lookup (i-1000)
set_option tactic.hygienic true in
noncomputable def lookup_mem:∀{l:List (Nat×Addr)}{c:Nat}{C:Addr},l.lookup c=some C->(c,C)∈l
 |[],_,_,h=>by cases h
 | (a,b)::r,c,C,h=>by
   rw[P5] at h;split at h
   ·next e=>cases h;rw[eq_of_beq e];exact Pn
   ·exact Pa _ (lookup_mem h)
def iI {D:Addr}(h:tU l cl D (c7 c)=some C):(c,C)∈cl:=by
 unfold tU c7 at h;rw[if_neg `a,if_neg `a,Qc] at h
 exact lookup_mem h
def Hq {K:O0}{D:Addr}(h:Hr K cl D=true):j4 (tU l cl D) K:=by
 unfold Hr at h;simp only[O2,beq_iff_eq,Pm,QN] at h;obtain⟨⟨h1,h2⟩,h3⟩:=h;refine{λc C e=>?_,λc C v e j=>?_,λc C y u e j n=>?_,λc C e=>(h3 _ (iI e)).1.1.1.1.2}
 ·obtain⟨⟨⟨⟨⟨⟨a1,a2⟩,_⟩,a3⟩,a4⟩,a5⟩,a6⟩:=h3 _ (iI e);exact⟨a1,a2,a3⟩
 ·obtain⟨⟨⟨⟨⟨a1,a2⟩,a3⟩,a4⟩,a5⟩,a6⟩:=h3 _ (iI e);cases j;exact⟨a4,a5,h1,h2⟩
 ·obtain⟨⟨⟨⟨⟨a1,a2⟩,a3⟩,a4⟩,a5⟩,a6⟩:=h3 _ (iI e);exact(a6 _ (iI j)).elim (λz=>absurd z n) id
end LD
namespace LD
open PySem PySem.Spec PyProof.Rows L2 PySem.SeqAt
def nF (M:Mem)(x:D):Option (List Bool):=(fg M x).bind boolsOf
def xr (a:GE):GE:=λh M=>(a h M).bind λx M=>match nF M x with
 |some bs=>.ok (.int (bs.count true)) M
 |none=>.bad
def xq (a:GE):GE:=λh M=>(a h M).bind λx M=>match nF M x with
 |some bs=>if true∈bs then .ok (.int (bs.idxOf true)) M else .bad
 |none=>.bad
noncomputable def n9:O3->Bool
 |.bool b=>b
 |_=>false
section
variable{fa:Fa}{X:Cx}
def eqT {bs:List Bool}(h:us=bs.map Value.bool):∀y,y∈us.toArray->EqAt A s y (.bool true) (n9 y):=λy u=>by
 have u:y∈us:=by simpa using u
 rw[h] at u;obtain⟨b,_,rfl⟩:=Pp.mp u;have e:=EqAt.bool_bool (A:=A) (s:=s) b true;have q:(b==true)=n9 (.bool b):=by cases b<;>rfl
 rw[<- q];exact e
def OE {bs:List Bool}:(bs.map Value.bool).countP n9=bs.count true:=by
 induction bs with
 |nil=>rfl
 |cons b r h=>cases b<;>simp[List.countP_cons,n9,h]
def qW:∀{us:List O3}{bs:List Bool},PyProof.Rows.LSm.BoolsAre us bs->us=bs.map Value.bool:=by
 intro us bs h;induction h with
 |nil=>rfl
 |cons _ _ u=>simp[u]
def NZ (fa:Fa)(K:O0)(x:V)(vs:List V)(H:Hp)(Q:VK):Prop:=∃v h bs p u,x=.ref p/\vs=[.bl true]/\cz K H p u/\aG fa K v H h u/\boolsOf h=some bs/\Q (.int (bs.count true)) H
def Lz (fa:Fa)(K:O0)(x:V)(vs:List V)(H:Hp)(Q:VK):Prop:=∃v h bs p u,x=.ref p/\vs=[.bl true]/\cz K H p u/\aG fa K v H h u/\boolsOf h=some bs/\true∈bs/\Q (.int (bs.idxOf true)) H
def JG:K1 X "list.count" (NZ fa X.K):=by
 intro O s σ H x vs v us Q I Y L h;obtain⟨μ,ds,bs,p,ws,rfl,rfl,S,U,R,q⟩:=h;cases Y;obtain⟨u,rfl,W⟩:=vals1 L;obtain rfl:u=Value.bool true:=W;obtain⟨y,L,⟨o,n,e1,e2,e3,P⟩,hz⟩:=I.list S;have M:=qW (lj R U L);obtain⟨oc,od,E,J⟩:=o;obtain rfl:oc=.type "list":=e2;obtain rfl:E=.seq y.toArray n:=P;refine call_meets PySem.F.slot_list_count {_,e1,rfl} PySem.F.entry_list_count (PySem.F.args_list_count_2 _ _) (PySem.SeqAt.list_countAt p y.toArray n od J (.bool true) n9) {e1,eqT M,?_};have B:y.toArray.toList.countP n9=bs.count true:=by rw[M,List.toList_toArray];exact OE
 exact{.int (bs.count true),H,I.tok _,{s.toks,by rw[B]},q}
def JF:K1 X "list.index" (Lz fa X.K):=by
 intro M s σ H x vs v us Q I rx B h;obtain⟨μ,ds,bs,p,ws,rfl,rfl,S,Y,P,hm,q⟩:=h;cases rx;obtain⟨u,rfl,ru⟩:=vals1 B;obtain rfl:u=Value.bool true:=ru;obtain⟨y,B,⟨o,n,e1,e2,e3,O⟩,U⟩:=I.list S;have E:=qW (lj P Y B);obtain⟨oc,od,J,L⟩:=o;obtain rfl:oc=.type "list":=e2;obtain rfl:J=.seq y.toArray n:=O;have hl:=List.idxOf_lt_length_of_mem hm;have R:y.length=bs.length:=by rw[E];simp
 have W:y.length<=sizeLine:=by rw[<- B.length];exact U
 have hs:((bs.idxOf true:Nat):Int)<2^63-1:=by
  have:sizeLine<2^62:=`d
  omega
 have at':∀m (hm:m<y.toArray.size),n9 y.toArray[m]=bs[m]'(by simp at hm;omega):=λm hm=>by subst E;simp[n9]
 refine call_meets PySem.F.slot_list_index {_,e1,rfl} PySem.F.entry_list_index (PySem.F.args_list_index_2 _ _) (PySem.SeqAt.list_indexAt p y.toArray n od L (.bool true) n9 (bs.idxOf true) `o hs (by rw[at'];simp) λm hm h=>?_) {e1,eqT E,?_}
 ·rw[at'];have:=List.not_of_lt_findIdx h;simpa using this
 ·exact{.int (bs.idxOf true),H,I.tok _,{_,rfl},q}
variable{a:Expr}{ga:GE}{apos cpos kp:Pos}{j:Nat}
def Iz (W:DE fa X a ga)(u:attributeBase a "count" X.env (eval a X.env)=eval a X.env)(y:(apos.endLine==cpos.line)=true):DE fa X (.Call (.Attribute a "count" apos) [.Constant (.bool true) j kp] [] cpos) (xr ga):=
 bx (rG Rw PySem.F.slot_list_count PySem.F.type_list_count (JG) W (bE wI cx `r) u `r y `r `r) λσ H Q ⟨μ,Z,M,R,U,h⟩=>t1 R U h λx O v H1 I x1 S B r1 h1=>by
  cases E:nF O x with
  |none=>rw[E] at h1;exact h1.elim
  |some bs=>
   rw[E] at h1;obtain⟨P,e,e2⟩:=Px.mp E;obtain⟨p,L,rfl,J,Y⟩:=bK B r1 e;exact{.inl ⟨rfl,L,J⟩,I,P,bs,p,L,rfl,rfl,J,Y,e2,aN B (a7.ext h1 x1) rfl}
set_option tactic.hygienic true in
def Iu (W:DE fa X a ga)(u:attributeBase a "index" X.env (eval a X.env)=eval a X.env)(y:(apos.endLine==cpos.line)=true):DE fa X (.Call (.Attribute a "index" apos) [.Constant (.bool true) j kp] [] cpos) (xq ga):=
 bx (rG Rw PySem.F.slot_list_index PySem.F.type_list_index (JF) W (bE wI cx `r) u `r y `r `r) λσ H Q ⟨μ,Z,M,R,U,h⟩=>t1 R U h λx J v H1 I x1 S B r1 h1=>by
  cases E:nF J x with
  |none=>rw[E] at h1;exact h1.elim
  |some bs=>
   rw[E] at h1;obtain⟨P,e,e2⟩:=Px.mp E;have h1:af (if true∈bs then .ok (.int (bs.idxOf true)) J else .bad) (a7 fa X.K μ H Q):=h1;split at h1
   ·next hm=>
    obtain⟨p,O,rfl,L,Y⟩:=bK B r1 e;exact{.inl ⟨rfl,O,L⟩,I,P,bs,p,O,rfl,rfl,L,Y,e2,hm,aN B (a7.ext h1 x1) rfl}
   ·exact h1.elim
end
end LD
namespace LD
open PySem PySem.Spec PySem.Calls PyProof.Rows
section
variable{prog:PU}{w:PM}{A:QE}{E:O3->O8->Prop}{h:Heap}{g:Array GenState}{d:Drawn}{t:Nat}{os:Qb}
variable{nm q:Str}{C N:Addr}{bs bm:List O3}{hdct:Bool}{sn:List Str}{sub:List O3}{ab:Bool}{col:Option Bool}{dd:Option Addr}{k0 k1 k2 k3 k5:Option O3}
def Cs (L:h.get? C=some (excClassObj nm q C N bs bm hdct sn sub ab col dd k0 k1 k2 k3 k5 "ValueError.__new__"))(T:OwnTail h mF bm)
 (he:h.get? e=some oe) (v:oe.cls=.ref C) (hd:oe.data=.fields vs) (I:vs[0]?=some (.ref t0))
 (O:∀H P,(∀b o,b≠e->h.get? b=some o->H.get? b=some o)->H.get? e=some (oe.mapFields (·.setIfInBounds 0 (.ref P)))->Q .none ⟨H,g,d,t,os⟩) :
 wpAny (model prog w) A (call (.builtin "ValueError.__init__") [.ref e,u]) Q E ⟨h,g,d,t,os⟩:=by
 refine wpAny_call (codeAny_call_builtin PySem.F.excBase_ValueError.init.plain PySem.F.excBase_ValueError.initEntry (wpAny_check_init_subT PySem.F.excBase_ValueError T L he v ?_));wp_walk
 have B:(h.push {cls:=.type "tuple",data:=.seq #[u]}).get? e=some oe:=O5 _ he;rw[hd];refine tqb ?_;rw[I];refine tqb ?_;refine tqa (wpAny_setField B hd (P4.mp I).1 ?_);wp_walk
 refine O _ h.objs.size (λb o M J=>?_) ?_
 ·rw[Qh _ _ (Qi M)];exact O5 _ J
 ·exact QB _ B (Rl (QD hd _))
end
noncomputable def mP:List O3->Bool
 |.ref _::r=>mP r
 |l=>l==mF
noncomputable def sE (self:O3):∀{l:List O3},mP l=true->refuseLoop self "__setattr__" l=pure ()
 |[],e=>absurd e `d
 | a::r,e=>by
   cases a with
   |ref c=>rw[refuseLoop_ref];exact sE self e
   | _=>
     have q:=eq_of_beq (e);rw[q];exact PySem.F.store_ValueError.passes self
def rD (K:O0)(C:Addr):Bool:=(PySem.W.clsIn K C).any (λu=>mP u.mro)&&PySem.W.mroIn K C (.type "object")==some true
def LK {K:O0}(X:K.In s.heap)(J:Q5 s.heap x ox C od)(u:rD K C=true)(S:PySem.W.takerIn K C name=some none)
 (h:∀b,wpAny (model prog w) A.in1 (Builtin.ObjectAttr.storeInOwnDict (.ref x) (.ref C) (.str name tk) name v b) (λH B=>match H with|.done f=>R (.ok f) B|.again I=>I.quiet=true/\codeAny (model prog w) A I R B) (λe B=>R (.error e) B) s) :
 codeAny (model prog w) A (.call (.builtin "object.__setattr__") {[.ref x,.str name tk,v],[]}) R s:=by
 unfold rD at u;rw[O2,beq_iff_eq] at u;obtain⟨L,Q,ho⟩:=PySem.W.any_some u.1;have G:=PySem.F.store_ValueError;have M:PySem.W.Looks (model prog w) s.heap (isInstance (.ref x) (.type "object")) true:=J.type.andThen (PySem.W.looks_mroIn X u.2);obtain⟨at',O,hr⟩:=Px.mp S;have e1:PySem.W.Looks (model prog w) s.heap (mroOf (.ref C)) L.mro:=(PySem.W.looks_clsIn X Q).andThen .now;have e2:PySem.W.Looks (model prog w) s.heap (Builtin.ObjectAttr.storeTaker? at') none:=by
  cases at' with
  |none=>exact .now
  | some a=>
    obtain⟨b,P,hn⟩:=Pq.mp hr;cases b with
    |true=>cases hn
    |false=>exact(PySem.W.looks_takesIn X P).andThen .now
 refine codeAny_call_builtin PySem.F.store_object.slot.plain G.entry (@PySem.W.check_slot (model prog w) _ _ s "object.__setattr__" "object" "__setattr__" (.ref x) [.str name tk,v] [] _ G.kind G.split M (G.args (.ref x) (.str name tk) v) ?_);rw[PySem.W.osa_eq];refine tqa ?_;rw[refuse_eq];refine tqa (J.type.here (tqa (e1.here ?_)));rw[sE _ ho];exact tqb (tqa (J.type.here (tqa ((PySem.W.looks_findIn X O).here (tqa (e2.here (h _)))))))
def GC {K:O0}(X:K.In s.heap)(J:Q5 s.heap x ox C none)
 (hs:PySem.W.findIn K (.ref C) "__setattr__"=some (some (.builtin "object.__setattr__"))) (hp:rD K C=true) (ht:PySem.W.takerIn K C name=some none) (hh:PySem.W.hasDictIn K C=true) (hd:ox.data=.fields vs)
 (h:∀u d,s.heap.objs.size<=d->u.Ns1 d (λy=>if y=name then some v else none)->u.get? x=some {ox with dict:=some d}->(∀b o,b≠x->s.heap.get? b=some o->u.get? b=some o)->Q () {s with heap:=u,toks:=s.toks+2}) :
 wpAny (model prog w) A (setAttr (.ref x) name v) Q E s:=by
 refine PySem.W.set_plain X J hs (LK X J hp ht λb=>?_);obtain⟨cd,hc,O⟩:=PySem.W.any_some hh;have U:=J.at_;obtain⟨oc,L,Y,osl⟩:=ox;obtain rfl:oc=.ref C:=J.cls;obtain rfl:Y=.fields vs:=hd;have R:L=none:=by
  have:=J.dict;cases L with
  |none=>rfl
  |some d=>exact this.elim
 subst R;refine tqa (tqb (tqa (tqa (wpAny_loadPart U (tqa (PySem.W.Looks.here (PySem.W.looks_clsIn X hc) ?_))))));rw[O];refine tqa (wpAny_alloc ?_);have I:(s.heap.push {cls:=.type "dict",data:=.dict #[]}).get? x=some {.ref C,none,.fields vs,osl}:=O5 _ U;refine tqa (wpAny_update I (tqb ?_));have B:=Qg (Po U);have e1:(s.heap.push {cls:=.type "dict",data:=.dict #[]}).get? s.heap.objs.size=some {cls:=.type "dict",data:=.dict #[]}:=PD s.heap rfl;have e2:((s.heap.push {cls:=.type "dict",data:=.dict #[]}).update x (λo=>{o with dict:=some s.heap.objs.size})).get? s.heap.objs.size=some {cls:=.type "dict",data:=.dict #[]}:=(Qh _ _ (Qi B)).trans e1
 have e3:((s.heap.push {cls:=.type "dict",data:=.dict #[]}).update x (λo=>{o with dict:=some s.heap.objs.size})).Ns s.heap.objs.size (λ_=>none):={_,#[],_,e2,rfl,(λe he=>absurd he `s),λ_=>rfl}
 have e4:=QB (λo=>{o with dict:=some s.heap.objs.size}) I rfl
 refine tqa (tqb (tqa ?_));refine wpAny_nsSet1 (Heap.Ns1.of_empty e3) λu F H=>?_;obtain⟨oD,esD,epD,S,P,M⟩:=F.count (PySem.Within.cons name v PySem.Within.nil);refine tqa (wpAny_lookBehind S (by rw[P];exact pastItsLine_dict (Pk M (by show 1<=sizeLine+1;omega))) ?_)
 refine tqb (h _ s.heap.objs.size (O4 _) F ((H.2 _ (Qi B)).trans e4) λb o hb e=>?_);rw[H.2 b (PH (Po e)),Qh _ _ (Qi hb)];exact O5 _ e
end LD
namespace LD
open PySem PySem.Spec PyProof.Rows L2
def fit (z:Str)(i:Int)(y:Str):Prop:=i.natAbs.log2<1920/\(z++(toString i:Str)).length<=sizeLine/\(z++(toString i:Str)++y).length<=sizeLine
section
variable{X:Cx}{a:Expr}{ta:TE}{pos p1 p2 p3:Pos}{j j2:Nat}{z y:Str}
def MY (z y:Str)(ta:TE):TE:=λB H Q=>z.length<=sizeLine/\ta B H λv u=>∃i,v=.int i/\fit z i y/\Q (.str (z++(toString i:Str)++y)) u
def rh (z:Str):Str.empty++z=z:=by
 cases z with
 |mk c=>show Str.mk (#[]++c)=_;simp
def xG (z:Str):z++Str.empty=z:=by
 cases z with
 |mk c=>show Str.mk (c++#[])=_;simp
def LI (P:PE X a ta):PE X (.JoinedStr [.Constant (.str z) j p1,.FormattedValue a (-1) none p2,.Constant (.str y) j2 p3] pos) (MY z y ta):=by
 rintro B s S H Q I ⟨R,h⟩;refine JoinedStr_many (joinParts_cons (Calls.Constant_str ?_));show(Str.empty++z).length<=sizeLine/\_;rw[rh];refine{R,joinParts_cons (FormattedValue_plain (aQ (P B _ S H _ (I.tok _) h) λu s1 ⟨v,J,L,r1,i,M,⟨f1,O,F⟩,q⟩=>?_))};subst M;obtain⟨t,rfl⟩:=r1;refine formatField_int_small f1 {O,joinParts_cons (Calls.Constant_str {F,joinParts_nil ?_ F})};exact{.str _,J,L.tok _,{_,rfl},q}
def LJ (O:PE X a ta):PE X (.JoinedStr [.Constant (.str z) j p1,.FormattedValue a (-1) none p2] pos) (MY z Str.empty ta):=by
 rintro B s R H Q I ⟨P,h⟩;refine JoinedStr_many (joinParts_cons (Calls.Constant_str ?_));show(Str.empty++z).length<=sizeLine/\_;rw[rh];refine{P,joinParts_cons (FormattedValue_plain (aQ (O B _ R H _ (I.tok _) h) λu s1 ⟨v,J,L,r1,i,M,⟨f1,F,S⟩,q⟩=>?_))};subst M;obtain⟨t,rfl⟩:=r1;refine formatField_int_small f1 {F,joinParts_nil ?_ F};have e:z++(toString i:Str)++Str.empty=z++(toString i:Str):=by
  exact xG _
 rw[e] at q;exact{.str _,J,L.tok _,{_,rfl},q}
end
def eM (C:Addr)(v:Option Addr)(a:Addr)(h:Heap):Prop:=∃o u B,h.get? a=some o/\o.cls=.ref C/\o.dict=v/\o.data=.fields u/\u[0]?=some (.ref B)/\u[1]?=some .none
def jY (K:O0)(C:Addr)(fI:Addr):Bool:=H8 K C λcd C' bm n=>C'==C&&n=="ValueError.__new__"&&!cd.hasDel&&PySem.W.tailIn K mF bm&&PySem.W.nsOkIn K cd.ns&&PySem.W.nsIn K cd.ns "__init__"==some (some (.ref fI))
set_option tactic.hygienic true in
def wN {K:O0}(X:K.In h)(G:h.Ns N mg)(e:PySem.W.nsIn K N x=some (some v)):mg x=some v:=by
 obtain⟨o,F,B,ho,hd,_,hf⟩:=G;unfold PySem.W.nsIn at e;split at e
 ·rename_i c d u H sl q;have:=X _ _ q;rw[ho] at this;cases this;cases hd;split at e
  ·rename_i en he;cases e;rw[<- hf];unfold nsFind findBy;rw[<- Array.find?_toList,he];rfl
  ·split at e<;>cases e
 ·cases e
def lK {K:O0}(X:K.In h)(q:jY K C fI=true) :
 ∃bm N nm q bs hdct sn sub ab col dd k0 k1 k2 k3 k5 v,h.get? C=some (excClassObj nm q C N bs bm hdct sn sub ab col dd k0 k1 k2 k3 k5 "ValueError.__new__")/\h.Ns N v/\v "__init__"=some (.ref fI)/\OwnTail h mF bm:=by
 obtain⟨bm,ns,nm,qn,bs,hd,sn,sub,ab,col,dd,k0,k1,k2,k3,k5,dl,n,F,q,ho⟩:=yO X q;simp only[O2,beq_iff_eq,Q2] at q;obtain⟨⟨⟨⟨⟨rfl,rfl⟩,rfl⟩,B⟩,hok⟩,u⟩:=q;exact{bm,ns,nm,qn,bs,hd,sn,sub,ab,col,dd,k0,k1,k2,k3,k5,_,ho,.of_isNs (PySem.W.isNs_of_in X hok),wN X (.of_isNs (PySem.W.isNs_of_in X hok)) u,PySem.W.tail_of_in X B}
set_option tactic.hygienic true in
def AR (h:H a=some o):upd H a o=H:=by
 funext b
 unfold upd;split
 ·next e=>rw[e,h]
 ·rfl
section
variable{X:Cx}{a b:Expr}{ta tb:TE}{apos cpos p1 pos:Pos}{x:Str}{D:Addr}
def NR (K:O0)(ta tb:TE):TE:=λF H Q=>ta F H λv I=>tb F I λu B=>∃e C J,v=.ref e/\B e=some (.ext (eM C none e))/\jY K C J=true/\Q .non B
def oX (x:eM C dx e h):dF P w H h e (.ext (eM C dx e)):=by
 refine{x,let{o,_,_,e,_}:=x;⟨o,e⟩,(by rintro B F ⟨o,v,u,k1,k2⟩ kk;exact{o,v,u,kk o k1,k2})}
def I8 {pl:Sem Bool}(hD:X.mg x=some (.ref D))(hg:Gl X x)(h1:PySem.W.readsIn X.K D (.type "type")=true)(h2:PySem.W.findCls X.K (.ref D) (.type "type") "__init__"=some (.val (.builtin "ValueError.__init__")))
 (h3:PySem.W.specialIn X.K (.ref D) "__getattribute__"=some (some (.builtin "type.__getattribute__"))) (ha:PE X a ta) (P:PE X b tb) (he:notStar a=true) (J:notStar b=true) (R:(x==("__debug__":Str))=false)
 (ht:eval (.Call (.Attribute (.Name x p1) "__init__" apos) [a,b] [] cpos) X.env=(do
  let ov <- eval (.Name x p1) X.env
  standAt apos.atName
  let(f,first) <- holding [ov] (getMethod ov "__init__" pl)
  callWith cpos f first (backTo cpos (starEach [a,b] X.env)) (backToKw cpos (keywordEach [] X.env)))) :
 PE X (.Call (.Attribute (.Name x p1) "__init__" apos) [a,b] [] cpos) (NR X.K ta tb):=by
 intro B s σ H Q I h;refine PySem.W.methodCall_KW (fQ I hg hD ?_ R) ht;refine PySem.W.method_cls I.kIn h3 (PySem.W.cls_value I.kIn h1 h2 rfl ?_);refine Calls.callWith_builtin (c4 (by simp[he,J])) ?_
 have ar:=aQ ((bE ha (bE P cx (bo J)) (bo he)) cpos B {s with toks:=s.toks+1} σ H (λL S=>match L with|[v,u]=>∃e C Y,v=.ref e/\S e=some (.ext (eM C none e))/\jY X.K C Y=true/\Q .non S|_=>False) (I.tok _) h) (Q':=λus s2=>wpAny (model X.prog X.w) X.A (call (.builtin "ValueError.__init__") ([]++us) []) (EP X B σ Q) X.xe s2) λus s1 ⟨L,H1,M,r,F⟩=>by
  match L,r,F with
  |[],_,F=>exact F.elim
  |[_],_,F=>exact F.elim
  |_::_::_::_,_,F=>exact F.elim
  | [v,u],r,⟨e,C,Y,ev,O,hx,q⟩=>
    subst ev;obtain⟨w1,w2,rfl,r1,r2⟩:=vals2 r;obtain rfl:w1=Value.ref e:=r1;obtain⟨⟨o,L,t0,k1,k2,k3,k4,k5,k6⟩,_,_⟩:=M.hok e _ O;obtain⟨bm,N,nm,qq,bs,hdct,sn,sub,ab,col,dd,c0,c1,c2,c3,c5,mN,hC,hN,hni,T⟩:=lK M.kIn hx;obtain⟨hp,gg,dr,tk,os⟩:=s1;refine Cs hC T k1 k2 k4 k5 λh' tp kk ke=>?_;have nw:eM C none e h':={_,_,tp,ke,by rw[Obj.cls_mapFields];exact k2,by rw[lM];exact k3,QD k4 _,by simp[(P4.mp k5).1],by rw[Array.getElem?_setIfInBounds_ne `d];exact k6}
    have U:=M.write (t':=tk) (by rw[O];exact True.intro) (.inl rfl) (λb u P z=>kk b u P z) {_,ke} (oX nw)
    rw[AR O] at U;exact{.non,H1,U,rfl,q}
 rw[bo he] at ar ⊢;exact PySem.Calls.evalArgs_plain ar
end
def setIn (K:O0)(C:Addr)(fld:Str):Bool:=PySem.W.findIn K (.ref C) "__setattr__"==some (some (.builtin "object.__setattr__"))&&rD K C&&PySem.W.takerIn K C fld==some none&&PySem.W.hasDictIn K C
section
variable{X:Cx}{o value:Expr}{to tv:TE}{p' pos:Pos}{fld:Str}
def Lj (K:O0)(tv to:TE)(fld:Str):TS:=λD v H=>tv v H λy B=>to v B λx u=>∃e C i,x=.ref e/\y=.int i/\u e=some (.ext (eM C none e))/\setIn K C fld=true/\∀d,u d=none->d≠e->D.nx v (upd (upd u d (.xd [(fld,.int i)])) e (.ext (eM C (some d) e)))
def FO (ho:PE X o to)(hv:PE X value tv)(hs:swapsWith value (some (.Attribute o fld p')) pos.line X.env=pure false):PS X (.Assign [.Attribute o fld p'] value pos) (Lj X.K tv to fld):=by
 intro L s σ H D I h;refine plainObj_wpAny_Assign_Attribute (aQ (hv L s σ H _ I h) λu s1 ⟨y,H1,I1,ry,q⟩=>aQ (ho L s1 σ H1 _ I1 q) λov s2 ⟨x,S,P,rx,e,C,i,ex,ey,B,J,q2⟩=>?_) hs;subst ex ey;obtain rfl:ov=Value.ref e:=rx;obtain⟨t,rfl⟩:=ry;simp only[setIn,O2,beq_iff_eq] at J;obtain⟨⟨⟨g1,g2⟩,g3⟩,g4⟩:=J;obtain⟨⟨ob,vs,t0,k1,k2,k3,k4,k5,k6⟩,_,_⟩:=P.hok e _ B;have IA:Q5 s2.heap e ob C none:={k1,k2,by unfold PySem.W.notCls;rw[k4],by rw[k3];trivial}
 refine GC P.kIn IA g1 g2 g3 g4 k4 λh' d hd Y R kk=>?_;have F:=P.hok.fresh hd;have Q:d≠e:=λz=>by rw[z,B] at F;cases F
 have lt:∀b o,s2.heap.get? b=some o->b≠d:=λb o q z=>absurd (Po q) (by rw[z];exact Nat.not_lt.mpr hd)
 have ne:∀b,S b=none->b≠e:=λb q z=>by rw[z,B] at q;cases q
 have M:∀b,b≠d->b≠e->upd (upd S d (.xd [(fld,.int i)])) e (.ext (eM C (some d) e)) b=S b:=λb z1 U=>by rw[ao U,ao z1]
 have nd:∀b u,S b=some u->b≠d:=λb u q=>aS q F;refine{σ,_,P.un {λb o q n _ _=>kk b o (ne b n) q,λb o q n _ _=>{o.slots,kk b o (ne b n) q},λb o q n _=>?_,λb o q _=>?_,λb xs q=>?_,λb o u q=>?_,λb ps q=>{#[],?_}} λb u q=>?_,q2 d F Q}
 ·rw[M b (lt b o q) (ne b n)];exact n
 ·by_cases z:b=e
  ·exact{_,by rw[z];exact R}
  ·exact{o,kk b o z q}
 ·rw[M b (nd b _ q) (λz=>by rw[z,B] at q;cases q)];exact q
 ·rw[M b (nd b _ q) (λz=>by rw[z,B] at q;cases q)];exact q
 ·rw[M b (nd b _ q) (λz=>by rw[z,B] at q;cases q)];simpa using q
 ·by_cases z:b=e
  ·subst z;rw[bJ] at q;cases q;exact oX {_,vs,t0,R,k2,rfl,k4,k5,k6}
  ·by_cases U:b=d
   ·subst U;rw[ao Q,bJ] at q;cases q;refine{_,Y,λf=>?_};by_cases hf:f=fld
    ·subst hf;simp only[P5,beq_self_eq_true,if_true];exact⟨t,rfl⟩
    ·rw[if_neg hf];have:([(fld,V.int i)]:List (Str×V)).lookup f=none:=by simp[P5,P7.mpr hf]
     rw[this];trivial
   ·rw[M b U z] at q;refine(P.hok b u q).stay (λc v O w=>kk c v ?_ w) (λc w=>?_) λc xs w=>?_
    ·rcases O with O|O
     ·rw[O];exact z
     ·intro y;rw[y,B] at O;cases O
    ·rw[M c (nd c _ w) (λy=>by rw[y,B] at w;cases w)];exact w
    ·rw[M c (nd c _ w) (λy=>by rw[y,B] at w;cases w)];exact w
end
end LD
namespace LD
open PySem PySem.Spec PyProof.Rows
section
variable{prog:PU}{w:PM}{A:QE}{E:O3->O8->Prop}{h:Heap}{g:Array GenState}{d:Drawn}{t:Nat}{os:Qb}
variable{nm q:Str}{C N:Addr}{bs bm:List O3}{hdct:Bool}{sn:List Str}{sub:List O3}{ab:Bool}{col:Option Bool}{dd:Option Addr}{k0 k1 k2 k3 k5:Option O3}
def rn
 (I:h.get? C=some (excClassObj nm q C N bs bm hdct sn sub ab col dd k0 k1 k2 k3 k5 "ValueError.__new__")) (T:OwnTail h mF bm) (hn:h.Ns N mN) (hi:mN "__init__"=some (.ref fI)) (L:h.get? fI=some oI) (M:oI.cls=.type "function")
 (U:∀O e,Heap.MadeExcOf h O e (.ref C) rest->wpAny (model prog w) A (call (.ref fI) (.ref e::rest)) (λr P=>r=.none/\Q (.done (.ret (.ref e))) P) E ⟨O,g,d,t,os⟩) (B:rest.length<=sizeLine) :
 wpAny (model prog w) A (Builtin.«type.__call__» {.ref C::rest,[]}) Q E ⟨h,g,d,t,os⟩:=by
 have F:=PySem.F.excBase_ValueError
 repeat (first|with_reducible refine wpAny_loadPart_at I ?_|with_reducible refine wpAny_madeBy_exc I ?_|wp_step)
 refine codeAny_call_builtin_code (Code.quiet_builtin _ F.quiet) (wpAny_check_new_subT F T I ?_);refine codeAny_exc_new_subT F T I ?_ B;have kp:∀b o,h.get? b=some o->((h.push {cls:=.type "tuple",data:=.seq rest.toArray}).push {cls:=.ref C,data:=.fields #[.ref h.objs.size,.none,.none,.none,.bool false,.none]}).get? b=some o:=λb o S=>O5 _ (O5 _ S);have j:=kp _ _ I;have u:=kp _ _ L;have y:=hn.keeps kp;have H:=T.keeps kp;have v:((h.push {cls:=.type "tuple",data:=.seq rest.toArray}).push {cls:=.ref C,data:=.fields #[.ref h.objs.size,.none,.none,.none,.bool false,.none]}).get? (h.objs.size+1)=some {cls:=.ref C,data:=.fields #[.ref h.objs.size,.none,.none,.none,.bool false,.none]}:=by heap_get
 have J:(Value.ref C::bm).contains (.ref C)=true:=`s
 repeat (first|with_reducible refine wpAny_loadPart_at v ?_|(with_reducible refine wpAny_isSubtype_exc j ?_;rw[J])|wp_step)
 refine wpAny_typeLookup_tail j y H F.mroIs F.init.lookup ?_;rw[hi];refine tqo (tqa ?_);refine tqa (wpAny_typeOf {_,u,M} ?_);rw[if_pos `d]
 refine tqb (tqa (wpAny_mono (U _ (h.objs.size+1) {kp,Rr (Rx _),h.objs.size,v,Rr (O4 _),?_}) (λr P hr=>?_) λ_ _ x=>x))
 ·exact O5 _ (Heap.get?_push_at rfl rfl)
 ·obtain⟨rfl,R⟩:=hr;wp_walk
  exact R
def Aq
 (v:h.get? C=some (excClassObj nm q C N bs bm hdct sn sub ab col dd k0 k1 k2 k3 k5 "ValueError.__new__")) (T:OwnTail h mF bm) (hn:h.Ns N mN) (hi:mN "__init__"=some (.ref fI)) (y:h.get? fI=some oI) (B:oI.cls=.type "function")
 (F:∀u e,Heap.MadeExcOf h u e (.ref C) rest->wpAny (model prog w) (A.under (.builtin "type.__call__" {.ref C::rest,[]})) (call (.ref fI) (.ref e::rest)) (λr H=>r=.none/\Q (.ref e) H) E ⟨u,g,d,t,os⟩) (j:rest.length<=sizeLine) :
 wpAny (model prog w) A (call (.ref C) rest) Q E ⟨h,g,d,t,os⟩:=by
 have f1:=tc_lookup;have I:=tc_bind (.ref C);refine wpAny_call (codeAny_of_tree ?_)
 repeat (any_goals (first|assumption|with_reducible refine wpAny_loadPart_at v ?_|wp_step))
 refine{rfl,?_};refine codeAny_call_builtin_at (Code.quiet_builtin _ `k) entry_typeCall (wpAny_check_type_call_sub v (rn v T hn hi y B (λu e hm=>?_) j))
 exact F u e hm
end
end LD
namespace LD
open PySem PySem.Spec PyProof.Rows L2
def EJ (x m:Str)(a b:Expr)(p1 u h:Pos)(env:QC):Prop:=∃pl,eval (.Call (.Attribute (.Name x p1) m u) [a,b] [] h) env=(do
 let v <- eval (.Name x p1) env
 standAt u.atName
 let(f,first) <- holding [v] (getMethod v m pl)
 callWith h f first (backTo h (starEach [a,b] env)) (backToKw h (keywordEach [] env)))
def M9 (C:Addr)(fld:Str):Sp:=λh H Q _=>∃e i,h=[.ref e,.int i]/\H e=some (.ext (eM C none e))/\i.natAbs<2^64/\∀d,H d=none->d≠e->Q .non (upd (upd H d (.xd [(fld,.int i)])) e (.ext (eM C (some d) e)))
def len_app (a b:Str):(a++b).length=a.length+b.length:=by
 show(Str.append a b).length=_;unfold Str.append Str.length;simp
def Aa {i:Int}(hz:z.length<=1000)(u:y.length<=1000)(hi:i.natAbs<2^64):fit z i y:=by
 have h1:i.natAbs.log2<1920:=by
  by_cases h:i.natAbs=0
  ·rw[h];decide
  ·exact Pu ((Nat.log2_lt h).mpr hi) `a
 have h2:=PyProof.Rows.int_text_len_1921 h1;have hs:sizeLine=16777216:=cJ.symm;refine{h1,?_,?_}
 ·rw[len_app];omega
 ·rw[len_app,len_app];omega
section
variable{P:PU}{w:PM}{K:O0}{mg:Str->Option O3}{base:Heap}{qual y fld z:Str}{st:Stmt}{f C D fI:Addr}{fd:FuncData}{p1 p2 p3 p4 p5 p6 p7 p8 p9 p10 p11 p12 p13:Pos}{j:Nat}
def JY (F:mI K "__init__" qual st f fd)(S:fW ["self",y] ["self",y] (aE st))
 (hb:bT st=[.Expr (.Call (.Attribute (.Name "DeedError" p1) "__init__" p2) [.Name "self" p3,.JoinedStr [.Constant (.str z) j p4,.FormattedValue (.Name y p5) (-1) none p6] p7] [] p8) p9,.Assign [.Attribute (.Name "self" p10) fld p11] (.Name y p12) p13])
 (u:∀L cd,EJ "DeedError" "__init__" (.Name "self" p3) (.JoinedStr [.Constant (.str z) j p4,.FormattedValue (.Name y p5) (-1) none p6] p7) p1 p2 p8 (envOfC qual (aE st) L f cd))
 (hz:z.length<=1000) (M:(y==("__debug__":Str))=false) (J:(y==("__classdict__":Str))=false) (v0:(aE st).names.lookup ("self":Str)=some .local) (v1:(aE st).names.lookup y=some .local)
 (hg:∀L cd,(envOfC qual (aE st) L f cd).kindOf "DeedError"=some .globalImplicit) (Y:mg "DeedError"=some (.ref D)) (h1:PySem.W.readsIn K D (.type "type")=true) (h2:PySem.W.findCls K (.ref D) (.type "type") "__init__"=some (.val (.builtin "ValueError.__init__")))
 (h3:PySem.W.specialIn K (.ref D) "__getattribute__"=some (some (.builtin "type.__getattribute__"))) (X:jY K C fI=true) (v:setIn K C fld=true):jG P w K mg base (fx P w) 1 f fd ["self",y] (M9 C fld):=by
 refine pQ (mI.toD F) S (λvs H Q E ⟨e,i,B,_⟩=>by rw[B];rfl) λh A outer s H vs Q E hr ⟨e,i,B,O,hi,q⟩=>?_
 subst B;rw[hb];have R:uA (dY (fx P w) P w K mg base ["self",y] qual (aE st) f h A outer s H E).env.scope "self":=.inl v0;have U:uA (dY (fx P w) P w K mg base ["self",y] qual (aE st) f h A outer s H E).env.scope y:=.inl v1;have a0:∀p,PE (dY (fx P w) P w K mg base ["self",y] qual (aE st) f h A outer s H E) (.Name "self" p) (Bg 0):=λp=>nQ rfl R;have a1:∀p,PE (dY (fx P w) P w K mg base ["self",y] qual (aE st) f h A outer s H E) (.Name y p) (Bg 1):=λp=>nQ rfl U M J;obtain⟨pl,u⟩:=u s.heap.objs.size h;refine{_,mQ (jK (I8 Y (hg _ _) h1 h2 h3 (a0 p3) (LJ (a1 p5)) rfl rfl rfl u) rfl) (mQ (FO (a0 p10) (a1 p12) rfl) va),?_};refine{.ref e,rfl,Pk hz (by rw[<- cJ];decide),.int i,rfl,i,rfl,Aa hz `d hi,e,C,fI,rfl,O,X,?_}
 exact{.int i,rfl,.ref e,rfl,e,C,i,rfl,rfl,O,v,λd hd I=>q d hd I}
end
def j6 (fa:Fa)(P:PU)(w:PM)(K:O0)(mg:Str->Option O3)(base:Heap)(c:Nat)(x:Str):Prop:=
 ∃C h j y u,mg x=some (.ref C)/\fa (c7 c)=some C/\jY K C h=true/\PySem.W.keepIn K (.ref C)=true/\K.lookup h=some u/\u.cls=.type "function"/\Binds K j ["self",y] []/\jG P w K mg base (fx P w) 1 h j ["self",y] (M9 C (fH c))
section
variable{X:Cx}{pins:List (Addr×Obj)}{σ:L2.St}{H H0:Hp}{s:O8}{fa:Fa}
def uL (I:Inv X pins σ H s)(B:H a=some (.ext F))(h:∀b,b≠a->H0 b=H b)(hz:H0 a=none):Inv X pins σ H0 s:=by
 have j:∀b,H b=none->b≠a:=λb q z=>by rw[z,B] at q;cases q
 have no:∀b u,H b=some u->(∀F,u≠.ext F)->H0 b=some u:=λb u q n=>by
  rw[h b (λz=>by rw[z,B] at q;cases q;exact n _ rfl)];exact q
 refine{I.ok,I.os,I.bare,{I.base.keep,I.base.slot,λb o e n J=>?_,I.base.there,λb xs e=>?_,λb o u e=>?_,λb ps e=>?_},I.loc,I.cell,?_,λx c e=>?_,λp y=>?_,λb u e=>?_,I.len}
 ·have q:=I.base.free b o e n J;rw[h b (j b q)];exact q
 ·exact no _ _ (I.base.tups b xs e) (λ_ z=>nomatch z)
 ·exact no _ _ (I.base.frzs b o u e) (λ_ z=>nomatch z)
 ·obtain⟨m,q⟩:=I.base.tbls b ps e;exact{m,no _ _ q (λ_ z=>nomatch z)}
 ·rw[h _ (j _ I.free)];exact I.free
 ·rw[h _ (j _ (I.freeC x c e))];exact I.freeC x c e
 ·obtain⟨e,n,r⟩:=I.pin p y;exact{e,by rw[h _ (j _ n)];exact n,r}
 ·by_cases E:b=a
  ·rw[E,hz] at e;cases e
  ·rw[h b E] at e;exact(I.hok b u e).stay (λc v _ q=>q) (λc q=>no _ _ q (λ_ z=>nomatch z)) λc xs q=>no _ _ q (λ_ z=>nomatch z)
def JH {i:Int}(J:j6 fa X.prog X.w X.K X.mg X.base c x)(hr:b5 2 X.A)(L:X.ex=[])(I:Inv X pins σ H s)(hC:X.mg x=some (.ref C))(hi:i.natAbs<2^64)
 (h:∀e d M,fa (c7 c)=some C->nz X e->H e=none->H d=none->d≠e->Inv X pins σ (upd (upd H d (.xd [(fH c,.int i)])) e (.ext (eM C (some d) e))) M->Q (.ref e) M):wpAny (model X.prog X.w) X.A (call (.ref C) [.int i t]) Q X.xe s:=by
 obtain⟨C',fI,fd,y,oI,m1,hf,U,hk,R,S,hb,F⟩:=J;rw[hC] at m1;cases m1;obtain⟨bm,N,nm,q,bs,hdct,sn,sub,ab,col,dd,k0,k1,k2,k3,k5,mN,P,hN,W,T⟩:=lK I.kIn U;obtain⟨hp,g,dr,tk,os⟩:=s;refine Aq P T hN W (I.kIn _ _ R) S (λh' e hm=>?_) (by rw[<- cJ];exact Pb rfl)
 obtain⟨tp,ht,_,_⟩:=hm.there;obtain⟨n1,n2⟩:=ng I L hm.new;have I1:=I.kept (t':=tk) hm.keeps;have O:=qJ I1 L n2 n1.1 {_,_,ht,rfl} (λp hp z=>by
  have:=(I.pin p hp).1;rw[z,hm.new] at this;cases this) (oX {_,_,tp,ht,rfl,rfl,rfl,rfl,rfl})
 have E:=hb ⟨h',g,dr,tk,os⟩ [.ref e,.int i t] O.kIn rfl;rw[Qz] at E;refine wpAny_call (codeAny_mono (F.run _ X.stack ⟨h',g,dr,tk,os⟩ (upd H e (.ext (eM C none e))) {[.ref e,.int i t],[]} [.ref e,.int i t] [.ref e,.int i] (λv Y=>v=.non/\∃d,H d=none/\d≠e/\Y=upd (upd H d (.xd [(fH c,.int i)])) e (.ext (eM C (some d) e))) (λ_ _ _=>False) (hr.make C [.int i t] []) (O.env0.make C [.int i t] []) E (.cons rfl (.cons ⟨t,rfl⟩ .nil)) ?_) λr M j=>?_)
 ·refine{e,i,rfl,bJ,hi,λd hd B=>{rfl,d,by rw[ao B] at hd;exact hd,B,?_}}
  funext b
  unfold upd;split
  ·rfl
  ·split
   ·rfl
   ·rfl
 ·cases r with
  | error e'=>
    obtain⟨_,_,_,_,_,_,_,_,_,_,z⟩:=j;exact z.elim
  | ok fl=>
    cases fl with
    | ret u=>
      obtain⟨v,Y,I3,rv,ev,d,hd,B,eH⟩:=O.after j;subst ev eH;exact{rv,h e d M hf n1 n2 hd B I3}
    |next=>exact False.elim j
    |brk=>exact False.elim j
    |cont=>exact False.elim j
end
def gK (c:Nat)(a:GE):GS:=λh M=>match a h M with
 |.ok (.int i) M=>if i.natAbs<2^64 then .ok (.exc (.exc c (some i)) h) M else .bad
 |_=>.bad
def tS (f:Str)(a:GE):GE:=λh M=>(a h M).bind λd M=>match d with
 |.exc c (some i)=>if fH c=f then .ok (.int i) M else .bad
 |_=>.bad
def wF
 (u:bm.contains (.type "BaseException")=true) (hh:A.handled=none)
 (h:wpAny M A x (λv j=>∃e o vs,v=.ref e/\j.heap.get? C=some (excClassObj nm q C N bs bm hdct sn sub ab col dd k0 k1 k2 k3 k5 newId)/\j.heap.get? e=some o/\o.cls=.ref C/\o.data=.fields vs/\vs[1]?=some .none/\E (.ref e) j) E s) :
 wpAny M A (raiseStmt env (some x) none) Q E s:=by
 have B:(Value.ref C::bm).contains (.type "BaseException")=true:=by rw[List.contains_cons,u,Bool.or_true]
 refine tqa (wpAny_mono h (λv j y=>?_) λ_ _ x=>x);obtain⟨e,⟨cl,od,I,sl⟩,vs,rfl,F,he,L,hd,h1,J⟩:=y;obtain rfl:cl=.ref C:=L;obtain rfl:I=.fields vs:=hd;obtain⟨O,g,d,tk,os⟩:=j
 repeat (first|with_reducible refine wpAny_loadPart_at he ?_|with_reducible refine wpAny_loadPart_at F ?_|(with_reducible refine wpAny_isSubtype_exc F ?_;rw[B])|(with_reducible refine tqf he rfl h1 ?_)|wp_step)
 exact wpAny_raiseNew_none hh J
section
variable{fa:Fa}{X:Cx}{a b:Expr}{ga gb:GE}{ta:GT}{pos p np cpos:Pos}{es:List Expr}{gs:GA}{n:Nat}{x:Str}
def Cu (c:Nat)(J:j6 fa X.prog X.w X.K X.mg X.base c x)(hr:b5 2 X.A)(R:X.ex=[])(hg:Gl X x)(ha:DE fa X a ga)(O:(x==("__debug__":Str))=false)(he:notStar a=true)(I:Inv X pins σ H s)
 (h:∃μ Z M,bc fa X.K μ H σ Z/\RelM fa X.K μ H M/\af (ga Z M) λd M'=>∃i,d=.int i/\i.natAbs<2^64/\∀u j e d C B,Ext μ H j u->bc fa X.K j u σ Z->RelM fa X.K j u M'->X.mg x=some (.ref C)->fa (c7 c)=some C->nz X e->u e=none->u d=none->d≠e->Inv X pins σ (upd (upd u d (.xd [(fH c,.int i)])) e (.ext (eM C (some d) e))) B->Q (.ref e) B) :
 wpAny (model X.prog X.w) X.A (eval (.Call (.Name x np) [a] [] cpos) X.env) Q X.xe s:=by
 obtain⟨μ,Z,M,hE,hM,h⟩:=h;obtain⟨C,fI,fd,y,oI,E,hf,hin,hk,r⟩:=id J;refine wpAny_Call_Name_kw (fQ I hg E ?_ O);refine Rv I.ok.mod.kin hk (aQ (bE ha cx (bo he) cpos pins s σ H (λvs u=>∃j L i,Ext μ H j u/\RelM fa X.K j u L/\vs=[.int i]/\i.natAbs<2^64/\∀u j e d C B,Ext μ H j u->bc fa X.K j u σ Z->RelM fa X.K j u L->X.mg x=some (.ref C)->fa (c7 c)=some C->nz X e->u e=none->u d=none->d≠e->Inv X pins σ (upd (upd u d (.xd [(fH c,.int i)])) e (.ext (eM C (some d) e))) B->Q (.ref e) B) I {μ,Z,M,hE,hM,aD h λd M' ⟨i,ed,U,k⟩ v u j F E r1=>by
  subst ed;obtain rfl:v=.int i:=r1;exact⟨j,M',i,F,E,rfl,U,k⟩}) λus s1 ⟨vs,u,Y,r,j,L,i,F,mm,ev,U,k⟩=>{Y.kIn,?_}) (bo he) (c4 rfl)
 subst ev;cases r with
 | cons r1 r2=>
   cases r2;obtain⟨t,rfl⟩:=r1;exact JH J hr R Y E U λe d B S n1 n2 hd P I3=>k u j e d C B F (hE.ext F) mm E S n1 n2 hd P I3
set_option tactic.hygienic true in
def BA (c:Nat)(J:j6 fa X.prog X.w X.K X.mg X.base c x)(hr:b5 2 X.A)(hex:X.ex=[])(hg:Gl X x)(hc:X.calm=true)(ha:DE fa X a ga)(hdb:(x==("__debug__":Str))=false)(he:notStar a=true):DS fa X (.Raise (some (.Call (.Name x np) [a] [] cpos)) none pos) (gK c ga):=by
 rintro pins s σ H D' I ⟨μ,Z,M,hE,hM,h⟩;obtain⟨C,fI,fd,y,oI,m1,hf,hin,hk,r⟩:=id J;obtain⟨bm,N,nm,q,bs,B,sn,sub,ab,S,dd,k0,k1,k2,k3,k5,mN,W,hN,hni,T⟩:=lK I.ok.mod.kin hin;rw[arm_exec_Raise];refine tqa (wpAny_standAt (wF (T.hasType `k) (I.ok.hd hc) (tqa (wpAny_mono (Cu (Q:=λv j=>∃e o L,v=.ref e/\j.heap.get? C=some (excClassObj nm q C N bs bm B sn sub ab S dd k0 k1 k2 k3 k5 "ValueError.__new__")/\j.heap.get? e=some o/\o.cls=.ref C/\o.data=.fields L/\L[1]?=some .none/\X.xe (.ref e) j) c J hr hex hg ha hdb he I ?_) (λv s₃ F=>tqa (wpAny_standAt (tqb F))) λ_ _ x=>x))))
 refine{μ,Z,M,hE,hM,?_};unfold gK at h;cases U:ga Z M with
 |err=>rw[U] at h;exact h.elim
 |bad=>rw[U] at h;exact h.elim
 | ok x0 M1=>
   rw[U] at h;cases x0 with
   | int i=>
     dsimp only at h;split at h
     ·next hi=>
      refine{i,rfl,hi,λP O e d C' s' x1 Y u hm hf nw he hd hde R=>?_};rw[m1] at hm;cases hm;have ne:upd (upd P d (.xd [(fH c,.int i)])) e (.ext (eM C (some d) e)) e=some (.ext (eM C (some d) e)):=bJ;obtain⟨⟨o,L,t0,g1,g2,g3,g4,g5,g6⟩,_,_⟩:=R.hok e _ ne;have E:upd P d (.xd [(fH c,.int i)]) e=none:=by rw[ao (Qi hde)];exact he
      have I4:=uL R ne (λb hb=>(ao hb).symm) E;have hMd:RelM fa X.K O (upd P d (.xd [(fH c,.int i)])) M1:=u.alloc hd;have xd:=Ext.alloc (o:=.xd [(fH c,.int i)]) u hd;exact{e,o,L,rfl,R.bk _ _ W,g1,g2,g4,g6,h pins σ _ O s' e C (some d) c (some i) I4 (x1.trans xd) (Y.ext xd) hMd rfl hf ⟨d,rfl,bJ⟩ {nw,E,o,L,g1,g2,g3,g4,.inl g6}}
     ·exact h.elim
   |_=>exact h.elim
def wc (fa:Fa)(K:O0)(f:Str):Prop:=∀c C,fa (c7 c)=some C->fH c=f->PySem.W.hasDictIn K C=true/\PySem.W.findIn K (.ref C) f=some none
set_option tactic.hygienic true in
def FI (f:Str)(hc:j4 fa X.K)(hf:wc fa X.K f)(ha:DE fa X a ga)(hb:attributeBase a f X.env (eval a X.env)=eval a X.env):DE fa X (.Attribute a f pos) (tS f ga):=by
 rintro pins s σ H Q I ⟨U,Z,M,hE,hM,h⟩;obtain⟨S,M1,eg,h⟩:=aI h;refine Hc hb (aQ (ha pins s σ H (λv y=>∃j,Ext U H j y/\RelM fa X.K j y M1/\Rep fa X.K j y S v) I {U,Z,M,hE,hM,by rw[eg];exact λv y j P O r1=>⟨j,P,O,r1⟩}) λu s1 ⟨v,y,F,rv,j,P,O,r1⟩=>?_)
 cases S with
 | exc c p=>
   cases p with
   |none=>exact h.elim
   | some i=>
     dsimp only at h;split at h
     ·next R=>
      obtain⟨e,C,dx,rfl,E,hH,d,rfl,hd⟩:=r1;obtain rfl:u=Value.ref e:=rv;obtain⟨⟨o,vs,h1,h2,h3,h4,h5⟩,_,_⟩:=F.hok e _ hH;obtain⟨mA,J,hl⟩:=F.hok d _ hd;obtain⟨od,L,look⟩:=qD J;have Y:Q5 s1.heap e o C (some od):={h1,h2,by unfold PySem.W.notCls;rw[h4],by rw[h3];exact L}
      have B:=hl f;rw[R] at B;simp only[P5,beq_self_eq_true] at B;obtain⟨u,hu,ru⟩:=qj.some_of B;obtain⟨t,rfl⟩:=ru;obtain⟨f1,f2⟩:=hf c C E R;refine tqa (wpAny_mkText (vN F.kIn Y (hc.g c C E).1 (PySem.W.findObj_own f1 f2 rfl (by rw[look f,hu])) ?_))
      exact PySem.W.handed_on rfl {.int i,y,F.tok _,⟨t,rfl⟩,h (.int i) y j P O rfl}
     ·exact h.elim
 |_=>exact h.elim
end
noncomputable def inC (s:Stmt):Stmt:=match s with
 |.ClassDef _ _ _ (b::_) _ _ _ _ _ _ _=>b
 |_=>s
def oq (z y:Str)(a:GE):GE:=λh M=>(a h M).bind λd M=>match d with
 |.int i=>if z.length<=1000/\y.length<=1000/\i.natAbs<2^64 then .ok (.str (z++(toString i:Str)++y)) M else .bad
 |_=>.bad
set_option tactic.hygienic true in
def NV (O:DE fa X a ga):DE fa X (.JoinedStr [.Constant (.str z) j p1,.FormattedValue a (-1) none p2,.Constant (.str y) j2 p3] pos) (oq z y ga):=
 bx (LI O) λW H Q ⟨B,U,M,J,L,h⟩=>by
  obtain⟨R,F,I,h1⟩:=aI h;cases R with
  | int i=>
    have h1:af (if z.length<=1000/\y.length<=1000/\i.natAbs<2^64 then .ok (.str (z++(toString i:Str)++y)) F else .bad) (a7 fa X.K B H Q):=h1;split at h1
    ·next hm=>
     refine{Pk hm.1 (by rw[<- cJ];decide),B,U,M,J,L,?_}
     rw[I];intro v E u S P r1;obtain rfl:v=.int i:=r1;exact{i,rfl,Aa hm.1 hm.2.1 hm.2.2,h1 (.str _) E u S P rfl}
    ·exact h1.elim
  |_=>exact h1.elim
def JZ (K:O0)(C D fI:Addr)(h:Str):Bool:=jY K C fI&&PySem.W.keepIn K (.ref C)&&PySem.W.readsIn K D (.type "type")&&(PySem.W.specialIn K (.ref D) "__getattribute__"==some (some (.builtin "type.__getattribute__")))&&setIn K C h&&PySem.W.keepIn K (.ref fI)
def Cj {K:O0}{st:Stmt}{C D fI cd:Addr}(X:K.In h)(G:h.Ns mainGlobals mg)
 (a:PySem.W.nsIn K mainGlobals x=some (some (.ref C))) (R:PySem.W.nsIn K mainGlobals "DeedError"=some (some (.ref D))) (hf:fa (c7 c)=some C) (b:JZ K C D fI (fH c)=true) (h2:PySem.W.findCls K (.ref D) (.type "type") "__init__"=some (.val (.builtin "ValueError.__init__")))
 (l:K.lookup fI=some {.type "function",none,.func (PySem.W.fnOf "__init__" qual (cW st) (bT st) (aE st) .none .none .none (.str pm t) none (.ref cd) .none),#[]}) (e:PySem.W.codeIn K (.ref cd) qual=true) (S:fW ["self",y] ["self",y] (aE st))
 (hb:bT st=[.Expr (.Call (.Attribute (.Name "DeedError" p1) "__init__" p2) [.Name "self" p3,.JoinedStr [.Constant (.str z) j p4,.FormattedValue (.Name y p5) (-1) none p6] p7] [] p8) p9,.Assign [.Attribute (.Name "self" p10) (fH c) p11] (.Name y p12) p13])
 (I:∀L cd,EJ "DeedError" "__init__" (.Name "self" p3) (.JoinedStr [.Constant (.str z) j p4,.FormattedValue (.Name y p5) (-1) none p6] p7) p1 p2 p8 (envOfC qual (aE st) L fI cd))
 (hz:z.length<=1000) (M:(y==("__debug__":Str))=false) (J:(y==("__classdict__":Str))=false) (v0:(aE st).names.lookup ("self":Str)=some .local) (v1:(aE st).names.lookup y=some .local)
 (hg:∀L cd,(envOfC qual (aE st) L fI cd).kindOf "DeedError"=some .globalImplicit)
 (H:∀(kV v pm:O3) (B:Option Addr) (u ct O Q:O3),bindArgs (PySem.W.fnOf "__init__" qual (cW st) (bT st) (aE st) .none kV v pm B u ct) {[O,Q],[]}=pure ((["self",y]:List Str).zip [O,Q])) (P:PU) (base:Heap):j6 fa P w K mg base c x:=by
 simp only[JZ,O2,beq_iff_eq] at b;obtain⟨⟨⟨⟨⟨b1,b2⟩,b3⟩,U⟩,Y⟩,b6⟩:=b;have F:=z0 l e b6;exact{C,fI,_,y,_,Qw X G a,hf,b1,b2,l,rfl,F.binds λkV v pm B u ct E hl=>MS (p:=λE=>bindArgs (PySem.W.fnOf "__init__" qual (cW st) (bT st) (aE st) .none kV v pm B u ct) {E,[]}=pure ((["self",y]:List Str).zip E)) (H kV v pm B u ct) E hl,
  JY F S hb I hz M J v0 v1 hg (Qw X G R) b3 h2 U b1 Y}
noncomputable def ND (K:O0)(cl:List (Nat×Addr))(f:Str):Bool:=cl.all λq=>!(fH q.1==f)||(PySem.W.hasDictIn K q.2&&PySem.W.findIn K (.ref q.2) f==some none)
def Ho {K:O0}{D:Addr}(h:ND K cl f=true):wc (tU l cl D) K f:=λc C e j=>by
 have:=(Pm.mp h) _ (iI e);simp only[j,beq_self_eq_true,Bool.not_true,Bool.false_or,O2,beq_iff_eq] at this;exact this
def ED (fa:Fa)(K:O0)(mg:Str->Option O3)(x1 x2:Str)(k1 k2:Nat):Prop:=∃h j,mg x1=some (.ref h)/\mg x2=some (.ref j)/\∀c C,c=k1\/c=k2->fa (c7 c)=some C->PySem.W.exmAny K (.ref C) [.ref h,.ref j]=some true
def KZ (fa:Fa)(K:O0):Prop:=∀c C,fa (i7 c)=some C->kD c≠[]->wj K C/\∀f∈kD c,K0 K C f
def oV (fa:Fa)(K:O0)(m:Str)(c f:Nat):Prop:=∃C,fa (i7 c)=some C/\wj K C/\(∀ad,fa f=some ad->Meth K C m ad)/\m∉kD c/\kD c≠[]
noncomputable def n5 (μ:Mu)(k:Nat)(p:Addr):Mu:={μ.pub,μ.priv,λj=>if j=a9 k then some p else μ.ob j}
section
variable{fa:Fa}{K:O0}{μ:Mu}{H:Hp}{M:Mem}
def RelM.ob_ins (h:RelM fa K μ H M)(e:μ.ob (a9 k)=some a):∃o,H a=some o:=by
 by_cases hk:k<M.length
 ·rcases h.at' k M[k] (by simp[hk]) with⟨b,j,h1,_⟩|⟨b,h1,h2,h3⟩
  ·rw[h.sep _ _ h1] at e;cases e
  ·rw[e] at h1;cases h1;exact let{o,z,_}:=h3.hold;⟨o,z⟩
 ·rw[h.oout k (Nat.le_of_not_lt hk)] at e;cases e
end
end LD
namespace LD
open PySem
section
variable{prog:PU}{w:PM}{A:QE}{E:O3->O8->Prop}{s:O8}
abbrev TK (prog:PU)(w:PM)(h:Heap)(ks:List Int)(a:Addr):Prop:=IsTupleKey (intKind prog w) h ks a
inductive hV (prog:PU) (w:PM) (h:Heap):List (List Int)->List O3->Prop
 |nil:hV prog w h [] []
 |cons {ks:List Int}{a:Addr}{kss:List (List Int)}{vs:List O3}:TK prog w h ks a->hV prog w h kss vs->hV prog w h (ks::kss) (.ref a::vs)
def NK (prog:PU)(w:PM)(h:Heap)(j:List (List Int))(a:Addr):Prop:=∃o items n,h.get? a=some o/\o.cls=.type "tuple"/\o.data=.seq items n/\hV prog w h j items.toList
noncomputable def hV.inj:∀{x y:List (List Int)}{vs:List O3},hV prog w h x vs->hV prog w h y vs->x=y
 |_,_,_,.nil,.nil=>rfl
 |_,_,_,.cons a r,.cons b t=>by rw[a.inj b,hV.inj r t]
def NK.typeIs (x:NK prog w s.heap kss a):s.TypeIs (.ref a) "tuple":=let{o,_,_,ho,h,_}:=x;⟨o,ho,h⟩
def NK.inj (B:NK prog w h x a)(F:NK prog w h y a):x=y:=by
 obtain⟨o,i,n,h1,_,h2,h3⟩:=B;obtain⟨J,H,I,j,_,u,v⟩:=F;rw[h1] at j;cases j;rw[h2] at u;cases u;exact h3.inj v
noncomputable def hV.keeps (ho:h.get? d=some o)(hd:o.data=.dict es ep)(hs:QX d h h'):∀{j:List (List Int)}{vs:List O3},hV prog w h j vs->hV prog w h' j vs
 |_,_,.nil=>.nil
 |_,_,.cons a r=>.cons (a.keeps ho hd hs) (hV.keeps ho hd hs r)
def NK.keeps (x:NK prog w h kss a)(ho:h.get? d=some o)(hd:o.data=.dict es ep)(hs:QX d h h'):NK prog w h' kss a:=by
 obtain⟨u,i,n,h1,h2,h3,h4⟩:=x;refine{u,i,n,(hs.2 a λz=>?_).trans h1,h2,h3,h4.keeps ho hd hs};rw[z,ho] at h1;cases h1;rw[hd] at h3;cases h3
noncomputable def sT (prog:PU)(w:PM)(h:List (List Int)):Int:=reduceHash (Builtin.Tuple.tupleHashOf (h.map (tupleKeyHash (intKind prog w))))
noncomputable def lZ (h:List (List Int)):Nat:=(h.map λks=>ks.length+1).sum+1
def F8 (L:A.units+2<cLine)(hk:NK prog w s.heap kss a)(h:Q (sT prog w kss) {s with toks:=s.toks+lZ kss}):wpAny (model prog w) A (pyHash (.ref a)) Q E s:=by
 have y:=hk.typeIs;obtain⟨o,items,n,ho,_,hd,I⟩:=hk;first|unfold pyHashByItsType|skip
 first|refine tqa (wpAny_cRoomFor_or (.inr `a) ?_)|skip
 refine tqa (wpAny_specialOf y F.slot_tuple_hash.lookup ?_);rw[if_neg (by rw[beq_builtin_none];exact PC)]
 refine tqa (wpAny_specialOf y F.slot_tuple_hash.lookup ?_);refine tqa (wpAny_callSpecialIfBoundUnlessNone?_slot y F.slot_tuple_hash (wpAny_call_entry F.slot_tuple_hash y F.entry_tuple_hash ?_ (F.args_tuple_hash_1 _)));show wpAny _ _ (Builtin.Tuple.tupleItemsOf (.ref a) >>= _) _ _ s;refine tqa (wpAny_tupleItemsOf ho hd ?_);refine tqa ?_;rw[<- Array.forIn_toList];refine wpAny_forIn_list _ (λrest (b:Array Int) H=>∃done left,kss=done++left/\hV prog w s.heap left rest/\b.toList=done.map (tupleKeyHash (intKind prog w))/\H={s with toks:=s.toks+(done.map λks=>ks.length+1).sum}) _ ?_ ?_ _ _ {[],kss,rfl,I,rfl,rfl}
 ·rintro x rest b H ⟨done,left,rfl,hl,B,rfl⟩;cases hl with
  | @cons k c u _ h1 j=>
    refine tqa (wpAny_pyHash_tuple ?_ h1 ?_)
    ·show A.units+1<cLine;omega
    ·first
      |exact tqb {done++[k],u,`s,j,by simp[B],by simp[Rt]}
      |exact tqa (tqb (tqb {done++[k],u,`s,j,by simp[B],by simp[Rt]}))
 ·rintro b H ⟨done,left,rfl,hl,B,rfl⟩;cases hl;rw[Qz] at h;show wpAny _ _ (retInt (Builtin.Tuple.tupleHashOf b.toList)) _ _ _;rw[B];refine wpAny_ret_mkInt ?_;generalize J:Builtin.Tuple.tupleHashOf (done.map (tupleKeyHash (intKind prog w)))=v;show wpAny _ _ (if (decide (-(2:Int)^63<=v)&&decide (v<2^63))=true then _ else _) Q E _;unfold sT reduceHash at h;rw[J] at h;by_cases hr:(decide (-(2:Int)^63<=v)&&decide (v<2^63))=true
  ·rw[if_pos hr];rw[if_pos hr] at h;exact tqb (by simpa[lZ,Rt] using h)
  ·rw[if_neg hr];rw[if_neg hr] at h;exact tqa (wpAny_rule (tqb (by simpa[lZ,Rt] using h)))
def wO (hu:A.units<cLine)(hx:NK prog w s.heap x a)(hy:NK prog w s.heap y b)(h:P (.done (.ret (.bool (decide (x=y))))) s) :
 wpAny (model prog w) A (Builtin.«tuple.__eq__» {[.ref a,.ref b],[]}) P E s:=by
 have R:=hy.typeIs;obtain⟨oa,xs,na,Y,_,S,W⟩:=hx;obtain⟨ob,ys,nb,hob,_,U,X⟩:=hy;show wpAny _ _ (isInstance (.ref b) (.type "tuple") >>= _) _ _ s;refine tqa (wpAny_isInstance R isSubtype_tuple_tuple ?_);refine tqa (wpAny_tupleItemsOf Y S (tqa (wpAny_tupleItemsOf hob U (tqa ?_))));refine wpAny_forIn_list _ (λrest r M=>r.1=none/\M=s/\∃O Q B F,rest=List.zip B F/\hV prog w s.heap O B/\hV prog w s.heap Q F/\decide (O=Q)=decide (x=y)/\(B.length==F.length)=(xs.size==ys.size)) _ ?_ ?_ _ _ {rfl,rfl,x,y,xs.toList,ys.toList,rfl,W,X,rfl,`s}
 ·rintro⟨u,v⟩ rest r M ⟨hr,rfl,O,Q,B,F,L,J,I,j,H⟩;cases J with
  |nil=>simp at L
  | @cons k1 u' x2 xs2 h1 hx2=>
    cases I with
    |nil=>simp at L
    | @cons k2 v' y2 ys2 h2 hy2=>
      obtain⟨⟨rfl,rfl⟩,rfl⟩:=L;refine tqa (wpAny_eqBool_tuple hu h1 h2 ?_);by_cases hk:k1=k2
      ·subst hk;rw[decide_eq_true rfl];refine tqb {rfl,rfl,x2,y2,xs2,ys2,rfl,hx2,hy2,?_,by simpa using H}
       rw[<- j];by_cases hxy:x2=y2<;>simp[hxy]
      ·rw[decide_eq_false hk];rw[show decide (x=y)=false by rw[<- j];simp[hk]] at h
       exact tqa (tqb (tqb (tqb h)))
 ·rintro⟨r1,r2⟩ M ⟨hr,rfl,O,Q,B,F,L,J,I,j,H⟩;subst hr;refine tqb ?_;show P (.done (.ret (.bool (xs.size==ys.size)))) M;rw[<- H,show(B.length==F.length)=decide (x=y) from ?_]
  ·exact h
  ·rw[<- j];cases J with
   |nil=>cases I<;>simp
   | cons _ _=>cases I with
     |nil=>simp
     |cons _ _=>simp at L
def LS (B:A.units+2<cLine)(u:NK prog w s.heap x a)(v:NK prog w s.heap y b)(h:Q (decide (x=y)) s):wpAny (model prog w) A (eqBool (.ref a) (.ref b)) Q E s:=by
 unfold eqBool;try with_reducible refine tqo ?_
 by_cases j:(Value.ref a==Value.ref b)=true
 ·rw[if_pos j];obtain rfl:a=b:=by have:=eq_of_beq j;injection this
  obtain rfl:=u.inj v;exact tqa (wpAny_rule (tqb (by simpa using h)))
 ·rw[if_neg j];refine tqa (wpAny_richCompare_same_room u.typeIs v.typeIs F.slot_tuple_eq (wpAny_call_entry F.slot_tuple_eq u.typeIs F.entry_tuple_eq (wO ?_ u v {_,rfl,(λe=>nomatch e),tqp h}) (F.args_tuple_eq_2 _ _)) `a)
  show A.units+1<cLine;omega
def Ba (d:Nat)(hk:TK prog w s.heap ks a)(h:Q true s):wpAny (model prog w) A (eqIsQuiet (d+1) (.ref a)) Q E s:=by
 have H:=hk.typeIs;obtain⟨o,items,n,ho,_,hd,I⟩:=hk;unfold eqIsQuiet;refine tqa (wpAny_specialOf H F.slot_tuple_eq.lookup ?_);refine tqa (wpAny_isInstance H isSubtype_tuple_tuple ?_);refine tqa (wpAny_seqItems ho hd (tqa ?_));rw[<- Array.forIn_toList];refine wpAny_forIn_list _ (λrest r B=>r.1=none/\B=s/\∀v∈rest,carriedByValue v=true) _ ?_ ?_ _ _ ⟨rfl,rfl,I.byValue⟩
 ·rintro v rest r B ⟨hr,rfl,j⟩;rw[eqIsQuiet_byValue _ (j v Pn)];refine tqa (tqb ?_);exact tqb {rfl,rfl,λu y=>j u (Pa _ y)}
 ·rintro⟨r1,r2⟩ B ⟨hr,rfl,_⟩;subst hr;exact tqb h
def BW (hk:NK prog w s.heap kss a)(h:Q true s):wpAny (model prog w) A (eqIsQuiet 8 (.ref a)) Q E s:=by
 have B:=hk.typeIs;obtain⟨o,items,n,ho,_,hd,H⟩:=hk;unfold eqIsQuiet;refine tqa (wpAny_specialOf B F.slot_tuple_eq.lookup ?_);refine tqa (wpAny_isInstance B isSubtype_tuple_tuple ?_);refine tqa (wpAny_seqItems ho hd (tqa ?_));rw[<- Array.forIn_toList];refine wpAny_forIn_list _ (λrest r y=>r.1=none/\y=s/\∃ks,hV prog w s.heap ks rest) _ ?_ ?_ _ _ ⟨rfl,rfl,kss,H⟩
 ·rintro v rest r y ⟨hr,rfl,ks,hl⟩;cases hl with
  | @cons k c u _ h1 j=>
    refine tqa (Ba 6 h1 ?_);exact tqb ⟨rfl,rfl,u,j⟩
 ·rintro⟨r1,r2⟩ y ⟨hr,rfl,_⟩;subst hr;exact tqb h
end
def Jr (prog:PU)(w:PM):HeapKind prog w (List (List Int)) where
 is:=NK prog w
 hash:=sT prog w
 draws:=lZ
 room:=λA=>A.units+2<cLine
 inj:=λu v=>u.inj v
 keeps:=λx ho hd hs=>x.keeps ho hd hs
 pyHash:=λj hk h=>F8 j hk h
 eqBool:=λj u v h=>LS j u v h
 quiet:=λhk h=>BW hk h
end LD
namespace LD
open PySem PySem.Spec PyProof.Rows
section
variable{prog:PU}{w:PM}{K:Type}[DecidableEq K]{knd:HeapKind prog w K}{A:QE}{E:O3->O8->Prop}{s:O8}
def iE (knd:HeapKind prog w K)(h:Heap)(d:Addr)(xs:List (K×Addr×O3)):Prop:=
 ∃o j,h.get? d=some o/\o.ExactDict/\o.data=.dict j xs.length/\j.toList=xs.map (entryOfKey knd)/\(∀x∈xs,knd.is h x.1 x.2.1)/\(xs.map (·.1)).Nodup
def iE.of (x:iE knd h d xs):h.DictOfH knd d xs:=let⟨o,j,r⟩:=x;{o,j,_,r}
def kF (P:knd.room A)(h:knd.is s.heap k a)(hm:iE knd s.heap d xs)
 (L:∀J,iE knd J d (storedH xs k a v)->QX d s.heap J->Q () {s with heap:=J,toks:=s.toks+knd.draws k})
 (hsz:xs.length<=sizeLine) :
 wpAny (model prog w) A (dictSet d (.ref a) v) Q E s:=by
 obtain⟨o,R,ho,M,hd,he,B,hn⟩:=hm;unfold dictSet;try with_reducible refine tqo ?_
 refine tqa (knd.pyHash P h ?_);unfold dictSetHashed;try with_reducible refine tqo ?_
 refine tqa (wpAny_dictFind_heap P h ho hd he B hn ?_ ?_)
 ·intro F;have H:=not_mem_keys_of_get F;have e:=storedH_new (atKey_none_of_get F);refine tqa (wpAny_rule (wpAny_updateDictKeys (hz:=by have e:=size_of_entries he;omega) ho hd (L _ {_,_,QB _ ho (Obj.isFreed_of_dict (Obj.data_mapDictKeys hd _)),
   M.mapDictKeys _,(Obj.data_mapDictKeys hd _).trans (by rw[e,Pt];rfl),?_,?_,?_} (QT ..))))
  ·rw[e];simp[he,entryOfKey]
  ·rw[e];intro x u;rcases PJ.mp u with u|u
   ·exact knd.keeps (B x u) ho hd (QT ..)
   ·simp only[Pj] at u;subst u;exact knd.keeps h ho hd (QT ..)
  ·rw[e];rw[PL,List.nodup_append];refine{hn,`s,?_}
   intro x u y I;simp only[Qt,List.map_nil,Pj] at I;subst I;exact λe=>H (e ▸ u)
 ·intro j p O;have e:=storedH_old (atKey_of_get hn O);refine tqa (wpAny_rule (tqa (wpAny_updateDict ho hd (wpAny_point (L _ {_,_,QB _ ho (Obj.isFreed_of_dict (Obj.data_mapDict hd _)),
   M.mapDict _,(Obj.data_mapDict hd _).trans (by rw[e,O7]),?_,?_,?_} (QT ..))))))
  ·rw[e];have:=modify_map_putAt (entryOfKey knd) (λe:QS=>{e with val:=v}) k v (λ_ _=>rfl) hn O
   rw[<- he] at this;obtain⟨l⟩:=R;simpa using this
  ·rw[e];intro x u;obtain⟨y,I,rfl⟩:=Pp.mp u;unfold putAt;split<;>exact knd.keeps (B y I) ho hd (QT ..)
  ·rw[e];rw[keys_map_putAt];exact hn
def wA (H:knd.room A.in1)(j:knd.is s.heap k a)(hm:iE knd s.heap d xs)
 (F:∀h,iE knd h d (storedH xs k a v)->QX d s.heap h->Q () {s with heap:=h,toks:=s.toks+knd.draws k})
 (hsz:xs.length<=sizeLine) :
 wpAny (model prog w) A (setItem (.ref d) (.ref a) v) Q E s:=by
 have u:=hm.of.typeIs;unfold setItem;try with_reducible refine tqo ?_
 refine tqa (wpAny_sequenceKey u `d ?_)
 refine tqa (wpAny_callSpecial?_slot u slot_dict_setitem
  (wpAny_call_entry slot_dict_setitem u entry_dict_setitem ?_ (args_dict_setitem _ _ _)))
 refine tqa (wpAny_notOrdered_dict u ?_);show wpAny _ _ (dictSet d (.ref a) v >>= _) _ _ s;exact tqa (kF (hsz:=hsz) H j hm λh y B=>tqb {.none,rfl,tqb (F h y B)})
end
end LD
namespace LD
open PySem PySem.Spec PyProof.Rows L2
noncomputable def jI (c:GT)(b:GS):Nat->Env->Mem->Res Fl
 |0,_,_=>.bad
 | n+1,h,M=>(c h M).bind λk M=>if k then(b h M).bind λfl M=>(match fl with
   |.next h=>jI c b n h M
   |fl=>.ok fl M) else .ok (.next h) M
def lg (c:GT)(b:GS):GS:=λh M=>jI c b 100000 h M
section
variable{fa:Fa}{X:Cx}{c:Expr}{body:List Stmt}{gc:GT}{gb:GS}{pos:Pos}
set_option tactic.hygienic true in
def Fu (hp:PassesOwn (model X.prog X.w) X.A X.env X.xe)(hc:DT fa X c gc)(hb:j7 fa X body gb):DS fa X (.While c body [] pos) (lg gc gb):=
 dm (BI hp hc hb) λD' σ H ⟨L,Z,M,hE,hM,h⟩=>by
  refine{λm v y=>∃j u B,Ext L H j y/\bc fa X.K j y v u/\RelM fa X.K j y B/\af (jI gc gb m u B) (lS fa X L H D'),{100000,L,Z,M,.refl,hE,hM,h},?_};rintro m σ2 H2 ⟨μ2,P,M2,R,E,U,q2⟩;cases m with
  |zero=>exact q2.elim
  | succ m=>
    obtain⟨k,M3,e3,q3⟩:=aI q2;refine{μ2,P,M2,E,U,?_};rw[e3];intro H3 O J I;have F:=E.ext J;cases k with
    |false=>exact q3 σ2 H3 O (R.trans J) F I
    | true=>
      obtain⟨fl,M4,e4,Y⟩:=aI q3;refine{λv y=>∃j u B,Ext L H j y/\bc fa X.K j y v u/\RelM fa X.K j y B/\af (jI gc gb m u B) (lS fa X L H D'),λv y z=>{m,Nat.lt_succ_self m,z},O,P,M3,F,I,?_};rw[e4];cases fl with
      |next Q=>exact λσ6 H6 μ6 x6 S W=>{μ6,Q,M4,(R.trans J).trans x6,S,W,Y}
      |ret d6=>exact a7.ext Y (R.trans J)
      |exc x6 Q=>exact XW.ext Y (R.trans J)
end
theorem vG {K:O0}:∀{ds:List D}{vs:List V}{us:List O3}{ks:List Int},aG fa K μ H ds vs->Vals vs us->intsOf ds=some ks->ItemsAre (intKind prog w) ks us
 | [],vs,us,ks,h,r,e=>by
   obtain rfl:vs=[]:=h;cases r;cases e;exact .nil
 | .int i::ds,vs,us,ks,h,r,e=>by
   obtain⟨v,vr,rfl,p,q⟩:=h;cases r with
   | cons r1 r2=>
     obtain⟨k,ek,e⟩:=Pq.mp e;subst e;obtain rfl:v=.int i:=p;obtain⟨t,rfl⟩:=r1;exact .cons (by simp[intKind,Value.isInt]) (vG q r2 ek)
 |.non::_,_,_,_,_,_,e=>by cases e
 |.bl _::_,_,_,_,_,_,e=>by cases e
 |.str _::_,_,_,_,_,_,e=>by cases e
 |.tup _::_,_,_,_,_,_,e=>by cases e
 |.lst _::_,_,_,_,_,_,e=>by cases e
 |.frz _::_,_,_,_,_,_,e=>by cases e
 |.cell _::_,_,_,_,_,_,e=>by cases e
 |.fn _::_,_,_,_,_,_,e=>by cases e
 |.exc _ _::_,_,_,_,_,_,e=>by cases e
section
variable{fa:Fa}{X:Cx}{pins:List (Addr×Obj)}{σ:L2.St}{H:Hp}{s:O8}{μ:Mu}
def yx (I:Inv X pins σ H s)(r:Rep fa X.K μ H (.tup ds) (.ref b)):∃vs h o n,aG fa X.K μ H ds vs/\Vals vs h/\s.heap.get? b=some o/\o.cls=.type "tuple"/\o.data=.seq h.toArray n:=by
 obtain⟨a,vs,e,j,u⟩:=r;cases e;obtain⟨h,v,p,_⟩:=I.tuple j;obtain⟨o,h1,h2,n,h3⟩:=p;exact⟨vs,h,o,n,u,v,h1,h2,h3⟩
def vE (I:Inv X pins σ H s)(r:Rep fa X.K μ H d (.ref b))(e:lD d=some ks):TK X.prog X.w s.heap ks b:=by
 cases d with
 | tup v=>
   obtain⟨y,h,o,n,j,u,h1,h2,h3⟩:=yx I r;exact{o,h.toArray,n,h1,h2,h3,by simpa using vG j u e}
 |_=>cases e
theorem tB (I:Inv X pins σ H s):∀{ds:List D}{vs:List V}{us:List O3}{j:List (List Int)},aG fa X.K μ H ds vs->Vals vs us->ja ds=some j->hV X.prog X.w s.heap j us
 | [],vs,us,j,h,r,e=>by
   obtain rfl:vs=[]:=h;cases r;cases e;exact .nil
 | d::ds,vs,us,j,h,r,e=>by
   obtain⟨v,vr,rfl,p,q⟩:=h;cases r with
   | cons r1 r2=>
     obtain⟨k,ek,e⟩:=Px.mp e;obtain⟨E,u,e⟩:=Pq.mp e;subst e;cases d with
     | tup y=>
       obtain⟨a,J,rfl,B,F⟩:=id p;obtain rfl:=(r1);exact .cons (vE I p ek) (tB I q r2 u)
     |_=>cases ek
def Gm (I:Inv X pins σ H s)(r:Rep fa X.K μ H d (.ref b))(e:pI d=some kss):NK X.prog X.w s.heap kss b:=by
 cases d with
 | tup v=>
   obtain⟨y,h,o,n,j,u,h1,h2,h3⟩:=yx I r;exact{o,h.toArray,n,h1,h2,h3,by simpa using tB I j u e}
 |_=>cases e
end
theorem tM:∀{a b:List D}{x y:List Int},intsOf a=some x->intsOf b=some y->dz a b=decide (x=y)/\(x=y->a=b)
 |[],[],_,_,e,f=>by cases e;cases f;exact{rfl,λ_=>rfl}
 | [],.int j::b,_,_,e,f=>by
   obtain⟨_,_,rfl⟩:=Pq.mp f;cases e;exact{by simp[dz],λz=>by cases z}
 | .int i::a,[],_,_,e,f=>by
   obtain⟨_,_,rfl⟩:=Pq.mp e;cases f;exact{by simp[dz],λz=>by cases z}
 | .int i::a,.int j::b,_,_,e,f=>by
   obtain⟨x,e1,rfl⟩:=Pq.mp e;obtain⟨y,f1,rfl⟩:=Pq.mp f;obtain⟨h1,h2⟩:=tM e1 f1;refine{?_,λz=>?_}
   ·show(i==j&&dz a b)=_;rw[h1];by_cases z:i=j<;>simp[z]
   ·cases z;rw[h2 rfl]
 |.non::_,_,_,_,e,_=>by cases e
 |.bl _::_,_,_,_,e,_=>by cases e
 |.str _::_,_,_,_,e,_=>by cases e
 |.tup _::_,_,_,_,e,_=>by cases e
 |.lst _::_,_,_,_,e,_=>by cases e
 |.frz _::_,_,_,_,e,_=>by cases e
 |.cell _::_,_,_,_,e,_=>by cases e
 |.fn _::_,_,_,_,e,_=>by cases e
 |.exc _ _::_,_,_,_,e,_=>by cases e
 |_,.non::_,_,_,_,e=>by cases e
 |_,.bl _::_,_,_,_,e=>by cases e
 |_,.str _::_,_,_,_,e=>by cases e
 |_,.tup _::_,_,_,_,e=>by cases e
 |_,.lst _::_,_,_,_,e=>by cases e
 |_,.frz _::_,_,_,_,e=>by cases e
 |_,.cell _::_,_,_,_,e=>by cases e
 |_,.fn _::_,_,_,_,e=>by cases e
 |_,.exc _ _::_,_,_,_,e=>by cases e
def m8 (e:lD d=some x):∃ds,d=.tup ds/\intsOf ds=some x:=by
 cases d with
 |tup ds=>exact⟨ds,rfl,e⟩
 |_=>cases e
def tD (e:lD a=some x)(f:lD b=some y):bH a b=decide (x=y)/\(x=y->a=b):=by
 obtain⟨h,rfl,e⟩:=m8 e;obtain⟨bs,rfl,f⟩:=m8 f;obtain⟨h1,h2⟩:=tM e f;exact{h1,λz=>by rw[h2 z]}
theorem qE:∀{a b:List D}{x y:List (List Int)},ja a=some x->ja b=some y->dz a b=decide (x=y)/\(x=y->a=b)
 |[],[],_,_,e,f=>by cases e;cases f;exact{rfl,λ_=>rfl}
 | [],d::b,_,_,e,f=>by
   obtain⟨_,_,f⟩:=Px.mp f;obtain⟨_,_,rfl⟩:=Pq.mp f;cases e;exact{by simp[dz],λz=>by cases z}
 | d::a,[],_,_,e,f=>by
   obtain⟨_,_,e⟩:=Px.mp e;obtain⟨_,_,rfl⟩:=Pq.mp e;cases f;exact{by simp[dz],λz=>by cases z}
 | d::a,j::b,_,_,e,f=>by
   obtain⟨k,ek,e⟩:=Px.mp e;obtain⟨x,e1,rfl⟩:=Pq.mp e;obtain⟨B,h,f⟩:=Px.mp f;obtain⟨y,f1,rfl⟩:=Pq.mp f;obtain⟨u,v⟩:=tD ek h;obtain⟨h1,h2⟩:=qE e1 f1;refine{?_,λz=>?_}
   ·show(bH d j&&dz a b)=_;rw[h1,u];by_cases z:k=B<;>simp[z]
   ·cases z;rw[h2 rfl,v rfl]
def Cc (e:pI a=some x)(f:pI b=some y):bH a b=decide (x=y)/\(x=y->a=b):=by
 cases a with
 | tup h=>
   cases b with
   | tup bs=>
     obtain⟨h1,h2⟩:=qE e f;exact{h1,λz=>by rw[h2 z]}
   |_=>cases f
 |_=>cases e
structure KD (X:Cx) (c:Int) where
 K:Type
 dq:DecidableEq K
 knd:HeapKind X.prog X.w K
 dec:D->Option K
 hash:∀d,l5 c d=(dec d).map knd.hash
 is:∀{fa:Fa}{μ:Mu}{H:Hp}{pins:List (Addr×Obj)}{σ:L2.St}{s:O8}{d:D}{b:Addr}{k:K},Inv X pins σ H s->Rep fa X.K μ H d (.ref b)->dec d=some k->knd.is s.heap k b
 beq:∀{a b:D}{x y:K},dec a=some x->dec b=some y->bH a b=decide (x=y)/\(x=y->a=b)
 ref:∀{fa:Fa}{μ:Mu}{H:Hp}{d:D}{v:V}{k:K},Rep fa X.K μ H d v->dec d=some k->∃b,v=.ref b
 room:Rm X->knd.room X.A.in1
 room0:Rm X->knd.room X.A
def KD.f (X:Cx):KD X 77 where
 K:=List Int
 dq:=inferInstance
 knd:=tupleKind (intKind X.prog X.w)
 dec:=lD
 hash:=λd=>by unfold l5;rw[if_pos rfl];rfl
 is:=λI r e=>vE I r e
 beq:=λe f=>tD e f
 ref:=λr e=>by
  obtain⟨j,rfl,_⟩:=m8 e;obtain⟨a,_,rfl,_⟩:=r;exact⟨a,rfl⟩
 room:=λh=>by show X.A.units+1<cLine;unfold Rm at h;omega
 room0:=λh=>by show X.A.units<cLine;unfold Rm at h;omega
def KD.n (X:Cx):KD X 78 where
 K:=List (List Int)
 dq:=inferInstance
 knd:=Jr X.prog X.w
 dec:=pI
 hash:=λd=>by unfold l5;rw[if_neg `d,if_pos rfl];rfl
 is:=λI r e=>Gm I r e
 beq:=λe f=>Cc e f
 ref:=λ{fa μ H d v k} r e=>by
  cases d with
  | tup j=>
    obtain⟨a,_,rfl,_⟩:=r;exact⟨a,rfl⟩
  |_=>cases e
 room:=λh=>by show X.A.units+1+2<cLine;unfold Rm at h;omega
 room0:=λh=>by show X.A.units+2<cLine;unfold Rm at h;omega
noncomputable instance kdq {X:Cx}{c:Int} (kd:KD X c):DecidableEq kd.K:=kd.dq
noncomputable def kS (p:D×D):D:=.tup [p.1,p.2]
section
variable{fa:Fa}{X:Cx}{pins:List (Addr×Obj)}{σ:L2.St}{H:Hp}{s:O8}{μ:Mu}{c:Int}{kd:KD X c}{kvs:List (D×D)}
abbrev DP (fa:Fa)(X:Cx)(μ:Mu)(H:Hp){c:Int}(kd:KD X c):List (D×D)->List (kd.K×Addr×O3)->Prop:=Q0 λp x=>kd.dec p.1=some x.1/\Rep fa X.K μ H p.1 (.ref x.2.1)/\∃v,RelV v x.2.2/\Rep fa X.K μ H p.2 v
theorem KD.xs (kd:KD X c):∀{kvs:List (D×D)}{es:List QS},Q0 (CZ fa X.K μ H c) kvs es->∃xs,es=xs.map (entryOfKey kd.knd)/\DP fa X μ H kd kvs xs
 |_,_,.nil=>{[],rfl,.nil}
 | _,_,.cons ⟨b,v,e1,e2,h,j,u⟩ r=>by
   obtain⟨xs,rfl,q⟩:=KD.xs kd r;rw[kd.hash] at e2;obtain⟨k,ek,y⟩:=Pq.mp e2;refine{(k,b,_)::xs,?_,.cons ⟨ek,h,v,j,u⟩ q};rw[Qt]
   congr 1
   unfold entryOfKey;rw[y,<- e1]
def KD.back {xs:List (kd.K×Addr×O3)}:∀{kvs:List (D×D)},DP fa X μ H kd kvs xs->Q0 (CZ fa X.K μ H c) kvs (xs.map (entryOfKey kd.knd)):=by
 intro kvs h;induction h with
 |nil=>exact .nil
 |cons r _ j=>exact .cons (let⟨h1,h2,v,h3,h4⟩:=r;{_,v,rfl,by rw[kd.hash,h1];rfl,h2,h3,h4}) j
def DP.mem (h:DP fa X μ H kd kvs xs)(m:x∈xs):∃p∈kvs,kd.dec p.1=some x.1/\Rep fa X.K μ H p.1 (.ref x.2.1):=by
 induction h with
 |nil=>cases m
 | cons r _ u=>
   rcases Pr.mp m with rfl|m
   ·exact{_,Pn,r.1,r.2.1}
   ·obtain⟨p,j,q⟩:=u m;exact{p,Pa _ j,q}
def DP.nodup (h:DP fa X μ H kd kvs xs)(n:(kvs.map (·.1)).Nodup):(xs.map (·.1)).Nodup:=by
 induction h with
 |nil=>exact List.nodup_nil
 | @cons p x ps E r t u=>
   rw[Qt,Qy] at n ⊢;refine{λm=>n.1 ?_,u n.2};obtain⟨y,B,j⟩:=Pp.mp m;obtain⟨q,v,e1,_⟩:=DP.mem t B;have:=(kd.beq r.1 e1).2 j.symm;rw[this];exact Pp.mpr ⟨q,v,rfl⟩
def KD.dict {xs:List (kd.K×Addr×O3)}(I:Inv X pins σ H s)(e:H a=some (.dn (xs.map (entryOfKey kd.knd))))(h:DP fa X μ H kd kvs xs)(n:(kvs.map (·.1)).Nodup):(a==sysModules)=false/\xs.length<=sizeLine/\iE kd.knd s.heap a xs:=by
 obtain⟨z,y,o,h1,h2,h3⟩:=(I.hok a _ e);refine{y,by simpa using z,o,_,h1,h2,by rw[h3,O7],`s,λx j=>?_,h.nodup n}
 obtain⟨p,_,e1,e2⟩:=h.mem j;exact kd.is I e2 e1
def DP.look (h:DP fa X μ H kd kvs xs)(hk:kd.dec k=some kk):(c9 (kvs.map kS) k=none/\atKey xs kk=none)\/∃d b v u,c9 (kvs.map kS) k=some d/\atKey xs kk=some (b,u)/\RelV v u/\Rep fa X.K μ H d v:=by
 induction h with
 |nil=>exact .inl ⟨rfl,rfl⟩
 | @cons p x ps y r t j=>
   obtain⟨h1,h2,v,h3,h4⟩:=r;have b:=(kd.beq h1 hk).1;unfold c9 atKey at j ⊢;rw[Qt,List.find?_cons,List.find?_cons];rw[show bH (xv (kS p)) k=decide (x.1=kk) from b];by_cases z:x.1=kk
   ·rw[decide_eq_true z];exact .inr ⟨p.2,x.2.1,v,x.2.2,rfl,rfl,h3,h4⟩
   ·rw[decide_eq_false z];exact j
def jy (kvs:List (D×D))(k d:D):List (D×D):=if (c9 (kvs.map kS) k).isSome then kvs.map (λp=>if bH p.1 k then(p.1,d) else p) else kvs++[(k,d)]
def IM (kvs:List (D×D))(k d:D):(jy kvs k d).map kS=putD (kvs.map kS) k d:=by
 unfold jy putD;split
 ·rw[QG,QG];refine Q4 λp _=>?_;show kS (if bH p.1 k then(p.1,d) else p)=if bH p.1 k then _ else _;split<;>rfl
 ·rw[PL];rfl
def yW (kvs:List (D×D))(k d:D):(jy kvs k d).map (·.1)=if (c9 (kvs.map kS) k).isSome then kvs.map (·.1) else kvs.map (·.1)++[k]:=by
 unfold jy;split
 ·rw[QG];refine Q4 λp _=>?_;show(if bH p.1 k then(p.1,d) else p).1=p.1;split<;>rfl
 ·rw[PL];rfl
set_option tactic.hygienic true in
def DP.put (h:DP fa X μ H kd kvs xs)(hk:kd.dec k=some kk)(B:Rep fa X.K μ H k (.ref b))(j:RelV v u)(rd:Rep fa X.K μ H d v):DP fa X μ H kd (jy kvs k d) (storedH xs kk b u):=by
 have e:(c9 (kvs.map kS) k).isSome=(atKey xs kk).isSome:=by
  rcases h.look hk with⟨h1,h2⟩|⟨_,_,_,_,h1,h2,_⟩<;>rw[h1,h2]<;>rfl
 unfold jy storedH;rw[e];split
 ·next hs=>
  clear e hs;induction h with
  |nil=>exact .nil
  | @cons p x ps E r t y=>
    refine .cons ?_ y;have b2:=(kd.beq r.1 hk).1;unfold putAt;dsimp only;rw[b2];by_cases z:x.1=kk
    ·rw[decide_eq_true z,if_pos z,if_pos rfl];exact⟨r.1,r.2.1,v,j,rd⟩
    ·rw[decide_eq_false z,if_neg z,if_neg PC];exact r
 ·exact Paired.snoc h ⟨hk,B,v,j,rd⟩
set_option tactic.hygienic true in
def DP.keys (h:DP fa X μ H kd kvs xs)(n:(kvs.map (·.1)).Nodup)(hk:kd.dec k=some kk):((jy kvs k d).map (·.1)).Nodup:=by
 rw[yW];split
 ·exact n
 ·next z=>
  refine List.nodup_append.mpr {n,`s,λa u b v q=>z ?_}
  obtain rfl:=Pj.mp v;subst q;obtain⟨p,y,j⟩:=Pp.mp u;rw[c9,Rh,List.find?_isSome];refine{kS p,Pp.mpr ⟨p,y,rfl⟩,?_};show bH p.1 a=true;rw[j,(kd.beq hk hk).1];exact decide_eq_true rfl
end
def je (a b:GE):GE:=λh M=>(a h M).bind λx M=>(b h M).bind λk M=>match x with
 |.fn o=>bV M (getD M o k)
 |_=>.bad
def lH (n:Bool)(a b:GE):GE:=λh M=>(a h M).bind λk M=>(b h M).bind λx M=>match x with
 | .fn o=>(match inD M o k with
   |some r=>.ok (.bl (n != r)) M
   |none=>.bad)
 |_=>.bad
def kj (a b d:GE):GS:=λh M=>(d h M).bind λz M=>(a h M).bind λx M=>(b h M).bind λk M=>match x with
 | .fn o=>(match cN M o with
   |some q=>if isKey q.1 k=true/\q.2.length<1000000 then .ok (.next h) (M.set (o-5000) (.int q.1::putD q.2 k z)) else .bad
   |none=>.bad)
 |_=>.bad
structure ig (fa:Fa):Prop where
 of:∀o,5000<=o->fa o=none
 n77:fa (i7 77)=none
 n78:fa (i7 78)=none
section
variable{fa:Fa}{K:O0}{μ:Mu}{H:Hp}{M:Mem}
def Ext.dic (h:RelM fa K μ H M)(v:H a=some (.dn es)):Ext μ H μ (upd H a (.dn es')):=by
 have ne:∀{b o},H b=some o->(∀es,o≠.dn es)->b≠a:=λg n z=>by rw[z,v] at g;cases g;exact n _ rfl
 refine{{λ_ _ q=>q,λb j g=>?_,λb j g n=>{by rw[ao (ne g (λ_ z=>by cases z))];exact g,n},λb ob u g=>by rw[ao (ne g (λ_ z=>by cases z))];exact g,λb o i g=>?_,λ_ _ q=>q},rfl,λb y=>?_}
 ·rcases g with g|⟨ob,g⟩
  ·exact .inl (by rw[ao (ne g (λ_ z=>by cases z))];exact g)
  ·exact .inr {ob,by rw[ao (ne g (λ_ z=>by cases z))];exact g}
 ·rw[ao (ne g (λ_ z=>by rcases i with⟨_,i⟩|⟨_,i⟩<;>(rw[i] at z;cases z)))];exact g
 ·obtain⟨⟨j,g⟩,_⟩:=h.pv b y;rw[ao (ne g (λ_ z=>by cases z))]
def RelM.dicW (h:RelM fa K μ H M)(e:M[k]?=some ds)(v:μ.ob (a9 k)=some a)(I:H a=some (.dn es))(new:iZ fa K μ (upd H a (.dn es')) a y):RelM fa K μ (upd H a (.dn es')) (M.set k y):=by
 have x:Ext μ H μ (upd H a (.dn es')):=Ext.dic h I;refine{λj B q=>?_,λj u=>h.out j (by simpa using u),λj u=>h.oout j (by simpa using u),h.inj,h.oinj,h.sep,λb E=>{let{⟨F,g⟩,_}:=h.pv b E;{F,by rw[x.pk b E];exact g},(h.pv b E).2}}
 by_cases u:j=k
 ·subst u;rw[PK (O1.mp e).1] at q;cases q;refine .inr {a,v,?_,new};cases z:μ.pub j with
  |none=>rfl
  |some b=>rw[h.sep j b z] at v;cases v
 ·rw[Pc (Qi u)] at q;rcases h.at' j B q with⟨b,F,h1,h2,h3⟩|⟨b,h1,h2,h3⟩
  ·exact .inl {b,F,h1,by rw[ao (λz=>by rw[z,I] at h2;cases h2)];exact h2,h3.ext x}
  ·exact .inr {b,h1,h2,h3.extW x.toExtW (ao λz=>u (h.oinj _ _ a (z ▸ h1) v))}
set_option tactic.hygienic true in
def Ext.dicNew (h:RelM fa K μ H M)(u:H x=none):Ext μ H (n5 μ M.length x) (upd H x (.dn [])):=by
 have e:Ext μ H μ (upd H x (.dn [])):=Ext.alloc h u;refine{{e.mu,e.tups,λb v g n=>{(e.lsts b v g n).1,n},e.frzs,e.exts,λj b z=>?_},rfl,e.pk};show(if j=a9 M.length then some x else μ.ob j)=some b;split
 ·next q=>rw[q,h.oout _ (O4 _)] at z;cases z
 ·exact z
set_option tactic.hygienic true in
def RelM.dicNew {c:Int}(h:RelM fa K μ H M)(u:H x=none)(F:c=77\/c=78):RelM fa K (n5 μ M.length x) (upd H x (.dn [])) (M++[[.int c]]):=by
 have X:=Ext.dicNew h u;have old:∀{b o},H b=some o->(upd H x (.dn [])) b=some o:=λg=>by rw[ao (aS g u)];exact g
 have pc:∀{k b},(n5 μ M.length x).ob (a9 k)=some b->(k=M.length/\b=x)\/μ.ob (a9 k)=some b:=λ{k b} z=>by
  have z:(if a9 k=a9 M.length then some x else μ.ob (a9 k))=some b:=z;split at z
  ·next q=>cases z;exact .inl {Nat.add_left_cancel q,rfl}
  ·exact .inr z
 refine{λk E q=>?_,λk hk=>h.out k (by simp at hk;omega),λk hk=>?_,h.inj,λj k b e1 e2=>?_,λk b z=>?_,λb B=>{?_,(h.pv b B).2}}
 ·by_cases hk:k<M.length
  ·rw[O9 hk] at q;rcases h.at' k E q with⟨b,y,h1,h2,h3⟩|⟨b,h1,h2,h3⟩
   ·exact .inl {b,y,h1,old h2,h3.ext X}
   ·exact .inr {b,X.obs _ _ h1,h2,h3.extW X.toExtW (by obtain⟨o,e,_⟩:=h3.hold;rw[old e,e])}
  ·have v:k=M.length:=by
    have:=(O1.mp q).1;simp at this;omega
   subst v;rw[Py (O4 _)] at q;simp at q;subst q;exact .inr {x,by show(if a9 M.length=a9 M.length then some x else _)=some x;rw[if_pos rfl],h.out _ (O4 _),.inr {c,[],[],bJ,F,rfl,.nil,List.nodup_nil}}
 ·show(if a9 k=a9 M.length then some x else μ.ob (a9 k))=none;simp at hk;rw[if_neg (λz=>by have:=Nat.add_left_cancel z;omega)]
  exact h.oout k `a
 ·rcases pc e1 with⟨a1,a2⟩|a1<;>rcases pc e2 with⟨b1,b2⟩|b1
  ·omega
  ·subst a2;obtain⟨_,z⟩:=h.ob_ins b1;rw[u] at z;cases z
  ·subst b2;obtain⟨_,z⟩:=h.ob_ins a1;rw[u] at z;cases z
  ·exact h.oinj j k b a1 b1
 ·show(if a9 k=a9 M.length then some x else μ.ob (a9 k))=none;have z:μ.pub k=some b:=z;rw[if_neg (λq=>by rw[Nat.add_left_cancel q,h.out _ (O4 _)] at z;cases z)]
  exact h.sep k b z
 ·obtain⟨⟨y,g⟩,_⟩:=h.pv b B;exact{y,old g}
end
section
variable{fa:Fa}{X:Cx}{pins:List (Addr×Obj)}{σ:L2.St}{H:Hp}{s:O8}{μ:Mu}{M:Mem}
set_option tactic.hygienic true in
def m9 {c:Int}(h:isKey c d=true)(kd:KD X c):∃kk,kd.dec d=some kk:=by
 have e:(l5 c d).isSome=true:=by
  unfold isKey at h;unfold l5;split at h
  ·next z=>rw[if_pos z,Rh];exact h
  ·next z=>
   rw[if_neg z];split at h
   ·next y=>rw[if_pos y,Rh];exact h
   ·cases h
 rw[kd.hash,Rh] at e;exact Option.isSome_iff_exists.mp e
def L1 {c:Int}(X:Cx)(h:c=77\/c=78):Nonempty (KD X c):=by
 rcases h with rfl|rfl
 ·exact{KD.f X}
 ·exact{KD.n X}
set_option tactic.hygienic true in
def oF (hd:ig fa)(I:Inv X pins σ H s)(O:RelM fa X.K μ H M)(r:Rep fa X.K μ H (.fn o) v)(e:cN M o=some q) :
 ∃(a:Addr) (kd:KD X q.1) (h:List (D×D)) (xs:List (kd.K×Addr×O3)),v=.ref a/\5000<=o/\μ.ob o=some a/\M[o-5000]?=some (.int q.1::q.2)/\H a=some (.dn (xs.map (entryOfKey kd.knd)))/\(q.1=77\/q.1=78)/\q.2=h.map kS/\DP fa X μ H kd h xs/\(h.map (·.1)).Nodup:=by
 unfold cN at e;split at e
 ·next ho=>
  split at e
  ·next c R E=>
   split at e
   ·next B=>
    cases e;obtain⟨a,rfl,j⟩:=r;rcases j with j|⟨_,j⟩
    ·rw[hd.of o ho] at j;cases j
    have F:a9 (o-5000)=o:=Nat.add_sub_cancel' ho;rcases O.at' _ _ E with⟨b,S,h1,_⟩|⟨b,h1,h2,⟨n,C,Q,fs,y,h3,h4,J,u,L⟩|⟨P,y,h,h3,h4,J,u,L⟩⟩
    ·have:=O.sep _ _ h1;rw[F,j] at this;cases this
    ·have u:=(List.cons.inj u).1;have u:=D.int.inj u;rcases B with rfl|rfl
     ·have:n=77:=`a
      rw[this,hd.n77] at h3;cases h3
     ·have:n=78:=`a
      rw[this,hd.n78] at h3;cases h3
    ·rw[F,j] at h1;cases h1;obtain⟨e1,e2⟩:=List.cons.inj J;cases D.int.inj e1;obtain⟨kd⟩:=L1 X B;obtain⟨xs,rfl,dp⟩:=kd.xs u;exact⟨a,kd,h,xs,rfl,ho,j,E,h3,B,e2,dp,L⟩
   ·cases e
  ·cases e
 ·cases e
def rDG (fa:Fa)(K:O0):R2:=λx y H Q=>∃μ M o h d,RelM fa K μ H M/\Rep fa K μ H (.fn o) x/\Rep fa K μ H h y/\getD M o h=some d/\a7 fa K μ H Q d M
set_option tactic.hygienic true in
def L3 (W:Rm X)(hd:ig fa):ju X (rDG fa X.K):=by
 intro E B pins s σ H x y v u Q I rx ry h hs;obtain⟨μ,M,o,dy,d,O,r1,r2,e,q⟩:=h;obtain⟨qq,e1,e2⟩:=Px.mp e;split at e2
 ·next hk=>
  obtain⟨a,J,Y,xs,rfl,ho,ha,em,U,hc,S,dp,nd⟩:=oF hd I O r1 e1;obtain⟨kk,ek⟩:=m9 hk J;obtain⟨b,rfl⟩:=J.ref r2 ek;obtain⟨ys,hz,L⟩:=KD.dict I U dp nd;obtain rfl:v=Value.ref a:=rx;obtain rfl:u=Value.ref b:=ry;rw[S] at e2;rcases dp.look ek with⟨z,_⟩|⟨d',b',v',u',z,g,ru,rd⟩
  ·rw[z] at e2;cases e2
  ·rw[z] at e2;cases e2;have P:=L.of.typeIs;have h2:wpAny (model X.prog X.w) X.A (getItem (.ref a) (.ref b)) (EP X pins σ Q) X.xe s:=wpAny_getItem_heap (J.room W) (J.is I r2 ek) L.of g {v',H,I.tok _,ru,aN O q rd};refine tqa ?_;rw[getitemInPython_of_ne P.not_modules];refine tqa (wpAny_specialOf P PySem.F.slot_dict_getitem.lookup ?_);have j:wpAny (model X.prog X.w) X.A (subscripted B false (.ref a) (.ref b)) (λr R=>wpAny (model X.prog X.w) X.A (letTemporaryGo E (.ref a) r >>= λ_=>pure r) (EP X pins σ Q) X.xe R) X.xe s:=by
    rw[hs];exact wpAny_operating (wpAny_mono h2 (λr R h3=>tqa (wpAny_letTemporaryGo (tqb h3))) λ_ _ x=>x)
   first
    |exact tqb (tqa j)
    |exact tqa (tqb (tqa j))
    |exact tqa j
 ·cases e2
def rDI (fa:Fa)(K:O0)(n:Bool):R2:=λx y H Q=>∃μ M o h b,RelM fa K μ H M/\Rep fa K μ H h x/\Rep fa K μ H (.fn o) y/\inD M o h=some b/\Q (.bl (n != b)) H
set_option tactic.hygienic true in
def Eu (F:Rm X)(hd:ig fa)(n:Bool):bN X (compareOp (if n then .NotIn else .In)) (rDI fa X.K n):=by
 intro pins s σ H x y v u Q I S U h;obtain⟨μ,M,o,L,b,R,r1,r2,e,q⟩:=h;obtain⟨qq,e1,e2⟩:=Px.mp e;split at e2
 ·next hk=>
  obtain⟨a,j,B,xs,rfl,ho,Y,W,P,hc,O,dp,nd⟩:=oF hd I R r2 e1;obtain⟨kk,ek⟩:=m9 hk j;obtain⟨c,rfl⟩:=j.ref r1 ek;obtain⟨J,hz,E⟩:=KD.dict I P dp nd;obtain rfl:v=Value.ref c:=S;obtain rfl:u=Value.ref a:=U;rw[O] at e2;cases e2;have eq:(c9 (B.map kS) L).isSome=(atKey xs kk).isSome:=by
   rcases dp.look ek with⟨h1,h2⟩|⟨_,_,_,_,h1,h2,_⟩<;>rw[h1,h2]<;>rfl
  rw[eq] at q;cases n with
  |false=>exact wpAny_in_heap (j.room F) (j.is I r1 ek) J E.of {.bl _,H,I.tok _,rfl,by simpa using q}
  |true=>exact wpAny_notIn_heap (j.room F) (j.is I r1 ek) J E.of {.bl _,H,I.tok _,rfl,by simpa using q}
 ·cases e2
def rDS (fa:Fa)(K:O0):CU:=λx y v H Q=>∃μ M o j d q,RelM fa K μ H M/\Rep fa K μ H (.fn o) x/\Rep fa K μ H j y/\Rep fa K μ H d v/\cN M o=some q/\isKey q.1 j=true/\q.2.length<1000000/\∀h,Ext μ H μ h->RelM fa K μ h (M.set (o-5000) (.int q.1::putD q.2 j d))->Q h
def pV (hd:ig fa)(I:Inv X pins σ H s)(P:RelM fa X.K μ H M)(r1:Rep fa X.K μ H (.fn o) x)(r2:Rep fa X.K μ H dy y)(ry:RelV y iv)(rv:RelV v u)(r3:Rep fa X.K μ H d v)(e1:cN M o=some q)(hk:isKey q.1 dy=true)(hl:q.2.length<1000000) :
 ∃(a b:Addr) (kd:KD X q.1) (kk:kd.K) (xs:List (kd.K×Addr×O3)),x=.ref a/\iv=.ref b/\kd.knd.is s.heap kk b/\xs.length<=sizeLine/\iE kd.knd s.heap a xs/\∀F t,iE kd.knd F a (storedH xs kk b u)->QX a s.heap F->∃L,Inv X pins σ L {s with heap:=F,toks:=t}/\Ext μ H μ L/\RelM fa X.K μ L (M.set (o-5000) (.int q.1::putD q.2 dy d)):=by
 obtain⟨a,kd,h,xs,rfl,ho,ha,W,J,hc,E,dp,nd⟩:=oF hd I P r1 e1;obtain⟨kk,ek⟩:=m9 hk kd;obtain⟨b,rfl⟩:=kd.ref r2 ek;obtain⟨ys,hz,R⟩:=KD.dict I J dp nd;obtain rfl:iv=Value.ref b:=ry;have j:=dp.put ek r2 rv r3;refine{a,b,kd,kk,xs,rfl,rfl,kd.is I r2 ek,hz,R,λF t O hs=>?_};obtain⟨Q,es',h1,h2,h3,h4,_,_⟩:=O;have lx:(storedH xs kk b u).length<=sizeLine:=by
  have l1:=Paired.length j;have l2:(jy h dy d).length<=h.length+1:=by
   unfold jy;split<;>simp
  have l3:h.length<1000000:=by rw[E,O7] at hl;exact hl
  rw[<- l1,sizeLine_eq];omega
 have Y:a9 (o-5000)=o:=Nat.add_sub_cancel' ho;have x:=Ext.dic (es':=(storedH xs kk b u).map (entryOfKey kd.knd)) P J;refine{upd H a (.dn ((storedH xs kk b u).map (entryOfKey kd.knd))),I.write (by rw[J];exact True.intro) (.inl rfl) (λb q hb z=>(hs.2 b hb).trans z) ⟨Q,h1⟩ {by simpa using lx,ys,Q,h1,h2,?_},x,?_}
 ·have B:=congrArg List.length h4;rw[O7] at B;rw[h3,<- h4,B]
 ·refine P.dicW W (by rw[Y];exact ha) J (.inr {q.1,_,jy h dy d,bJ,hc,?_,Q0.mapP (KD.back j) (by rintro p e ⟨b,v,e1,e2,E,S,U⟩;exact{b,v,e1,e2,E.ext x,S,U.ext x}),dp.keys nd ek})
  rw[E,<- IM];rfl
def Ft (R:Rm X)(hd:ig fa):CW X (rDS fa X.K):=by
 intro pins s σ H x y v Y iv u Q I rx ry rv h;obtain⟨μ,M,o,dy,d,q,O,r1,r2,r3,e1,hk,hl,k⟩:=h;obtain⟨a,b,U,kk,xs,rfl,rfl,P,S,J,B⟩:=pV hd I O r1 r2 ry rv r3 e1 hk hl;obtain rfl:Y=Value.ref a:=rx;refine wA (hsz:=S) (U.room R) P J λL j hs=>?_;obtain⟨E,F,x',W⟩:=B L _ j hs;exact{E,F,k E x' W}
end
section
variable{fa:Fa}{X:Cx}{a b d:Expr}{ga gb gd:GE}{pos:Pos}
def KC (P:Rm X)(hd:ig fa)(L:DE fa X a ga)(O:DE fa X b gb)(hs:iM b):DE fa X (.Subscript a b pos) (je ga gb):=
 bx (wH (L3 P hd) L O hs) λY H Q ⟨U,W,M,F,J,h⟩=>t2 F J h λx y E v u S B R I j r1 r2 h2=>by
  cases x with
  | fn o=>
    obtain⟨d,e,q⟩:=jM h2;exact{B,E,o,y,d,j,r1,r2,e,a7.ext q R}
  |_=>exact h2.elim
def vS {x y:D}(h:af (match y with|.fn o=>(match inD M o x with|some r=>Res.ok (D.bl (n != r)) M|none=>.bad)|_=>.bad) k):∃o r,y=.fn o/\inD M o x=some r/\k (.bl (n != r)) M:=by
 cases y with
 | fn o=>
   dsimp only at h;cases e:inD M o x with
   |none=>rw[e] at h;exact h.elim
   |some r=>rw[e] at h;exact⟨o,r,rfl,e,h⟩
 |_=>exact h.elim
def MA (n:Bool)(P:Rm X)(hd:ig fa)(L:DE fa X a ga)(O:DE fa X b gb)(hm:behindInMarks (if n then .NotIn else .In) b=false):DE fa X (.Compare a [if n then .NotIn else .In] [b] pos) (lH n ga gb):=
 bx (pA (Eu P hd n) L O hm) λY H Q ⟨U,W,M,F,J,h⟩=>t2 F J h λx y E v u S B R I j r1 r2 h2=>by
  obtain⟨o,r,rfl,e,q⟩:=vS h2;exact{B,E,o,x,r,j,r1,r2,e,aN j (q.ext R) rfl}
def Kf (n:Bool)(W:Rm X)(hd:ig fa)(S:DE fa X a ga)(U:DE fa X b gb)(hm:behindInMarks (if n then .NotIn else .In) b=false):DT fa X (.Compare a [if n then .NotIn else .In] [b] pos) (aj (lH n ga gb)):=
 jJ (pq (Eu W hd n) S U hm) λσ H Q ⟨μ,Z,M,O,R,h⟩=>by
  obtain⟨z,I,e,q⟩:=aI h;have L:af (lH n ga gb Z M) (λd M=>d=z/\M=I):=by rw[e];exact⟨rfl,rfl⟩
  refine t2 O R L λx y F v u E B Y P j r1 r2 h2=>?_;obtain⟨o,r,rfl,e1,e2,J⟩:=vS h2;subst e2 J;exact{B,F,o,x,r,j,r1,r2,e1,n != r,rfl,q E B Y j}
set_option tactic.hygienic true in
def Ic (hu:Rm X)(hk:ig fa)(W:DE fa X a ga)(Y:DE fa X b gb)(hd:DE fa X d gd)
 (R:∀v,assign (.Subscript a b p2) X.env v=(do
  let u <- holding [v] (eval a X.env)
  let J <- holding [v,u] (eval b X.env)
  standAt p2
  holding [v,u,J] (setItem u J v)
  release [v,u,J] [])) (hs:swapsWithSole [.Subscript a b p2] d pos.line X.env=pure false) (hw:swappedStores [.Subscript a b p2] d X.env=pure none) :
 DS fa X (.Assign [.Subscript a b p2] d pos) (kj ga gb gd):=
 dm (nO hd (y3 W Y (Ft hu hk) R) hs hw) λD' σ H ⟨μ,Z,M,S,U,h⟩=>t1 S U h λz M1 v H1 μ1 x1 B F r1 h1=>t2 B F h1 λx y L vx vy H2 j P E I rx ry h2=>by
  cases x with
  | fn o=>
    dsimp only at h2;cases e:cN L o with
    |none=>rw[e] at h2;exact h2.elim
    | some q=>
      rw[e] at h2;dsimp only at h2;split at h2
      ·next c=>
       have w:=h2;exact{j,L,o,y,z,q,I,rx,ry,r1.ext P,e,c.1,c.2,λQ O m'=>w σ Q j ((x1.trans P).trans O) (E.ext O) m'}
      ·exact h2.elim
  |_=>exact h2.elim
end
def td (hd:(d==sysModules)=false) :
 MeetsIn prog w (Builtin.«dict.__len__» {[.ref d],[]}) (λ_ R s=>∃o es u,s.heap.get? d=some o/\o.data=.dict es u/\R (.ok (.ret (.int es.size s.toks))) {s with toks:=s.toks+1}):=
 .of_wp λA R s ⟨o,es,u,ho,j,h⟩=>by
  show wpAny _ _ (dictSize d >>= _) _ _ s;refine tqa (tqa (wpAny_dictEntries ho j (tqb ?_)));refine tqa (wpAny_pendingCount_other hd (wpAny_ret_mkInt ?_));rw[Nat.add_zero];exact h
def JJ (hd:(d==sysModules)=false)(ho:s.heap.get? d=some o)(y:o.cls=.type "dict")(j:o.data=.dict es ep)(v:es.size<2^62)
 (h:∀t t',Q (.int es.size t) {s with toks:=t'}):wpAny (model prog w) A (call (.builtin "len") [.ref d]) Q E s:=by
 have u:s.TypeIs (.ref d) "dict":=⟨o,ho,y⟩;refine Calls.call_function_entry kind_len plain_len entry_len (args_len1 _) ?_;refine tqa (tqb ?_);refine tqa (wpAny_callSpecial?_slot u F.slot_dict_len (call_meetsIn F.slot_dict_len u F.entry_dict_len (F.args_dict_len_1 _) (td hd) {o,es,ep,ho,j,?_}));refine tqa (tqo (tqb (tqa (wpAny_letGo ?_))));rw[if_neg `a]
 rw[if_neg `a]
 exact tqa (wpAny_mkInt (tqb {_,rfl,h _ _}))
def mi (a:GE):GE:=λh M=>(a h M).bind λx M=>match x with
 | .fn o=>(match cN M o with
   |some q=>.ok (.int q.2.length) M
   |none=>.bad)
 |_=>.bad
section
variable{fa:Fa}{X:Cx}{a:Expr}{ga:GE}{p pos:Pos}
def J6 (hd:ig fa):cb X (.builtin "len") (λxs H Q=>∃μ M o q v,xs=[v]/\RelM fa X.K μ H M/\Rep fa X.K μ H (.fn o) v/\cN M o=some q/\Q (.int q.2.length) H):=by
 intro j s σ H xs us Q I r h;obtain⟨μ,M,o,q,v,rfl,F,P,e,k⟩:=h;obtain⟨b,J,L,R,rfl,ho,U,S,E,W,u,dp,nd⟩:=oF hd I F P e;cases r with
 | cons r O=>
   cases O;obtain rfl:=(r);obtain⟨z,y,ob,h1,h2,h3⟩:=(I.hok b _ E);have B:(R.map (entryOfKey J.knd)).toArray.size=q.2.length:=by
    rw[u,Pd,O7,O7];exact(Paired.length dp).symm
   refine JJ y h1 h2.1 h3 ?_ λt Y=>{.int q.2.length,H,I.tok _,{t,by rw[B]},k}
   rw[Pd];rw[sizeLine_eq] at z;omega
def KA (hd:ig fa)(J:Gl X "len")(hm:X.mg "len"=none)(I:DE fa X a ga)(he:notStar a=true):DE fa X (.Call (.Name "len" p) [a] [] pos) (mi ga):=
 bx (eG (J6 hd) J hm PySem.boot_len (bE I cx (by rw[bo he])) `d `d (by rw[bo he]) `r) λS H Q ⟨P,R,M,B,F,h⟩=>t1 B F h λx y v O u L E j r1 h1=>by
  cases x with
  | fn o=>
    dsimp only at h1;cases e:cN y o with
    |none=>rw[e] at h1;exact h1.elim
    |some q=>rw[e] at h1;exact{u,y,o,q,v,rfl,j,r1,e,aN j (a7.ext h1 L) rfl}
  |_=>exact h1.elim
end
def jf (u y:GE):Env->List D->Mem->Res (List D):=λj h M=>(u j M).bind λk M=>(y j M).bind λv M=>match h with
 | [.fn o]=>(match cN M o with
   |some q=>if isKey q.1 k=true/\q.2.length<1000000 then .ok h (M.set (o-5000) (.int q.1::putD q.2 k v)) else .bad
   |none=>.bad)
 |_=>.bad
def jX (c:Int)(n:Nat)(t:fw)(u:GW)(g:GB):GE:=λj M=>(u j M).bind λw M=>(cQ (cU t g (List.replicate n none++j)) w [.fn (a9 M.length)] (M++[[.int c]])).bind λh M=>match h with
 |[d]=>.ok d M
 |_=>.bad
def wh (a:Addr):PA:=λj _ h=>∃o,h=[.fn o]/\5000<=o/\j.ob o=some a
def wh.stab:xJ (wh a):=(by rintro _ _ _ _ _ x ⟨o,h1,h2,h3⟩;exact{o,h1,h2,x.obs _ _ h3})
def A7 (E y h j:Expr)(u:Scope)(pos:Pos)(B:O3)(d:Addr)(env:QC) :
 compTurn (.DictComp E y [{h,j,[],0}] u pos) 0 B (.ref d) env=(standAt j.pos >>= λ_=>pyNext B >>= λr=>match r with
  |none=>pure (.done .next)
  |some v=>letOwnedTupleGo h B v >>= λ_=>assign h env v >>= λ_=>(eval E env >>= λF=>holding [F] (eval y env) >>= λH=>standAt {E.pos with endLine:=y.pos.endLine,endCol:=y.pos.endCol} >>= λ_=>holding [F,H] (dictSet d F H)) >>= λ_=>again (.compLoop (.DictComp E y [{h,j,[],0}] u pos) 0 B (.ref d) env)):=`r
section
variable{fa:Fa}{X:Cx}{a:Addr}
set_option tactic.hygienic true in
def G2 (hu:Rm X)(hd:ig fa)(hk:DE fa X kx gk)(hv:DE fa X vx gv):DB fa X (wh a) a [] (eval kx X.env >>= λkv=>holding [kv] (eval vx X.env) >>= λvv=>standAt {kx.pos with endLine:=vx.pos.endLine,endCol:=vx.pos.endCol} >>= λ_=>holding [kv,vv] (dictSet a kv vv)) (jf gk gv):=by
 rintro B s P H Q μ Z M _ I W hM hc ⟨o,rfl,ho,Y⟩ h;obtain⟨k,M1,e,h⟩:=aI h;obtain⟨v,M2,e2,h⟩:=aI h;dsimp only at h;cases S:cN M2 o with
 |none=>rw[S] at h;exact h.elim
 | some q=>
   rw[S] at h;dsimp only at h;split at h
   ·next c=>
    refine tqa (aQ (hk B s P H (λv y=>∃j,Ext μ H j y/\RelM fa X.K j y M1/\Rep fa X.K j y k v) I {μ,Z,M,W,hM,?_}) λuk s1 ⟨wk,y,I1,rk,j,E,F,r1⟩=>?_)
    ·rw[e];exact λv y j E F r1=>⟨j,E,F,r1⟩
    refine tqa (tqo (aQ (hv B s1 P y (λw L=>∃u,Ext j y u L/\RelM fa X.K u L M2/\Rep fa X.K u L v w) I1 {j,Z,M1,W.ext E,F,?_}) λuv s2 ⟨wv,L,I2,rv,u,O,m2,r2⟩=>?_))
    ·rw[e2];exact λv y j E F r1=>⟨j,E,F,r1⟩
    have J:=O.obs _ _ (E.obs _ _ Y);obtain⟨a',b,kd,kk,xs,ea,rfl,hi,hz,dd,U⟩:=pV hd I2 m2 {a,rfl,.inr {hd.of _ ho,J}} (r1.ext O) rk rv r2 S c.1 c.2;cases ea;refine tqa (wpAny_standAt (tqo (kF (hsz:=hz) (kd.room0 hu) hi dd λh' R hs=>?_)));obtain⟨H',I',x',m'⟩:=U h' _ R hs;exact{P,H',I',h P H' u ((E.trans O).trans x').toD (((W.ext E).ext O).ext x') m' {o,rfl,ho,x'.obs _ _ J}}
   ·exact h.elim
def uO {c:Int}{rest:List Rb}(hc:c=77\/c=78)(hd:ig fa)
 (S:eQ X own bn scope) (Y:X.calm=true) (hi:DI fa X tg iter gw) (B:Block fa X wh own bn scope tg t W body g) (hT:∀(it a:Addr) (env:QC),compTurn (.DictComp kx vx ({tg,iter,ifs,0}::rest) scope pos) 0 (.ref it) (.ref a) env=(standAt iter.pos >>= λ_=>pyNext (.ref it) >>= λr=>match r with
  |none=>pure (.done .next)
  |some v=>letOwnedTupleGo tg (.ref it) v >>= λ_=>assign tg env v >>= λ_=>body a env >>= λ_=>again (.compLoop (.DictComp kx vx ({tg,iter,ifs,0}::rest) scope pos) 0 (.ref it) (.ref a) env))) (hW:∀i∈W,i∉slots t) (hn:∀i∈slots t++W,i<own.length)
 (hs:∀x,foldedSetIterable iter X.env x=pure x)
 (I:Inv X pins σ H s) (hE:bc fa X.K μ H σ Z) (hM:RelM fa X.K μ H M) (h:af (jX c own.length t gw g Z M) (a7 fa X.K μ H Q))
 (post:∀(a C:Addr) (s':O8) (E:Hp),Inv X pins σ E s'->Q (.ref a) E->(∃m,s'.heap.Ns C m)->(∀σ2 F s2,Inv X pins σ2 F s2->(E C=none->F C=none)->F C=none/\∀U,QX C s2.heap U->Inv X pins σ2 F {s2 with heap:=U})->E C=none->(C≠X.env.locals/\∀x c,X.env.cells.lookup x=some c->c≠C)->compPost (model X.prog X.w) X.A X.xe use QQ (.ref a) C (.ok .next) s') :
 wpAny (model X.prog X.w) X.A (comprehension (.DictComp kx vx ({tg,iter,ifs,0}::rest) scope pos) scope X.env p0 newDict false (eval iter X.env) use) QQ X.xe s:=by
 obtain⟨w,M1,ew,q⟩:=aI h;obtain⟨acc,M2,ea,q2⟩:=aI q;obtain⟨cl,hcl,R,P⟩:=oJ λy hy hf=>I.ok.has y.1 (S.free y hy hf);refine wpAny_comprehension_free rfl hs hcl S.kind S.loc ?_;refine aQ (hi pins s σ H (λJ H1=>∃L,Ext μ H L H1/\RelM fa X.K L H1 M1/\dQ fa X.K L H1 w J) I {μ,Z,M,hE,hM,?_}) λv s1 h1=>aQ h1 λitv s2 h2=>?_
 ·rw[ew];exact λJ H1 L x1 m1 wk=>⟨L,x1,m1,wk⟩
 obtain⟨it,fp,tn,J,F,ei,I2,T,st2,f2,μ2,x2,m2,wk⟩:=h2;subst ei;refine tqa (wpAny_alloc (tqb ?_));have j:sysModules<s2.heap.objs.size:=Nat.lt_trans `d (I2.mod.glob.keeps I2.bk).lt
 have ha:=I2.hok.fresh (O4 _);have I3:Inv X pins σ (upd F s2.heap.objs.size (.dn [])) {s2 with heap:=s2.heap.push {cls:=.type "dict",data:=.dict #[]}}:=
  I2.laid (λb o e=>O5 _ e) (O4 _) {Q1 _,P7.mpr (Qi (PH j)),_,PD _ rfl,⟨rfl,rfl,rfl⟩,rfl}
 generalize hs3:({s2 with heap:=s2.heap.push {cls:=.type "dict",data:=.dict #[]}}:O8)=s3 at I3 ⊢
 have k3:∀b o,s2.heap.get? b=some o->s3.heap.get? b=some o:=λb o e=>by rw[<- hs3];exact O5 _ e
 have fo2:=T.obj _ _ st2;have f3:∀b∈fp,ef X pins (upd F s2.heap.objs.size (.dn [])) b:=λb j=>by
  obtain⟨o,e,_⟩:=fo2 b j;exact{by rw[ao (PH (Po e))];exact(f2 b j).1,(f2 b j).2}
 have fo3:∀b∈fp,∃o,s3.heap.get? b=some o:=λb j=>let{o,e,_}:=fo2 b j;{o,k3 b o e}
 obtain⟨CL,hce⟩:=Et S R P (s3.heap.push {cls:=.type "dict",data:=.dict #[]}) (Heap.size_push ..);generalize O:cellsFrom (s3.heap.objs.size+1) scope.names cl=cl' at CL hce;refine qQ ?_;rw[O];have u:(pushCells (s3.heap.push {cls:=.type "dict",data:=.dict #[]}) scope.names).Ns s3.heap.objs.size (λ_=>none):=(Heap.Ns.new s3.heap (.type "dict")).keeps (pushCells_keeps _ _);have k4:∀b o,s3.heap.get? b=some o->(pushCells (s3.heap.push {cls:=.type "dict",data:=.dict #[]}) scope.names).get? b=some o:=λb o e=>pushCells_keeps _ _ b o (O5 _ e);generalize pushCells (s3.heap.push {cls:=.type "dict",data:=.dict #[]}) scope.names=h₁ at u k4 hce ⊢;clear hcl O R P cl
 rename List (Str×Addr)=>cl
 have I4:=ua (t':=s3.toks) I3 S CL f3 fo3 u k4 hce;have ok4:=I4.ok;have f4:∀b∈fp,ef (fv X own bn scope cl s3.heap.objs.size fp s3 (upd F s2.heap.objs.size (.dn []))) [] (upd F s2.heap.objs.size (.dn [])) b:=λb j=>
  {(f3 b j).1,(ok4.exf b j).1,ok4.exfs b j,.inl j,(ok4.exf b j).2,λp hp=>nomatch hp}
 have st4:=T.keep _ _ _ st2 λb j o e=>k4 b o (k3 b o e);have x3:=Ext.dicNew m2 ha;have m3:=m2.dicNew ha hc;have go:=pY wh.stab (X:=fv X own bn scope cl s3.heap.objs.size fp s3 (upd F s2.heap.objs.size (.dn []))) (acc:=[.fn (a9 M1.length)]) (Q:=λ_ E=>Q (.ref s2.heap.objs.size) E) (hT it s2.heap.objs.size _) ⟨rfl,rfl⟩ rfl Y T (B.pg _ _ _ _ _) (B.db _ _ _ _ _ _) hW I4 st4 f4
  (sD own.length ((hE.ext x2).ext x3)) m3 (qU hn) {_,rfl,Q7 _ _,if_pos rfl} (qk wk x3.toExtW) (by
   rw[ea];rintro σ' E μ' z1 z2 z3 ⟨o,rfl,ho,hob⟩;have z:Ext _ _ μ' E:={z1.toExtW,z1.pr,λb j=>z1.pk b j λe=>by
    obtain⟨⟨vs,q⟩,_⟩:=m2.pv b j;rw[e,ha] at q;cases q}
   exact q2 (.ref s2.heap.objs.size) E μ' ((x2.trans x3).trans z) z3 {_,rfl,.inr {hd.of _ ho,hob}})
 have go':codeAny (model X.prog X.w) X.A (.compLoop (.DictComp kx vx ({tg,iter,ifs,0}::rest) scope pos) 0 (.ref it) (.ref s2.heap.objs.size) (compEnvC scope cl s3.heap.objs.size X.env)) (compPost (model X.prog X.w) X.A X.xe use QQ (.ref s2.heap.objs.size) s3.heap.objs.size) {s3 with heap:=h₁}:=
  codeAny_mono go λr s' ⟨er,σ',E,I',z⟩=>by
   subst er;refine post _ _ s' E (comp_back I3 f3 I') z (let{m,hn,_}:=I'.loc;⟨m,hn⟩) (λσ2 F s2' I2' hf=>{hf I'.free,λU hs''=>qS I3 (hf I'.free) I2' hs''}) I'.free {Qg I3.lt,λx c e z=>by
    obtain⟨v,q⟩:=I3.cell x c e;exact absurd q.lt (by rw[z];exact Ql _)}
 exact codeAny_compStart_dict go' (T.self _ 0 _ _ _ st4 go')
def G5 {c:Int}{E y F j:Expr}{pos:Pos}(hc:c=77\/c=78)(hd:ig fa)
 (S:eQ X own bn scope) (u:X.calm=true) (hi:DI fa X F j gw) (B:Block fa X wh own bn scope F t [] (λa env=>eval E env >>= λL=>holding [L] (eval y env) >>= λR=>standAt {E.pos with endLine:=y.pos.endLine,endCol:=y.pos.endCol} >>= λ_=>holding [L,R] (dictSet a L R)) (jf gk gv)) (hn:∀i∈slots t++[],i<own.length)
 (hs:∀x,foldedSetIterable j X.env x=pure x):DE fa X (.DictComp E y [{F,j,[],0}] scope pos) (jX c own.length t gw (jf gk gv)):=by
 rintro P s σ H Q I ⟨μ,Z,M,Y,hM,h⟩;refine uO hc hd S u hi B (λit a env=>A7 E y F j scope pos (.ref it) a env) (λ_ h=>nomatch h) hn hs I Y hM h ?_;rintro a C s' O U q ⟨m,hn⟩ v hf _;exact{m,hn,λW J=>{.ref a,O,(v σ O s' U id).2 W J,rfl,q}}
end
def CS (hh:A.in1.handled=none)(U:p≠I)(tr:Nat->Bool)(G:Heap->Prop)(L:∀h u,G h->(∀b o,b∉[I]->h.get? b=some o->u.get? b=some o)->G u)
 (Y:∀i v (s:O8) (Q:Bool->O8->Prop) (E:O3->O8->Prop),items[i]?=some v->G s.heap->(∀t,Q (tr i) {s with toks:=t})->wpAny (model prog w) A.in1 (truthy v) Q E s):∀(k i:Nat) (s:O8),items.size-i=k->i<=items.size->(s.heap.IsListIter I p i/\s.heap.IsList p items)->G s.heap->
 (∀u tk,G u->R (.ok (.ret (.bool (((List.range items.size).drop i).any tr)))) {s with heap:=u,toks:=tk})->codeAny (model prog w) A (.builtin "any.loop" {[.ref I],[]}) R s:=by
 have W:=Walks.list (prog:=prog) (w:=w) hh I p U items;intro k;induction k with
 | zero=>
   intro i s hk hi B g M;have S:i=items.size:=`a
   subst S;refine codeAny_builtin F.entry_any_loop ?_;rw[Around.under_plainId F.plain_any_loop _];refine tqa (W.done s _ _ B λu tk j=>?_);refine tqa (wpAny_rule (tqb ?_));have:=M u tk (L _ _ g j);rw[List.drop_of_length_le `s] at this
   exact this
 | succ k ih=>
   intro i s hk hi B g M;have y:i<items.size:=`a
   have hd:(List.range items.size).drop i=i::(List.range items.size).drop (i+1):=by
    rw[List.drop_eq_getElem_cons (by simpa using y)];simp
   refine codeAny_builtin F.entry_any_loop ?_;rw[Around.under_plainId F.plain_any_loop _];refine tqa (W.item i s _ _ y B λv u tk hP H j=>?_);refine tqa (tqo (Y i v _ _ _ hP (L _ _ g j) λt=>?_));refine tqa (wpAny_letGo ?_);cases hb:tr i with
   | false=>
     refine tqb {plainId_quiet F.plain_any_loop _,ih (i+1) _ `a y H (L _ _ g j) λP J O=>?_}
     have:=M P J O;rw[hd,List.any_cons,hb,Bool.false_or] at this;exact this
   | true=>
     refine tqa (wpAny_rule (tqb ?_));have:=M u t (L _ _ g j);rw[hd,List.any_cons,hb,Bool.true_or] at this;exact this
def range_any (bs:List Bool):((List.range bs.length).any λi=>(bs[i]?).getD false)=bs.any id:=by
 rw[QA,Rn,Rn];constructor
 ·rintro⟨i,_,e⟩;cases z:bs[i]? with
  |none=>rw[z] at e;cases e
  |some b=>rw[z] at e;exact{b,PF z,e}
 ·rintro⟨b,j,e⟩;obtain⟨i,h⟩:=List.getElem?_of_mem j;exact{i,QF.mpr (O1.mp h).1,by rw[h];exact e}
def mK (M:Mem):D->Option Bool
 |.bl b=>some b
 |d=>(fg M d).map λxs=>!xs.isEmpty
def A9 (h:mK M d=some b):d=.bl b\/∃xs,fg M d=some xs/\b=!xs.isEmpty:=by
 cases d with
 |bl c=>cases h;exact .inl rfl
 | _=>
   simp only[mK] at h;obtain⟨xs,e1,e2⟩:=Pq.mp h;exact .inr ⟨xs,e1,e2.symm⟩
noncomputable def i1 (M:Mem):List D->Option (List Bool)
 |[]=>some []
 |d::r=>(mK M d).bind λb=>(i1 M r).map (b::·)
theorem r8:∀{ds:List D}{bs:List Bool},i1 M ds=some bs->bs.length=ds.length/\∀(i:Nat) d,ds[i]?=some d->∃b,bs[i]?=some b/\mK M d=some b
 |[],_,h=>by cases h;exact{rfl,λ_ _ e=>by simp at e}
 | d::ds,_,h=>by
   obtain⟨b,e,h⟩:=Px.mp h;obtain⟨bs,e2,rfl⟩:=Pq.mp h;obtain⟨h1,h2⟩:=r8 e2;refine{by simp[h1],λi j z=>?_}
   cases i with
   |zero=>cases z;exact⟨b,rfl,e⟩
   |succ i=>exact h2 i j z
def pP (a:GE):GE:=λj M=>(a j M).bind λx M=>match fg M x with
 | some h=>(match i1 M h with
   |some bs=>.ok (.bl (bs.any id)) M
   |none=>.bad)
 |none=>.bad
section
variable{fa:Fa}{X:Cx}{a:Expr}{ga:GE}{p pos:Pos}
def Mb:cb X (.builtin "any") (λxs H Q=>∃μ M ds bs p vs,xs=[.ref p]/\X.calm=true/\RelM fa X.K μ H M/\cz X.K H p vs/\aG fa X.K μ H ds vs/\i1 M ds=some bs/\Q (.bl (bs.any id)) H):=by
 intro y s σ H xs us Q I r h;obtain⟨μ,M,ds,bs,p,vs,rfl,hc,hM,hq,rl,eb,q⟩:=h;obtain⟨u,rfl,rx⟩:=vals1 r;cases rx;obtain⟨j,S,pl,hz⟩:=I.list hq;obtain⟨hl,hb⟩:=r8 eb;have P:=pl.lt;refine call_function_tree F.kind_any F.plain_any F.entry_any (F.args_any1 _) ?_;refine tqa (tqb ?_);refine tqa (wpAny_pyIter_list pl.isList ?_);refine tqb {plainId_quiet F.plain_any_loop _,CS (I.ok.hd hc) (PH P) (λi=>(bs[i]?).getD false) (λh=>∀b o,s.heap.get? b=some o->h.get? b=some o) (λh h' g k b o e=>k b o (λz=>by rw[Pj.mp z] at e;exact absurd (Po e) (Ql _)) (g b o e)) ?_ j.toArray.size 0 _ rfl (Q1 _) {{_,PD _ rfl,rfl,rfl},pl.isList.push _} (λb o e=>O5 _ e) λh' tk g=>?_}
 ·intro i v s' Q' E' e g O;have e:j[i]?=some v:=by simpa using e
  have Y:i<vs.length:=by rw[S.length];exact(O1.mp e).1
  obtain⟨d,ed,rd⟩:=rl.getV (PB Y);obtain⟨u,W,E⟩:=S.get (PB Y);rw[e] at W;cases W;obtain⟨b,e1,e2⟩:=hb i d ed;rw[e1] at O;have list:∀xs,fg M d=some xs->b=!xs.isEmpty->wpAny (model X.prog X.w) X.A.in1 (truthy v) Q' E' s':=λxs J L=>by
   obtain⟨a,ws,ev,hw,U⟩:=bK hM rd J;rw[ev] at E;obtain rfl:=(E);have I':Inv X y σ H {s with heap:=s'.heap,toks:=s.toks}:=I.kept g
   obtain⟨its',B,R,hz'⟩:=I'.list hw;have hlen:=B.length;have hs:=sizeLine_eq;refine wpAny_truthy_list R.isList (by simp only[Pd];omega) ?_
   rw[kB B,show ws.isEmpty=xs.isEmpty by rw[QA,List.isEmpty_iff_length_eq_zero,List.isEmpty_iff_length_eq_zero,U.length],<- L]
   exact O _
  rcases A9 e2 with rfl|⟨xs,J,L⟩
  ·rw[show vs[i]=V.bl b from rd] at E;obtain rfl:=(E);exact tqp (O _)
  ·exact list xs J L
 ·rw[List.drop_zero,Pd,<- S.length,rl.length,<- hl,range_any];exact{.bl _,H,I.kept g,rfl,q}
def ME (L:X.calm=true)(O:Gl X "any")(hm:X.mg "any"=none)(J:DE fa X a ga)(he:notStar a=true):DE fa X (.Call (.Name "any" p) [a] [] pos) (pP ga):=
 bx (eG (Mb) O hm `k (bE J cx (by rw[bo he])) `d `d (by rw[bo he]) `r) λσ H Q ⟨W,Y,M,E,I,h⟩=>t1 E I h λx u v U y S F j r1 h1=>by
  cases e:fg u x with
  |none=>rw[e] at h1;exact h1.elim
  | some B=>
    rw[e] at h1;dsimp only at h1;cases e2:i1 u B with
    |none=>rw[e2] at h1;exact h1.elim
    | some bs=>
      rw[e2] at h1;obtain⟨a,R,rfl,P,r⟩:=bK j r1 e;exact{y,u,B,bs,a,R,rfl,L,j,P,r,e2,aN j (a7.ext h1 S) rfl}
end
def vK (c:Int)(gk gv:GE):GE:=λj M=>(gk j (M++[[.int c]])).bind λk u=>(gv j u).bind λv h=>match cN h (a9 M.length) with
 |some q=>if isKey q.1 k=true/\q.2.length<1000000 then .ok (.fn (a9 M.length)) (h.set (a9 M.length-5000) (.int q.1::putD q.2 k v)) else .bad
 |none=>.bad
section
variable{fa:Fa}{X:Cx}{kx vx:Expr}{gk gv:GE}{pos:Pos}
set_option tactic.hygienic true in
def G4 (c:Int)(hc:c=77\/c=78)(hu:Rm X)(hd:ig fa)(hk:DE fa X kx gk)(hv:DE fa X vx gv):DE fa X (.Dict [some kx] [vx] pos) (vK c gk gv):=by
 rintro u s Y H Q I ⟨μ,Z,M,hE,hM,h⟩;obtain⟨k,M1,e1,h⟩:=aI h;obtain⟨v,M2,e2,h⟩:=aI h;cases O:cN M2 (a9 M.length) with
 |none=>rw[O] at h;exact h.elim
 | some q=>
   rw[O] at h;dsimp only at h;split at h
   ·next cc=>
    have hb:sysModules<s.heap.objs.size:=Nat.lt_trans `d (I.mod.glob.keeps I.bk).lt
    have ha:=I.hok.fresh (O4 _);have I0:Inv X u Y (upd H s.heap.objs.size (.dn [])) {s with heap:=s.heap.push {cls:=.type "dict",data:=.dict #[]}}:=
     I.laid (λb o e=>O5 _ e) (O4 _) {Q1 _,P7.mpr (Qi (PH hb)),_,PD _ rfl,⟨rfl,rfl,rfl⟩,rfl}
    have U:=Ext.dicNew hM ha;have m0:=hM.dicNew ha hc;have R:(n5 μ M.length s.heap.objs.size).ob (a9 M.length)=some s.heap.objs.size:=if_pos rfl;refine wpAny_Dict_any rfl rfl `s (Pb rfl) ?_
    refine tqa (aQ (hk u _ Y _ (λv B=>∃j,Ext (n5 μ M.length s.heap.objs.size) (upd H s.heap.objs.size (.dn [])) j B/\RelM fa X.K j B M1/\Rep fa X.K j B k v) I0 {_,Z,_,hE.ext U,m0,?_}) λuk s1 ⟨wk,B,I1,rk,j,E,n1,r1⟩=>?_)
    ·rw[e1];exact λv B j E S r1=>⟨j,E,S,r1⟩
    refine tqa (tqo (tqa (aQ (hv u s1 Y B (λw J=>∃y,Ext j B y J/\RelM fa X.K y J M2/\Rep fa X.K y J v w) I1 {j,Z,M1,(hE.ext U).ext E,n1,?_}) λuv s2 ⟨wv,J,I2,rv,y,W,m2,r2⟩=>?_)))
    ·rw[e2];exact λv B j E S r1=>⟨j,E,S,r1⟩
    refine tqa (wpAny_standAt (tqb ?_));refine tqa (tqo (tqb (tqb ?_)));have F:=W.obs _ _ (E.obs _ _ R);obtain⟨a',b,kd,kk,xs,ea,rfl,hi,hz,dd,P⟩:=pV hd I2 m2 {_,rfl,.inr {hd.of _ (Q7 _ _),F}} (r1.ext W) rk rv r2 O cc.1 cc.2;cases ea;unfold storeAll;rw[List.forIn_cons];refine tqa (tqa (kF (hsz:=hz) (kd.room0 hu) hi dd λh' L hs=>tqb ?_));obtain⟨H',I',x',m'⟩:=P h' _ L hs;refine tqb {.ref s.heap.objs.size,H',I',rfl,h _ H' y (((U.trans E).trans W).trans x') m' {_,rfl,.inr {hd.of _ (Q7 _ _),x'.obs _ _ F}}}
   ·exact h.elim
end
section
variable{fa:Fa}{X:Cx}{a tg iter:Expr}{ga:GE}{gw:GW}{apos cpos:Pos}
def lW (a d:GE):GS:=λh M=>(a h M).bind λx M=>match x with
 | .cell k=>rY (λz M=>match M[k]? with
   |some j=>if j.length<sz then .ok (.next h) (M.set k (j++[z])) else .bad
   |none=>.bad) h (d h M)
 |_=>.bad
set_option tactic.hygienic true in
def GP (ha:DE fa X a ga)(hd:DX fa X d gd)(j:attributeBase a "append" X.env (eval a X.env)=eval a X.env)(u:(apos.endLine==cpos.line)=true)(hs:starEach [d] X.env=[(false,eval d X.env)])
 (R:swapsWith (.Call (.Attribute a "append" apos) [d] [] cpos) none pos.line X.env=pure false) :
 DS fa X (.Expr (.Call (.Attribute a "append" apos) [d] [] cpos) pos) (lW ga gd):=
 dm (jK (rG Rw PySem.F.slot_list_append PySem.F.type_list_append lz ha (bE hd cx hs) j (by rw[hs];rfl) u hs `r) R) λD' σ H ⟨μ,L,M,P,hM,h⟩=>by
  obtain⟨x,M1,e1,h1⟩:=aI h;cases x with
  | cell k=>
    refine{μ,L,M,P,hM,?_};rw[e1];intro vx H1 W I v rx;obtain⟨ad,rfl,hk⟩:=rx;obtain⟨ds1,S,_,Q,_⟩:=v.mu_lt hk;refine{.inl {rfl,S,cz.of Q},W,L,M1,P.ext I,v,?_};cases e2:gd L M1 with
    |bad=>rw[e2] at h1;exact h1.elim
    | err y E=>
      rw[e2] at h1;exact XW.ext h1 I
    | ok z E=>
      rw[e2] at h1;have h2:af (match E[k]? with|some O=>if O.length<sz then Res.ok (Fl.next L) (E.set k (O++[z])) else .bad|none=>.bad) (lS fa X μ H D'):=h1
      cases e:E[k]? with
      |none=>rw[e] at h2;exact h2.elim
      | some O=>
        rw[e] at h2;dsimp only at h2;split at h2
        ·next hz=>
         have q:=h2;intro vz H2 μ2 J B rz;obtain⟨ws,h4,h5⟩:=B.at_ e (J.mu k ad hk);refine{ad,ws,vz,rfl,rfl,h4,by rw[h5.length,<- cJ];exact hz,?_}
         exact kW ((P.ext I).ext J) B (J.mu k ad hk) (h5.append (.one rz)) λY H' U x' e' m'=>q Y H' U ((I.trans J).trans x') e' m'
        ·exact h2.elim
  |_=>exact h1.elim
end
end LD
namespace LD
open PySem
def ob {α β:Type}{a:Option α}{f:α->Option β}{r:β}(h:a.bind f=some r):∃x,a=some x/\f x=some r:=Px.mp h
def oi {α:Type}{c:Prop}[Decidable c]{a:Option α}{r:α}(h:(if c then a else none)=some r):c/\a=some r:=by
 split at h
 ·exact{by assumption,h}
 ·cases h
section
variable{β:Type}{r:β}{e:Expr}{st:Stmt}
def od {c:Prop}[Decidable c]{f:c->Option β}(h:(if x:c then f x else none)=some r):∃x,f x=some r:=by
 by_cases z:c
 ·rw[dif_pos z] at h;exact⟨z,h⟩
 ·rw[dif_neg z] at h;cases h
local macro_rules|`(command|#check $n:ident $a*)=>do
 let m:=a[0]!.raw;let c:Lean.TSyntax `ident:=⟨a[1]!.raw⟩;let v:Array (Lean.TSyntax `ident):=(a.extract 3 a.size).map λx=>⟨x.raw⟩;let f:=Lean.mkIdentFrom c (c.getId++`elim)
 `(noncomputable def $n {β:Type} e:=λg=>if h:e.ctorIdx=$(⟨a[2]!.raw⟩) then @$f (λ_=>Option β) e h g else none
 theorem $(⟨m⟩) {β:Type}{e}{g}{y:β}(h:$n e g=some y):∃$[$v:ident]*,e=$c $v*∧g $v*=some y:=(od h).elim λz h=>@$f (λe=>∀z,@$f (λ_=>Option β) e z g=some y→∃$[$v:ident]*,e=$c $v*∧g $v*=some y) e z (λ$v* _ h=>by exact⟨$v,*,rfl,h⟩) z h)
#check Ju sW Expr.UnaryOp 3 a b c
#check DM s8 Expr.BoolOp 0 a b c
#check Nm zt Expr.ListComp 8 a b c d
#check Jw vp Expr.IfExp 5 a b c d
#check JA pE Expr.Compare 15 a b c d
#check DK sY Expr.Call 16 a b c d
#check N4 Gd Expr.FormattedValue 17 a b c d
#check N3 Ga Expr.JoinedStr 18 a b
#check wR l4 Expr.Constant 19 a b c
#check DN s9 Expr.Attribute 20 a b c
#check mX gO Expr.Subscript 21 a b c
#check nName cp Expr.Name 23 a b
#check sX gM Expr.Tuple 25 a b c
#check B2 pD Expr.Slice 26 a b c d
#check wC lV Stmt.Assign 5 a b c
#check Ik u5 Stmt.Raise 16 a b c
#check sTr Ii Stmt.Try 17 a b c d f
#check BB pe Stmt.Expr 24 a b
#check N5 Gf Expr.BinOp 2 a b c d
#check N2 F9 Expr.List 24 a b
#check sRt Ij Stmt.Return 3 a b
#check sFr Io Stmt.For 9 a b c d f
#check sIf Im Stmt.If 12 a b c d
#check sPs Il Stmt.Pass 25 a
variable{α:Type}{l:List α}
noncomputable def n0 (l:List α)(v:Option β):Option β:=if l.isEmpty=true then v else none
def f7 {v:Option β}(h:n0 l v=some r):l=[]/\v=some r:=(oi h).elim λc h=>{List.isEmpty_iff.mp c,h}
noncomputable def nC (l:List α)(k:α->List α->Option β):Option β:=match l with
 |[]=>none
 |a::s=>k a s
def ip {k:α->List α->Option β}(h:nC l k=some r):∃a s,l=a::s/\k a s=some r:=by
 cases l with
 |nil=>cases h
 |cons a s=>exact⟨a,s,rfl,h⟩
def n1 (l:List α)(k:α->Option β):Option β:=nC l λa s=>n0 s (k a)
def cK {k:α->Option β}(h:n1 l k=some r):∃a,l=[a]/\k a=some r:=by
 obtain⟨a,s,rfl,h⟩:=ip h;obtain⟨rfl,h⟩:=f7 h;exact⟨a,rfl,h⟩
def n2 (l:List α)(k:α->α->Option β):Option β:=nC l λa s=>n1 s (k a)
def gV {k:α->α->Option β}(h:n2 l k=some r):∃a b,l=[a,b]/\k a b=some r:=by
 obtain⟨a,s,rfl,h⟩:=ip h;obtain⟨b,rfl,h⟩:=cK h;exact⟨a,b,rfl,h⟩
def B1 (e:Expr)(k:Str->Option β):Option β:=wR e λc _ _=>match c with
 |.str z=>k z
 |_=>none
def vo {k:Str->Option β}(h:B1 e k=some r):∃z i p,e=.Constant (.str z) i p/\k z=some r:=by
 obtain⟨c,i,p,rfl,h⟩:=l4 h;cases c with
 |str z=>exact⟨z,i,p,rfl,h⟩
 |_=>cases h
def DJ (e:Expr)(v:Option β):Option β:=wR e λc _ _=>match c with
 |.bool b=>if b=true then v else none
 |_=>none
def BZ {v:Option β}(h:DJ e v=some r):∃i p,e=.Constant (.bool true) i p/\v=some r:=by
 obtain⟨c,i,p,rfl,h⟩:=l4 h;cases c with
 |bool b=>obtain⟨rfl,k⟩:=oi h;exact⟨i,p,rfl,k⟩
 |_=>cases h
def Jv (e:Expr)(k:Int->Option β):Option β:=wR e λc _ _=>match c with
 |.int z=>k z
 |_=>none
def Gb {k:Int->Option β}(h:Jv e k=some r):∃z i p,e=.Constant (.int z) i p/\k z=some r:=by
 obtain⟨c,i,p,rfl,h⟩:=l4 h;cases c with
 |int z=>exact⟨z,i,p,rfl,h⟩
 |_=>cases h
def Nn (e:Expr)(k:Expr->Option β):Option β:=N4 e λa i s _=>if i=-1/\s.isNone=true then k a else none
def Jx {k:Expr->Option β}(h:Nn e k=some r):∃a p,e=.FormattedValue a (-1) none p/\k a=some r:=by
 obtain⟨a,i,s,p,rfl,h⟩:=Gd h;obtain⟨⟨rfl,c⟩,k⟩:=oi h;rw[Qu.mp c];exact⟨a,p,rfl,k⟩
noncomputable def nG (c:Rb)(k:Expr->Expr->List Expr->Option β):Option β:=if c.is_async=0 then k c.target c.iter c.ifs else none
def rK {c:Rb}{k:Expr->Expr->List Expr->Option β}(h:nG c k=some r):∃t i f,c={t,i,f,0}/\k t i f=some r:=by
 obtain⟨z,h⟩:=oi h;cases c;cases z;exact{_,_,_,rfl,h}
def ly (e:Expr)(k:Str->List Expr->Pos->Option β):Option β:=DK e λf es ks p=>nName f λx _=>n0 ks (k x es p)
def fq {k:Str->List Expr->Pos->Option β}(h:ly e k=some r):∃x q es p,e=.Call (.Name x q) es [] p/\k x es p=some r:=by
 obtain⟨f,es,ks,p,rfl,h⟩:=sY h;obtain⟨x,q,rfl,h⟩:=cp h;obtain⟨rfl,h⟩:=f7 h;exact⟨x,q,es,p,rfl,h⟩
def DL (e:Expr)(k:Expr->Str->Expr->Bool->Option β):Option β:=DK e λf es ks p=>DN f λa m q=>n0 ks (n1 es λd=>k a m d (q.endLine==p.line))
def sZ {k:Expr->Str->Expr->Bool->Option β}(h:DL e k=some r):∃a m q d p,e=.Call (.Attribute a m q) [d] [] p/\k a m d (q.endLine==p.line)=some r:=by
 obtain⟨f,es,ks,p,rfl,h⟩:=sY h;obtain⟨a,m,q,rfl,h⟩:=s9 h;obtain⟨rfl,h⟩:=f7 h;obtain⟨d,rfl,h⟩:=cK h;exact⟨a,m,q,d,p,rfl,h⟩
def bX {a b:Option β}(h:a.or b=some r):a=some r\/b=some r:=by
 cases a with
 |none=>exact .inr h
 |some x=>exact .inl h
end
end LD
namespace LD
open PySem PySem.Spec PyProof.Rows L2
inductive En where
 |fn (i:Nat) (r:Bool)|fnD (i:Nat)|int (i:Int)|str (z:Str)|dct (fs:List (Str×Nat))|xc (k:Nat)|xi (k:Nat)|xk (k:Nat)|de|bl|cls (c f:Nat)
structure EE (fa:Fa) (P:PU) (w:PM) (K:O0) (mg:Str->Option O3) (base:Heap) (T:List (Str×En)):Prop where
 fn:∀{x:Str}{i:Nat}{r:Bool},T.lookup x=some (.fn i r)->∀ad,fa i=some ad->mg x=some (.ref ad)
 fnD:∀{x:Str}{i:Nat},T.lookup x=some (.fnD i)->(∀ad,fa i=some ad->mg x=some (.ref ad))/\(fa (500+i)).isSome=true
 int:∀{x:Str}{i:Int},T.lookup x=some (.int i)->∃t,mg x=some (.int i t)
 str:∀{x:Str}{z:Str},T.lookup x=some (.str z)->∃t,mg x=some (.str z t)
 dct:∀{x:Str}{fs:List (Str×Nat)},T.lookup x=some (.dct fs)->∃ad kvs,mg x=some (.ref ad)/\ff K w.params ad kvs/\dJ fa kvs fs
 xc:∀{x:Str}{k:Nat},T.lookup x=some (.xc k)->∃C,mg x=some (.ref C)/\fa (c7 k)=some C/\PySem.W.excIn K C mF "ValueError.__new__"=true/\PySem.W.keepIn K (.ref C)=true
 xi:∀{x:Str}{k:Nat},T.lookup x=some (.xi k)->j6 fa P w K mg base k x/\∃D,mg x=some (.ref D)/\fa (c7 k)=some D
 xk:∀{x:Str}{k:Nat},T.lookup x=some (.xk k)->∃D,mg x=some (.ref D)/\fa (c7 k)=some D
 de:∀{x:Str},T.lookup x=some .de->∃D,mg x=some (.ref D)/\fa 999=some D
 bl:∀{x:Str},T.lookup x=some .bl->mg x=none
 xcs:j4 fa K
 ob:KZ fa K
 of:∀o,5000<=o->fa o=none
 od:fa (i7 77)=none/\fa (i7 78)=none
 cls:∀{x:Str}{c f:Nat},T.lookup x=some (.cls c f)->∃C,mg x=some (.ref C)/\fa (i7 c)=some C/\∀ad,fa f=some ad->Mk K C ad
structure G where
 T:List (Str×En)
 tw:List (Str×Str×Nat×Nat)
 xf:List Str
 cel:List (Nat×Nat×Nat)
 txt:List (Nat×Nat×Nat)
 ms:List (Str×Nat×Nat)
 c:Call
 N:List Str
 sc:Scope
 lv:Nat
 oc:List Str:=[]
structure dE (fa:Fa) (n:Nat) (g:G) (X:Cx):Prop where
 N:X.N=g.N
 nd:g.N.Nodup
 sc:X.env.scope=g.sc
 T:EE fa X.prog X.w X.K X.mg X.base g.T
 tw:∀q∈g.tw,ED fa X.K X.mg q.1 q.2.1 q.2.2.1 q.2.2.2
 xf:∀f∈g.xf,wc fa X.K f
 ms:∀q∈g.ms,oV fa X.K q.1 q.2.1 q.2.2
 fn:g.lv≠1->∀x,X.fn x=true
 oc:∀x∈g.oc,X.fn x=true
 calm:0<g.lv->X.calm=true
 C:0<g.lv->∀f,gA fa X.prog X.w X.K X.mg X.base n f (g.c f)
 hr:0<g.lv->b5 (2*n+4+1) X.A
 top:2<=g.lv->X.ex=[]/\X.stack=X.env::X.outer/\X.env.frame=some X.env.locals/\X.env.scope.kind=.function
 po:g.lv=2->PassesOwn (model X.prog X.w) X.A X.env X.xe
structure Rc where
 e:G->Expr->Option GE
 t:G->Expr->Option GT
 x:G->Expr->Option GE
 w:G->Expr->Expr->Option GW
 s:G->Stmt->Option GS
abbrev dh:=Rc->G->Expr->Option GE
abbrev EF:=Rc->G->Expr->Option GT
abbrev wg:=Rc->G->Expr->Expr->Option GW
abbrev jt:=Rc->G->Stmt->Option GS
structure ie (fa:Fa) (n:Nat) (R:Rc):Prop where
 e:∀{g:G}{X:Cx}{a:Expr}{ga:GE},dE fa n g X->R.e g a=some ga->DE fa X a ga
 t:∀{g:G}{X:Cx}{a:Expr}{ga:GT},dE fa n g X->R.t g a=some ga->DT fa X a ga
 x:∀{g:G}{X:Cx}{a:Expr}{ga:GE},dE fa n g X->R.x g a=some ga->DX fa X a ga
 w:∀{g:G}{X:Cx}{t a:Expr}{ga:GW},dE fa n g X->R.w g t a=some ga->DI fa X t a ga
 s:∀{g:G}{X:Cx}{a:Stmt}{ga:GS},dE fa n g X->R.s g a=some ga->DS fa X a ga
def SE (r:dh):Prop:=∀{fa:Fa}{n:Nat}{R:Rc},ie fa n R->∀{g:G}{X:Cx},dE fa n g X->∀{a:Expr}{h:GE},r R g a=some h->DE fa X a h
def ST (r:EF):Prop:=∀{fa:Fa}{n:Nat}{R:Rc},ie fa n R->∀{g:G}{X:Cx},dE fa n g X->∀{a:Expr}{h:GT},r R g a=some h->DT fa X a h
def SX (r:dh):Prop:=∀{fa:Fa}{n:Nat}{R:Rc},ie fa n R->∀{g:G}{X:Cx},dE fa n g X->∀{a:Expr}{h:GE},r R g a=some h->DX fa X a h
def SW (r:wg):Prop:=∀{fa:Fa}{n:Nat}{R:Rc},ie fa n R->∀{g:G}{X:Cx},dE fa n g X->∀{t a:Expr}{h:GW},r R g t a=some h->DI fa X t a h
def SS (r:jt):Prop:=∀{fa:Fa}{n:Nat}{R:Rc},ie fa n R->∀{g:G}{X:Cx},dE fa n g X->∀{a:Stmt}{h:GS},r R g a=some h->DS fa X a h
structure Rs where
 e:List dh
 t:List EF
 x:List dh
 w:List wg
 s:List jt
noncomputable def It (rs:Rs):Nat->Rc
 |0=>{λ_ _=>none,λ_ _=>none,λ_ _=>none,λ_ _ _=>none,λ_ _=>none}
 |n+1=>{λg a=>rs.e.findSome? λr=>r (It rs n) g a,λg a=>rs.t.findSome? λr=>r (It rs n) g a,λg a=>rs.x.findSome? λr=>r (It rs n) g a,λg t a=>rs.w.findSome? λr=>r (It rs n) g t a,λg a=>rs.s.findSome? λr=>r (It rs n) g a}
noncomputable def AllP {h:Type}(p:h->Prop):List h->Prop
 |[]=>True
 |a::l=>p a/\AllP p l
noncomputable def AllP.mem {j:Type}{p:j->Prop}:∀{l:List j},AllP p l->∀a∈l,p a
 |_::_,h,a,m=>(Pr.mp m).elim (λe=>e ▸ h.1) (AllP.mem h.2 a)
structure CV (rs:Rs):Prop where
 e:AllP SE rs.e
 t:AllP ST rs.t
 x:AllP SX rs.x
 w:AllP SW rs.w
 s:AllP SS rs.s
theorem EI (h:CV rs):∀k,ie fa n (It rs k)
 |0=>{(λ_ z=>nomatch z),(λ_ z=>nomatch z),(λ_ z=>nomatch z),(λ_ z=>nomatch z),(λ_ z=>nomatch z)}
 | k+1=>by
   have j:=EI (n:=n) (fa:=fa) h k;refine{λo z=>?_,λo z=>?_,λo z=>?_,λo z=>?_,λo z=>?_}
   ·obtain⟨r,m,e⟩:=QI z;exact h.e.mem r m j o e
   ·obtain⟨r,m,e⟩:=QI z;exact h.t.mem r m j o e
   ·obtain⟨r,m,e⟩:=QI z;exact h.x.mem r m j o e
   ·obtain⟨r,m,e⟩:=QI z;exact h.w.mem r m j o e
   ·obtain⟨r,m,e⟩:=QI z;exact h.s.mem r m j o e
noncomputable def NA:Str:="__debug__"
def gE (g:G)(x:Str):Bool:=g.sc.names.lookup x==some .globalImplicit&&!(x==NA)
def vr (g:G)(x:Str):Option Nat:=if (g.sc.names.lookup x==some .local||g.sc.names.lookup x==some .cell||g.sc.names.lookup x==some .free)&&!(x==NA)&&!(x==("__classdict__":Str)) then g.N.findIdx? (·==x) else none
section
variable{fa:Fa}{n:Nat}{g:G}{X:Cx}{R:Rc}(o:dE fa n g X)
include o
theorem cm (h:gE g x=true):Gl X x/\(x==("__debug__":Str))=false:=by
 unfold gE at h;rw[O2,Q2] at h;exact{by show X.env.scope.names.lookup x=_;rw[o.sc];exact eq_of_beq h.1,h.2}
theorem rN (h:g.N.findIdx? (·==x)=some i):X.N[i]?=some x:=by
 obtain⟨j,h1,_⟩:=List.findIdx?_eq_some_iff_getElem.mp h;rw[o.N,PB j,eq_of_beq h1]
theorem C9 (h:vr g x=some i):X.N[i]?=some x/\uA X.env.scope x/\(x==("__debug__":Str))=false/\(x==("__classdict__":Str))=false:=by
 obtain⟨c,h⟩:=oi h;simp only[O2,QN,Q2] at c;refine{rN o h,?_,c.1.2,c.2};rw[o.sc];rcases c.1.1 with(z|z)|z
 ·exact .inl (eq_of_beq z)
 ·exact .inr (.inl (eq_of_beq z))
 ·exact .inr (.inr (eq_of_beq z))
omit o
theorem dE.rm (o:dE fa n g X)(h:0<g.lv):Rm X:=Fw (o.hr h)
end
noncomputable def cA (f:Expr->Option GE):List Expr->Option GA
 |[]=>some ba
 |a::r=>if notStar a=true then(f a).bind λx=>(cA f r).bind λy=>some (aM x y) else none
theorem jl (hf:∀{a:Expr}{j:GE},f a=some j->DE fa X a j):∀{es:List Expr}{u:GA},cA f es=some u->DA fa X es u/\es.all notStar=true
 |[],_,h=>by cases h;exact⟨Ky,rfl⟩
 | a::r,_,h=>by
   obtain⟨c,h⟩:=oi h;obtain⟨x,v,h⟩:=ob h;obtain⟨y,B,h⟩:=ob h;cases h;obtain⟨h1,h2⟩:=jl hf B;exact{G3 (hf v) h1 (bo c),by rw[Qx,c,h2];rfl}
noncomputable def uw (f:Expr->Option GE)(k:GE->GE->GE):List Expr->Option GE
 |[]=>none
 |[a]=>f a
 |a::b::r=>(f a).bind λx=>(uw f k (b::r)).bind λy=>some (k x y)
noncomputable def v9 (hf:∀{a:Expr}{j:GE},f a=some j->DE fa X a j):∀{es:List Expr}{ge:GE},uw f d9 es=some ge->DE fa X (.BoolOp .And es pos) ge
 |[a],_,h=>Er (hf h)
 | a::b::r,_,h=>by
   obtain⟨x,u,h⟩:=ob h;obtain⟨y,v,h⟩:=ob h;cases h;exact MF (hf u) (v9 hf v)
noncomputable def Ay (hf:∀{a:Expr}{j:GE},f a=some j->DE fa X a j):∀{es:List Expr}{ge:GE},uw f Nz es=some ge->DE fa X (.BoolOp .Or es pos) ge
 |[a],_,h=>Er (hf h)
 | a::b::r,_,h=>by
   obtain⟨x,u,h⟩:=ob h;obtain⟨y,v,h⟩:=ob h;cases h;exact OC (hf u) (Ay hf v)
noncomputable def sh (f:Expr->Option GT)(k:GT->GT->GT):List Expr->Option GT
 |[]=>none
 |[a]=>f a
 |a::b::r=>(f a).bind λx=>(sh f k (b::r)).bind λy=>some (k x y)
noncomputable def uV (hf:∀{a:Expr}{j:GT},f a=some j->DT fa X a j):∀{es:List Expr}{ge:GT},sh f dM es=some ge->DW fa X (.BoolOp .And es pos) ge
 |[a],_,h=>GK (hf h)
 | a::b::r,_,h=>by
   obtain⟨x,u,h⟩:=ob h;obtain⟨y,v,h⟩:=ob h;cases h;exact Kd (hf u) (uV hf v)
noncomputable def yC (hf:∀{a:Expr}{j:GT},f a=some j->DT fa X a j):∀{es:List Expr}{ge:GT},sh f cT es=some ge->DW fa X (.BoolOp .Or es pos) ge
 |[a],_,h=>Kc (hf h)
 | a::b::r,_,h=>by
   obtain⟨x,u,h⟩:=ob h;obtain⟨y,v,h⟩:=ob h;cases h;exact Mg (hf u) (yC hf v)
def Dd:dh:=λ_ g e=>nName e λx _=>((vr g x).bind λi=>some (aa i)).or (if gE g x=true then(g.T.lookup x).bind fun
 |.int i=>some (gC (.int i))
 |.str i=>some (gC (.str i))
 |_=>none else none)
def AU:SE Dd:=by
 intro fa n R y g X o a u h;replace h:=cp h;obtain⟨x,p,rfl,h⟩:=h;rcases bX h with h|h
 ·obtain⟨i,e,h⟩:=ob h;cases h;obtain⟨a,b,c,d⟩:=C9 o e;exact Mn a b c d
 ·obtain⟨c,h⟩:=oi h;obtain⟨j,hd⟩:=cm o c;obtain⟨t,e,h⟩:=ob h;cases t with
  |int i=>cases h;exact FE j (o.T.int e) hd
  |str i=>cases h;obtain⟨t,e⟩:=o.T.str e;exact iJ (v:=.str _) (eU j e ⟨t,rfl⟩ hd) λ_ _=>rfl
  |_=>cases h
def yq:dh:=λ_ _ e=>wR e fun
 |.int i,_,_=>some (gC (.int i))
 |.bool i,_,_=>some (gC (.bl i))
 |.str i,_,_=>some (gC (.str i))
 |.none,_,_=>some (gC .non)
 |_,_,_=>none
def yp:SE yq:=by
 intro fa n R u g X o a j h;replace h:=l4 h;obtain⟨c,i,p,rfl,h⟩:=h;cases c with
 |int i=>cases h;exact My
 |bool i=>cases h;exact OD
 |str i=>cases h;exact Mp
 |none=>cases h;exact Ms
 |_=>cases h
noncomputable def G.cl (g:G)(p:Pos):Bool:=g.cel.contains (p.line,p.col,p.endCol)
def G.tx (g:G)(p:Pos):Bool:=g.txt.contains (p.line,p.col,p.endCol)
noncomputable def Ez:Operator->Option rj
 |.Add=>some .add|.Sub=>some .sub|.Mult=>some .mul|.FloorDiv=>some .fdiv|.Mod=>some .mod|.Pow=>some .pow|_=>none
def CO (h:Ez q=some b):q=binOp b:=by cases q<;>cases h<;>rfl
noncomputable def fD:CmpOp->jv
 |.Eq=>.eq|.NotEq=>.ne|.Lt=>.lt|.LtE=>.le|.Gt=>.gt|.GtE=>.ge|.Is=>.isN|.IsNot=>.notN|.In=>.isin|.NotIn=>.notin
def cH (q:CmpOp):dZ (fD q)=q:=by cases q<;>rfl
def HA:dh:=λR g e=>(N5 e λa q b p=>(Ez q).bind λq=>(R.e g a).bind λx=>(R.e g b).bind λy=>some (ah (g.cl p) q x y)).or
 ((Ju e λq a _=>match q with
   |.USub=>(R.e g a).bind λx=>some (dw x)
   |.Not=>(R.e g a).bind λx=>some (J2 x)
   |_=>none).or
 ((DM e λq h _=>match q with
   |.And=>uw (R.e g) d9 h
   |.Or=>uw (R.e g) Nz h).or
 ((Jw e λc a b _=>(R.t g c).bind λt=>(R.e g a).bind λx=>(R.e g b).bind λy=>some (gj t x y)).or
 ((sX e λh _ _=>(cA (R.e g) h).bind λs=>some (aU s)).or (N2 e λh p=>(cA (R.e g) h).bind λs=>some (aA (g.cl p) s))))))
def E1:SE HA:=by
 intro fa n R j g X o a H h;replace h:=bX h;rcases h with h|h
 ·obtain⟨a,q,b,p,rfl,h⟩:=Gf h;obtain⟨q,E,h⟩:=ob h;obtain⟨x,u,h⟩:=ob h;obtain⟨y,v,h⟩:=ob h;cases h;rw[CO E];exact MD _ _ (j.e o u) (j.e o v)
 replace h:=bX h;rcases h with h|h
 ·obtain⟨q,a,p,rfl,h⟩:=sW h;cases q with
  |USub=>obtain⟨x,u,h⟩:=ob h;cases h;exact Mv (j.e o u)
  |Not=>obtain⟨x,u,h⟩:=ob h;cases h;exact Mr (j.e o u)
  |_=>cases h
 replace h:=bX h;rcases h with h|h
 ·obtain⟨q,B,p,rfl,h⟩:=s8 h;cases q with
  |And=>exact v9 (j.e o) h
  |Or=>exact Ay (j.e o) h
 replace h:=bX h;rcases h with h|h
 ·obtain⟨c,a,b,p,rfl,h⟩:=vp h;obtain⟨t,F,h⟩:=ob h;obtain⟨x,u,h⟩:=ob h;obtain⟨y,v,h⟩:=ob h;cases h;exact Mx (j.t o F) (j.e o u) (j.e o v)
 replace h:=bX h;rcases h with h|h
 ·obtain⟨B,k,p,rfl,h⟩:=gM h;obtain⟨s,hs,h⟩:=ob h;cases h;exact Mo (jl (j.e o) hs).1
 ·obtain⟨B,p,rfl,h⟩:=F9 h;obtain⟨s,hs,h⟩:=ob h;cases h;exact Mw _ (jl (j.e o) hs).1
def CH (g:G)(x:Str):Option (List (Str×Nat)):=if gE g x=true then(match g.T.lookup x with|some (.dct fs)=>some fs|_=>none) else none
set_option tactic.hygienic true in
def t5 (o:dE fa n g X)(h:CH g x=some fs):(∃ad j,X.mg x=some (.ref ad)/\ff X.K X.w.params ad j/\dJ fa j fs)/\Gl X x/\(x==("__debug__":Str))=false:=by
 obtain⟨c,h⟩:=oi h;split at h
 ·next e=>cases h;exact{o.T.dct e,cm o c}
 ·cases h
def CM (R:Rc)(g:G)(e:Expr):Option GE:=JA e λa h bs _=>
 (n2 h λq r=>n2 bs λb c=>if 0<g.lv/\behindInMarks r c=false then(R.e g a).bind λy=>(R.e g b).bind λz=>(R.e g c).bind λu=>some (iU (fD q) (fD r) y z u) else none).or
 (n1 h λq=>n1 bs λb=>(if fD q=.notin then nName b λx _=>(CH g x).bind λfs=>(R.e g a).bind λy=>some (ix fs y) else none).or
  (if 0<g.lv/\behindInMarks q b=false then(R.e g a).bind λy=>(R.e g b).bind λz=>some (aH (fD q) y z) else none))
def HH:dh:=CM
def sS (h:fD q=.notin):q=.NotIn:=(cH q).symm.trans (congrArg dZ h)
def E5:SE HH:=by
 intro fa n R j g X o a F h;replace h:=pE h;obtain⟨a,H,bs,p,rfl,h⟩:=h;replace h:=bX h;rcases h with h|h
 ·replace h:=gV h;obtain⟨q,r,rfl,h⟩:=h;obtain⟨b,d,rfl,h⟩:=gV h;obtain⟨c,h⟩:=oi h;replace h:=ob h;obtain⟨y,v,h⟩:=h;replace h:=ob h;obtain⟨z,B,h⟩:=h;replace h:=ob h;obtain⟨u,E,h⟩:=h;cases h;have:=MC (o.rm c.1) (fD q) (fD r) (j.e o v) (j.e o B) (j.e o E) (by rw[cH,cH];exact c.2) (pos:=p)
  rw[cH,cH] at this;exact this
 replace h:=cK h;obtain⟨q,rfl,h⟩:=h;replace h:=cK h;obtain⟨b,rfl,h⟩:=h;replace h:=bX h;rcases h with h|h
 ·replace h:=oi h;obtain⟨c,h⟩:=h;obtain⟨x,_,rfl,h⟩:=cp h;obtain⟨fs,e,h⟩:=ob h;obtain⟨y,v,h⟩:=ob h;cases h;obtain⟨d,e1,e2⟩:=t5 o e;rw[sS c];exact FG d e1 e2 (j.e o v) rfl
 ·obtain⟨c,h⟩:=oi h;obtain⟨y,v,h⟩:=ob h;obtain⟨z,B,h⟩:=ob h;cases h;have:=MB (o.rm c.1) (fD q) (j.e o v) (j.e o B) (by rw[cH];exact c.2) (pos:=p)
  rw[cH] at this;exact this
noncomputable def NH:Expr->Bool
 |.Compare ..=>false
 |.BoolOp ..=>false
 |.UnaryOp ..=>false
 |.IfExp ..=>false
 |_=>true
def vT:EF:=λR g e=>((CM R g e).bind λx=>some (aj x)).or
 ((DM e λq h _=>match q with
   |.And=>sh (R.t g) dM h
   |.Or=>sh (R.t g) cT h).or
 ((Ju e λq a _=>match q with
   |.Not=>(R.t g a).bind λx=>some (bG x)
   |_=>none).or (if NH e=true then(R.e g e).bind λx=>some (aj x) else none)))
def EW (j:ie fa n R)(o:dE fa n g X)(h:CM R g a=some ga):DT fa X a (aj ga):=by
 replace h:=pE h;obtain⟨a,F,bs,p,rfl,h⟩:=h;replace h:=bX h;rcases h with h|h
 ·replace h:=gV h;obtain⟨q,r,rfl,h⟩:=h;obtain⟨b,d,rfl,h⟩:=gV h;obtain⟨c,h⟩:=oi h;replace h:=ob h;obtain⟨y,v,h⟩:=h;replace h:=ob h;obtain⟨z,B,h⟩:=h;replace h:=ob h;obtain⟨u,E,h⟩:=h;cases h;have:=Kh (o.rm c.1) (fD q) (fD r) (j.e o v) (j.e o B) (j.e o E) (by rw[cH,cH];exact c.2) (pos:=p)
  rw[cH,cH] at this;exact this
 replace h:=cK h;obtain⟨q,rfl,h⟩:=h;replace h:=cK h;obtain⟨b,rfl,h⟩:=h;replace h:=bX h;rcases h with h|h
 ·replace h:=oi h;obtain⟨c,h⟩:=h;obtain⟨x,_,rfl,h⟩:=cp h;obtain⟨fs,e,h⟩:=ob h;obtain⟨y,v,h⟩:=ob h;cases h;obtain⟨d,e1,e2⟩:=t5 o e;rw[sS c];exact FK d e1 e2 (j.e o v) rfl
 ·obtain⟨c,h⟩:=oi h;obtain⟨y,v,h⟩:=ob h;obtain⟨z,B,h⟩:=ob h;cases h;have:=Kg (o.rm c.1) (fD q) (j.e o v) (j.e o B) (by rw[cH];exact c.2) (pos:=p)
  rw[cH] at this;exact this
def Le:ST vT:=by
 intro fa n R u g X o a y h;replace h:=bX h;rcases h with h|h
 ·obtain⟨x,j,h⟩:=ob h;cases h;exact EW u o j
 replace h:=bX h;rcases h with h|h
 ·obtain⟨q,v,p,rfl,h⟩:=s8 h;cases q with
  |And=>exact PW.pt (uV (u.t o) h)
  |Or=>exact PW.pt (yC (u.t o) h)
 replace h:=bX h;rcases h with h|h
 ·obtain⟨q,a,p,rfl,h⟩:=sW h;cases q with
  |Not=>obtain⟨x,j,h⟩:=ob h;cases h;exact Ke (u.t o j)
  |_=>cases h
 ·obtain⟨c,h⟩:=oi h;obtain⟨x,j,h⟩:=ob h;cases h;exact Cz (u.e o j) λ_=>by cases a<;>first|rfl|cases c
noncomputable def jN:Expr->Bool
 |.Slice ..=>false
 |_=>true
def mT (h:jN b=true):iM b:=by
 intro x i;cases b<;>first|rfl|cases h
noncomputable def cO (f:Expr->Option GE):Option Expr->Option GE
 |none=>some (gC .non)
 |some a=>f a
def rT (hf:∀{a:Expr}{j:GE},f a=some j->DE fa X a j)(h:cO f q=some ge):DO fa X q q.isSome ge:=by
 cases q with
 |none=>cases h;exact GU
 |some a=>exact GR (hf h)
noncomputable def Hw:UnaryOp->Bool
 |.USub=>true
 |_=>false
def EX (h:Hw q=true):q=.USub:=by cases q<;>first|rfl|cases h
def Hy:dh:=λR g e=>mX e λa b _=>nName a λx _=>(CH g x).bind λfs=>if jN b=true then(R.e g b).bind λy=>some (kC fs y) else none
def EY:SE Hy:=by
 intro fa n R u g X o a v h;replace h:=gO h;obtain⟨a,b,p,rfl,h⟩:=h;replace h:=cp h;obtain⟨x,q,rfl,h⟩:=h;obtain⟨fs,e,h⟩:=ob h;obtain⟨c,h⟩:=oi h;obtain⟨y,j,h⟩:=ob h;cases h;obtain⟨d,e1,e2⟩:=t5 o e;exact FH d e1 e2 (u.e o j) (mT c)
def HC:dh:=λR g e=>mX e λa b p=>(B2 b λlo h st _=>if st.isNone=true/\g.tx p=false then(R.e g a).bind λx=>(cO (R.e g) lo).bind λy=>(cO (R.e g) h).bind λz=>some (bZ (g.cl p) lo.isSome h.isSome x y z) else none).or
 (if jN b=true then(R.e g a).bind λx=>(R.e g b).bind λy=>some (aF x y) else none)
def E3:SE HC:=by
 intro fa n R j g X o a E h;replace h:=gO h;obtain⟨a,b,p,rfl,h⟩:=h;replace h:=bX h;rcases h with h|h
 ·obtain⟨lo,F,st,p2,rfl,h⟩:=pD h;obtain⟨⟨c,_⟩,h⟩:=oi h;replace h:=ob h;obtain⟨x,u,h⟩:=h;replace h:=ob h;obtain⟨y,v,h⟩:=h;replace h:=ob h;obtain⟨z,B,h⟩:=h;cases h;rw[Qu.mp c];exact Mq _ _ _ (j.e o u) (rT (j.e o) v) (rT (j.e o) B)
 ·obtain⟨c,h⟩:=oi h;obtain⟨x,u,h⟩:=ob h;obtain⟨y,v,h⟩:=ob h;cases h;exact Mz (j.e o u) (j.e o v) (mT c)
def Dc:dh:=λR g e=>mX e λa b p=>B2 b λlo h st _=>if st.isNone=true/\g.tx p=true then(R.e g a).bind λx=>(cO (R.e g) lo).bind λy=>(cO (R.e g) h).bind λz=>some (mh lo.isSome h.isSome x y z) else none
def AS:SE Dc:=by
 intro fa n R j g X o a E h;replace h:=gO h;obtain⟨a,b,p,rfl,h⟩:=h;replace h:=pD h;obtain⟨lo,F,st,p2,rfl,h⟩:=h;obtain⟨⟨c,_⟩,h⟩:=oi h;replace h:=ob h;obtain⟨x,u,h⟩:=h;replace h:=ob h;obtain⟨y,v,h⟩:=h;replace h:=ob h;obtain⟨z,B,h⟩:=h;cases h;rw[Qu.mp c];exact Ir _ _ (j.e o u) (rT (j.e o) v) (rT (j.e o) B)
def Hz:dh:=λR g e=>mX e λa b p=>B2 b λlo h st _=>st.bind λs=>Ju s λq c _=>Jv c λz=>if lo.isNone=true/\h.isNone=true/\Hw q=true/\z=1 then(R.e g a).bind λx=>some (pO (g.cl p) x) else none
def EZ:SE Hz:=by
 intro fa n R E g X o a F h;replace h:=gO h;obtain⟨a,b,p,rfl,h⟩:=h;replace h:=pD h;obtain⟨lo,H,st,p2,rfl,h⟩:=h;obtain⟨s,rfl,h⟩:=ob h;replace h:=sW h;obtain⟨q,c,_,rfl,h⟩:=h;replace h:=Gb h;obtain⟨z,_,_,rfl,h⟩:=h;obtain⟨⟨j,u,v,y⟩,k⟩:=oi h;rw[Qu.mp j,Qu.mp u,EX v,y];obtain⟨x,B,k⟩:=ob k;cases k;exact Lx _ (E.e o B)
noncomputable def lx (g:G)(x:Str):Option Nat:=if (g.sc.names.lookup x==some .local||(g.sc.names.lookup x==some .cell&&(g.lv != 1||g.oc.contains x)))=true then g.N.findIdx? (·==x) else none
noncomputable def DQ (g:G):List Expr->Option (List Nat)
 |[]=>some []
 |e::r=>nName e λx _=>(lx g x).bind λi=>(DQ g r).bind λl=>some (i::l)
def cG (g:G)(e:Expr):Option fw:=(nName e λx _=>(lx g x).bind λi=>some (.one i)).or (sX e λh _ _=>if 0<g.lv then((DQ g h).bind λl=>some (.tup l)).or (n2 h λa b=>nName a λx _=>sX b λbs _ _=>(lx g x).bind λi=>(DQ g bs).bind λl=>some (.two i l)) else none)
section
variable{fa:Fa}{n:Nat}{g:G}{X:Cx}{R:Rc}(o:dE fa n g X)
include o
theorem wY (h:lx g x=some i):X.N[i]?=some x/\L2.Loc X.env.scope x/\(X.fn x=true\/X.env.scope.names.lookup x=some .local):=by
 obtain⟨c,h⟩:=oi h;rw[QN,O2] at c;refine{rN o h,?_,?_}
 ·unfold L2.Loc;rw[o.sc];rcases c with z|z
  ·exact .inl (eq_of_beq z)
  ·exact .inr (eq_of_beq z.1)
 ·rcases c with z|z
  ·right;rw[o.sc];exact eq_of_beq z
  ·rcases Bool.or_eq_true_iff.mp z.2 with q|q
   ·exact .inl (o.fn (by simpa using q) x)
   ·exact .inl (o.oc x (List.contains_iff_mem.mp q))
theorem tj:∀{es:List Expr}{l:List Nat},DQ g es=some l->iD X l es
 |[],_,h=>by cases h;exact .nil
 | e::r,_,h=>by
   replace h:=cp h;obtain⟨x,p,rfl,h⟩:=h;obtain⟨i,j,h⟩:=ob h;obtain⟨l,hl,h⟩:=ob h;cases h;obtain⟨a,b,c⟩:=wY o j;exact .cons a b c (tj hl)
theorem jk (h:cG g t=some tt):PG X t (gT fa X.K tt):=by
 replace h:=bX h;rcases h with h|h
 ·obtain⟨x,p,rfl,h⟩:=cp h;replace h:=ob h;obtain⟨i,j,h⟩:=h;cases h;obtain⟨a,b,c⟩:=wY o j;exact G0 (o.N ▸ o.nd) a b c
 ·replace h:=gM h;obtain⟨v,k,p,rfl,h⟩:=h;replace h:=oi h;obtain⟨c,h⟩:=h;replace h:=bX h;rcases h with h|h
  ·obtain⟨l,hl,h⟩:=ob h;cases h;exact Kv (o.calm c) (o.N ▸ o.nd) (tj o hl)
  ·obtain⟨a,b,rfl,h⟩:=gV h;replace h:=cp h;obtain⟨x,y,rfl,h⟩:=h;replace h:=gM h;obtain⟨bs,k2,p2,rfl,h⟩:=h;obtain⟨i,j,h⟩:=ob h;obtain⟨l,hl,h⟩:=ob h;cases h;obtain⟨e1,e2,u⟩:=wY o j;exact Ku (o.calm c) (o.N ▸ o.nd) e1 e2 u (tj o hl)
end
def cB (nm:Str)(R:Rc)(g:G)(e:Expr):Option (List Expr×GA):=ly e λx h _=>nC h λa h=>if x=nm/\gE g x=true/\(match g.T.lookup x with|some .bl=>true|_=>false)=true/\0<g.lv then(cA (R.e g) (a::h)).bind λj=>some (a::h,j) else none
def mw {g:G}(h:(match g.T.lookup x with|some .bl=>true|_=>false)=true):g.T.lookup x=some .bl:=by
 split at h
 ·assumption
 ·cases h
def rV (E:ie fa n R)(o:dE fa n g X)(h:cB nm R g e=some (as,u)):∃p pos a es,as=a::es/\e=.Call (.Name nm p) (a::es) [] pos/\Gl X nm/\X.mg nm=none/\0<g.lv/\DA fa X (a::es) u/\notStar a=true/\es.all notStar=true:=by
 replace h:=fq h;obtain⟨x,q,es,p,rfl,h⟩:=h;replace h:=ip h;obtain⟨a,es,rfl,h⟩:=h;replace h:=oi h;obtain⟨⟨rfl,v,y,B⟩,h⟩:=h;obtain⟨u,j,h⟩:=ob h;cases h;obtain⟨d,ns⟩:=jl (E.e o) j;rw[Qx,O2] at ns;exact{_,_,_,_,rfl,rfl,(cm o v).1,o.T.bl (mw y),B,d,ns.1,ns.2}
def HB:dh:=λR g e=>(cB "len" R g e).bind λq=>some (aX .len q.2)
def E2:SE HB:=λ{fa n R} v {g X} o {a B} h=>by
 obtain⟨⟨y,E⟩,u,h⟩:=ob h;cases h;obtain⟨_,_,_,_,_,rfl,j,hm,_,d,n1,n2⟩:=rV v o u;exact Es .len Ma j hm PySem.boot_len d `d `d (bo n1) (c4 n2)
def HJ:dh:=λR g e=>(cB "all" R g e).bind λq=>some (aX .all q.2)
def E7:SE HJ:=λ{fa n R} v {g X} o {a B} h=>by
 obtain⟨⟨y,E⟩,u,h⟩:=ob h;cases h;obtain⟨_,_,_,_,_,rfl,j,hm,lv,d,n1,n2⟩:=rV v o u;exact Es .all (Mc (o.calm lv)) j hm `k d `d `d (bo n1) (c4 n2)
def yf:dh:=λR g e=>(cB "tuple" R g e).bind λq=>some (aX .tuple q.2)
def yd:SE yf:=λ{fa n R} v {g X} o {a B} h=>by
 obtain⟨⟨y,E⟩,u,h⟩:=ob h;cases h;obtain⟨_,_,_,_,_,rfl,j,hm,_,d,n1,n2⟩:=rV v o u;exact Ai .tuple Gv j hm `k d `d `d (bo n1) (c4 n2)
def De:dh:=λR g e=>(cB "list" R g e).bind λq=>some (aX (.list (g.cl e.pos)) q.2)
def AV:SE De:=λ{fa n R} v {g X} o {a B} h=>by
 obtain⟨⟨y,E⟩,u,h⟩:=ob h;cases h;obtain⟨_,_,_,_,_,rfl,j,hm,_,d,n1,n2⟩:=rV v o u;exact Ai (.list _) (J4 _) j hm `k d `d `d (bo n1) (c4 n2)
def cR (R:Rc)(g:G)(nm:Str)(e:Expr):Option (Expr×GE):=ly e λx h _=>n1 h λa=>if x=nm/\gE g x=true/\(match g.T.lookup x with|some .bl=>true|_=>false)=true/\0<g.lv/\notStar a=true then(R.e g a).bind λy=>some (a,y) else none
def oN (F:ie fa n R)(o:dE fa n g X)(h:cR R g nm e=some (a,ga)):∃p pos,e=.Call (.Name nm p) [a] [] pos/\Gl X nm/\X.mg nm=none/\0<g.lv/\DE fa X a ga/\starEach [a] X.env=[(false,eval a X.env)]:=by
 replace h:=fq h;obtain⟨x,q,H,p,rfl,h⟩:=h;replace h:=cK h;obtain⟨a,rfl,h⟩:=h;replace h:=oi h;obtain⟨⟨rfl,j,u,v,B⟩,h⟩:=h;obtain⟨y,E,h⟩:=ob h;cases h;exact{_,_,rfl,(cm o j).1,o.T.bl (mw u),v,F.e o E,bo B}
def yh:dh:=λR g e=>ly e λx h p=>n1 h λb=>if x="list"/\gE g x=true/\(match g.T.lookup x with|some .bl=>true|_=>false)=true then(cR R g "range" b).bind λq=>some (lG (g.cl p) q.2) else none
def yg:SE yh:=λ{fa n R} E {g X} o {a H} h=>by
 replace h:=fq h;obtain⟨x,q,F,p,rfl,h⟩:=h;replace h:=cK h;obtain⟨b,rfl,h⟩:=h;replace h:=oi h;obtain⟨⟨rfl,j,u⟩,h⟩:=h;obtain⟨⟨b,y⟩,B,h⟩:=ob h;cases h;obtain⟨_,_,rfl,v,hm,lv,d,hs⟩:=oN E o B;exact Fz _ (o.calm lv) d (cm o j).1 (o.T.bl (mw u)) v hm hs rfl
def A3 (x:Str):Option Ty:=if x="int" then some .int else if x="bool" then some .bool else if x="str" then some .str else if x="tuple" then some .tuple else if x="list" then some .list else none
def E8 (h:A3 x=some t):bootBuiltins x=some (.type (tyName t))/\(∀c,t≠.own c)/\x≠"__name__"/\(x==("__debug__":Str))=false:=by
 unfold A3 at h;split at h
 ·subst x;cases h;exact{`k,(λ_ z=>nomatch z),`d,`d}
 split at h
 ·subst x;cases h;exact{`k,(λ_ z=>nomatch z),`d,`d}
 split at h
 ·subst x;cases h;exact{`k,(λ_ z=>nomatch z),`d,`d}
 split at h
 ·subst x;cases h;exact{`k,(λ_ z=>nomatch z),`d,`d}
 split at h
 ·subst x;cases h;exact{`k,(λ_ z=>nomatch z),`d,`d}
 ·cases h
def cI (R:Rc)(g:G)(e:Expr):Option (Str×GE):=ly e λy h _=>n2 h λa b=>nName b λx _=>if y="isinstance"/\gE g y=true/\(match g.T.lookup y with|some .bl=>true|_=>false)=true/\gE g x=true/\notStar a=true then(R.e g a).bind λz=>some (x,z) else none
def Ew (F:ie fa n R)(o:dE fa n g X)(h:cI R g e=some (x,ga)):∃p q a pos,e=.Call (.Name "isinstance" p) [a,.Name x q] [] pos/\Gl X "isinstance"/\X.mg "isinstance"=none/\Gl X x/\(x==("__debug__":Str))=false/\DE fa X a ga/\starEach [a,.Name x q] X.env=(false,eval a X.env)::starEach [.Name x q] X.env:=by
 replace h:=fq h;obtain⟨y,q,H,p,rfl,h⟩:=h;replace h:=gV h;obtain⟨a,b,rfl,h⟩:=h;replace h:=cp h;obtain⟨x,I,rfl,h⟩:=h;replace h:=oi h;obtain⟨⟨rfl,u,v,j,B⟩,h⟩:=h;obtain⟨z,E,h⟩:=ob h;cases h;exact{_,_,_,_,rfl,(cm o u).1,o.T.bl (mw v),(cm o j).1,(cm o j).2,F.e o E,bo B}
def Dg:dh:=λR g e=>(cI R g e).bind λq=>if (match g.T.lookup q.1 with|some .bl=>true|_=>false)=true then(A3 q.1).bind λt=>some (cw t q.2) else none
def AW:SE Dg:=λ{fa n R} E {g X} o {a F} h=>by
 obtain⟨⟨x,z⟩,v,h⟩:=ob h;obtain⟨c,h⟩:=oi h;obtain⟨t,y,h⟩:=ob h;cases h;obtain⟨_,_,_,_,rfl,u,hm,B,hd,d,hs⟩:=Ew E o v;obtain⟨b1,b2,b3,j⟩:=E8 y;exact Kz t b2 d u hm `k B (o.T.bl (mw c)) b1 b3 j hs
def yj:dh:=λR g e=>(cI R g e).bind λq=>match g.T.lookup q.1 with
 |some (.xc k)=>some (dt (some k) q.2)
 |some (.xi k)=>some (dt (some k) q.2)
 |some (.xk k)=>some (dt (some k) q.2)
 |some .de=>some (dt none q.2)
 |some .bl=>if q.1="ValueError" then some (dt none q.2) else none
 |_=>none
set_option tactic.hygienic true in
def yi:SE yj:=λ{fa n R} y {g X} o {a B} h=>by
 obtain⟨⟨x,z⟩,v,k⟩:=ob h;clear h;obtain⟨_,_,_,_,rfl,j,hm,u,hd,d,hs⟩:=Ew y o v;split at k
 ·next e=>cases k;obtain⟨C,h1,h2,_⟩:=o.T.xc e;exact ph _ o.T.xcs ⟨C,h1,h2⟩ d j hm u hd hs
 ·next e=>cases k;exact ph _ o.T.xcs (o.T.xi e).2 d j hm u hd hs
 ·next e=>cases k;exact ph _ o.T.xcs (o.T.xk e) d j hm u hd hs
 ·next e=>cases k;exact FD o.T.xcs (o.T.de e) d j hm u hd hs
 ·next e=>
  obtain⟨c,h⟩:=oi k;cases h;subst c;exact FA o.T.xcs d j hm u (o.T.bl e) hs
 ·cases k
def Dk:dh:=λR g e=>ly e λx h _=>nC h λa h=>if 0<g.lv then(match vr g x with
 |some i=>(cA (R.e g) (a::h)).bind λj=>some (lI i g.c j)
 | none=>if gE g x = true then(match g.T.lookup x with
   |some (.fn i _)=>(cA (R.e g) (a::h)).bind λj=>some (ai i g.c j)
   |_=>none) else none) else none
set_option tactic.hygienic true in
def A0:SE Dk:=λ{fa n R} u {g X} o {a F} h=>by
 replace h:=fq h;obtain⟨x,q,B,p,rfl,h⟩:=h;replace h:=ip h;obtain⟨a,B,rfl,h⟩:=h
 ·obtain⟨lv,h⟩:=oi h;split at h
  ·next e=>
   obtain⟨E,j,h⟩:=ob h;cases h;obtain⟨d,ns⟩:=jl (u.e o) j;rw[Qx,O2] at ns;obtain⟨a,b,v,y⟩:=C9 o e;exact G6 (o.C lv) ((o.hr lv).mono (Rx _)) a b d v y (bo ns.1) (c4 ns.2)
  ·obtain⟨c,h⟩:=oi h;split at h
   ·next e=>
    obtain⟨E,j,h⟩:=ob h;cases h;obtain⟨d,ns⟩:=jl (u.e o) j;rw[Qx,O2] at ns;exact KH (o.C lv _) ((o.hr lv).mono (Rx _)) (cm o c).1 (o.T.fn e) d (cm o c).2 (bo ns.1) (c4 ns.2)
   ·cases h
def C5:dh:=λR g e=>(ly e λx h _=>nC h λa h=>if 2<=g.lv/\gE g x=true then(match g.T.lookup x with
 |some (.fn i true)=>(cA (R.e g) (a::h)).bind λj=>some (bL i g.c j)
 |_=>none) else none).or (Jw e λc a b _=>(R.x g a).bind λx=>(R.x g b).bind λy=>(R.t g c).bind λt=>some (xp t x y))
set_option tactic.hygienic true in
def AI:SX C5:=λ{fa n R} j {g X} o {a H} h=>by
 replace h:=bX h;rcases h with h|h
 ·obtain⟨x,q,v,p,rfl,h⟩:=fq h;obtain⟨a,v,rfl,h⟩:=ip h;replace h:=oi h;obtain⟨⟨lv,c⟩,h⟩:=h;split at h
  ·next e=>
   replace h:=ob h;obtain⟨I,u,h⟩:=h;cases h;obtain⟨d,ns⟩:=jl (j.e o) u;rw[Qx,O2] at ns;exact x_call _ (o.C `a) ((o.hr `a).mono (Rx _)) (o.top lv).1 (cm o c).1 (o.T.fn e) d (cm o c).2 ns.1 ns.2
  ·cases h
 ·obtain⟨c,a,b,p,rfl,h⟩:=vp h;obtain⟨x,E,h⟩:=ob h;obtain⟨y,F,h⟩:=ob h;obtain⟨t,B,h⟩:=ob h;cases h;exact Ld (j.t o B) (j.x o E) (j.x o F)
def xW:dh:=λR g e=>ly e λx h _=>n1 h λa=>if 2<=g.lv/\gE g x=true/\notStar a=true then(match g.T.lookup x with
 |some (.fnD i)=>(R.e g a).bind λy=>some (bL i g.c (aM y (aM (gC .non) ba)))
 |_=>none) else none
set_option tactic.hygienic true in
def xV:SX xW:=λ{fa n R} u {g X} o {a B} h=>by
 replace h:=fq h;obtain⟨x,q,v,p,rfl,h⟩:=h;replace h:=cK h;obtain⟨a,rfl,h⟩:=h;replace h:=oi h;obtain⟨⟨lv,c,st⟩,h⟩:=h;split at h
 ·next e=>
  replace h:=ob h;obtain⟨y,j,h⟩:=h;cases h;exact ER _ (o.C `a) ((o.hr `a).mono (Rx _)) (o.top lv).1 (cm o c).1 (o.T.fnD e).1 (o.T.fnD e).2 (u.e o j) (cm o c).2 st
 ·cases h
def Ip (h:b5 (n+4) A):b5 2 A:=h.mono `a
noncomputable def jP:Expr->Bool
 |.Call _ [] _ _=>false
 |_=>true
def fS (h:jP a=true):attributeBase a m env w=w:=by
 cases a with
 | Call f j ks p=>
   cases j with
   |nil=>cases h
   |cons _ _=>cases f<;>rfl
 |_=>rfl
def HG:dh:=λR g e=>DL e λa m d q=>DJ d (if jP a=true/\q=true then(if m="count" then(R.e g a).bind λx=>some (xr x) else if m="index" then(R.e g a).bind λx=>some (xq x) else none) else none)
set_option tactic.hygienic true in
def E4:SE HG:=λ{fa n R} y {g X} o {a E} h=>by
 replace h:=sZ h;obtain⟨a,m,q,d,p,rfl,h⟩:=h;replace h:=BZ h;obtain⟨_,_,rfl,h⟩:=h;replace h:=oi h;obtain⟨⟨u,v⟩,h⟩:=h;split at h
 ·next B=>subst B;obtain⟨x,j,h⟩:=ob h;cases h;exact Iz (y.e o j) (fS u) v
 ·obtain⟨rfl,k⟩:=oi h;obtain⟨x,j,k⟩:=ob k;cases k;exact Iu (y.e o j) (fS u) v
def Dl:dh:=λR g e=>DN e λa f _=>if jP a=true/\f∈g.xf then(R.e g a).bind λx=>some (tS f x) else none
def A1:SE Dl:=λ{fa n R} y {g X} o {a B} h=>by
 replace h:=s9 h;obtain⟨a,f,p,rfl,h⟩:=h;obtain⟨⟨j,u⟩,h⟩:=oi h;obtain⟨x,v,h⟩:=ob h;cases h;exact FI _ o.T.xcs (o.xf _ u) (y.e o v) (fS j)
def MT:dh:=λR g e=>N3 e λl _=>nC l λa l=>n2 l λb c=>B1 a λz=>Nn b λb=>B1 c λy=>(R.e g b).bind λx=>some (oq z y x)
def HE:SE MT:=λ{fa n R} u {g X} o {a v} h=>by
 replace h:=Ga h;obtain⟨l,p,rfl,h⟩:=h;replace h:=ip h;obtain⟨a,l,rfl,h⟩:=h;replace h:=gV h;obtain⟨b,c,rfl,h⟩:=h;replace h:=vo h;obtain⟨z,_,_,rfl,h⟩:=h;replace h:=Jx h;obtain⟨b,_,rfl,h⟩:=h;replace h:=vo h;obtain⟨y,_,_,rfl,h⟩:=h;obtain⟨x,j,h⟩:=ob h;cases h;exact NV (u.e o j)
def C7:wg:=λR g _ e=>(cR R g "range" e).bind λq=>some (eh q.2)
def AO:SW C7:=λ{B n R} v {g X} o {t a E} h=>by
 obtain⟨⟨b,y⟩,u,h⟩:=ob h;cases h;obtain⟨_,_,rfl,j,hm,_,d,hs⟩:=oN v o u;exact GY d j hm hs
def C8:wg:=λR g t e=>sX t λ_ _ _=>(cR R g "enumerate" e).bind λq=>some (iw q.2)
def AQ:SW C8:=λ{B n R} v {g X} o {t a E} h=>by
 replace h:=gM h;obtain⟨_,_,_,rfl,h⟩:=h;obtain⟨⟨b,y⟩,u,h⟩:=ob h;cases h;obtain⟨_,_,rfl,j,hm,_,d,hs⟩:=oN v o u;exact GZ d j hm hs
def Hu:wg:=λR g _ e=>if g.tx e.pos=false then(R.e g e).bind λx=>some (dv x) else none
def ET:SW Hu:=λ{v n R} u {g X} o {t a y} h=>by
 obtain⟨_,h⟩:=oi h;obtain⟨x,j,h⟩:=ob h;cases h;exact Kt (u.e o j)
def C6:wg:=λR g _ e=>if g.tx e.pos=true then(R.e g e).bind λx=>some (om x) else none
def AN:SW C6:=λ{v n R} u {g X} o {t a y} h=>by
 obtain⟨_,h⟩:=oi h;obtain⟨x,j,h⟩:=ob h;cases h;exact GX (u.e o j)
noncomputable def jO:Expr->Bool
 |.Set ..=>false
 |_=>true
def vL (h:jO a=true)(x:O3):foldedSetIterable a env x=pure x:=by
 cases a<;>first|rfl|cases h
noncomputable def wJ:Expr->List Str
 |.Name x _=>[x]
 |.Tuple h _ _=>(h.map fun|.Name x _=>[x]|.Tuple bs _ _=>bs.filterMap (fun|.Name x _=>some x|_=>none)|_=>[]).flatten
 |_=>[]
noncomputable def uj (g:G)(own:List Str):List Str:=g.N.map λx=>if own.contains x then x++("%":Str) else x
noncomputable def BE (h sc:Scope):Scope:={h with names:=h.names.map λ(n,k)=>if (k==.free&&sc.kind==.function&&sc.names.lookup n==some .cell) then(n,.cell) else(n,k)}
def G.inC (g:G)(own:List Str)(h:Scope):G:={g with N:=own++uj g own,sc:=BE h g.sc,lv:=1,oc:=(h.names.filter λy=>h.names.lookup y.1==some .cell).map (·.1)}
def vg (g:G)(own:List Str)(h:Scope):Prop:=0<g.lv/\h.kind=.function/\pZ (uj g own) g.N g.sc h=true/\(own++uj g own).Nodup
instance (g:G) (own:List Str) (scope:Scope):Decidable (vg g own scope):=by unfold vg;infer_instance
def xy (o:dE fa n g X)(c:vg g own scope):eQ X own (uj g own) scope/\∀cl C j s H,dE fa n (g.inC own scope) (fv X own (uj g own) scope cl C j s H):=by
 obtain⟨h,u,v,B⟩:=c;refine{An u o.sc o.N v,λcl C j s H=>{rfl,B,?_,o.T,o.tw,o.xf,o.ms,(λz=>absurd rfl z),(λx E=>by obtain⟨y,F,e⟩:=Pp.mp E;subst e;exact(QY.mp F).2),λ_=>o.calm h,λ_=>o.C h,λ_=>o.hr h,(λz=>absurd (show 2<=1 from z) `d),(λz=>nomatch z)}}
 show relabel scope X.env=BE scope g.sc;unfold relabel BE Env.kindOf;rw[o.sc]
structure La (fa:Fa) (X:Cx) (e:Expr) (k:Nat) (t:fw) (gw:GW) (gb:GB):Prop where
 ex:∃elt tg iter ifs rest scope pos own bn W body,e=.ListComp elt ({tg,iter,ifs,0}::rest) scope pos/\k=own.length/\eQ X own bn scope/\DI fa X tg iter gw/\Block fa X (LA fa X.K) own bn scope tg t W body gb/\oU X elt tg iter ifs rest scope pos body/\(∀i∈W,i∉slots t)/\(∀i∈slots t++W,i<own.length)/\∀x,foldedSetIterable iter X.env x=pure x
def cC (R:Rc)(g:G)(e:Expr):Option (Nat×fw×GW×GB):=Nm e λE y h _=>(n1 y λc=>nG c λB j v=>let own:=wJ B
 if vg g own h/\jO j=true then(R.w g B j).bind λw=>(cG (g.inC own h) B).bind λt=>(R.e (g.inC own h) E).bind λx=>if (slots t).all (· < own.length)=true then(n0 v (some (own.length,t,w,cg x))).or (n1 v λc=>(R.t (g.inC own h) c).bind λq=>some (own.length,t,w,oo q (cg x))) else none else none).or
 (n2 y λc d=>nG c λB j v=>nG d λt2 H F=>let own:=wJ B++wJ t2
  n0 v (n0 F (if vg g own h/\jO j=true/\jO H=true then(R.w g B j).bind λw=>(cG (g.inC own h) B).bind λt=>(R.w (g.inC own h) t2 H).bind λw2=>(cG (g.inC own h) t2).bind λu=>(R.e (g.inC own h) E).bind λx=>if (slots t++slots u).all (· < own.length)=true/\(slots u).all (λi=>!(slots t).contains i)=true then some (own.length,t,w,tR u w2 (cg x)) else none else none)))
def Ex (B:ie fa n R)(o:dE fa n g X)(h:cC R g e=some (k,t,gw,gb)):La fa X e k t gw gb:=by
 replace h:=zt h;obtain⟨E,gens,F,p,rfl,h⟩:=h;replace h:=bX h;rcases h with h|h
 ·replace h:=cK h;obtain⟨c,rfl,h⟩:=h;replace h:=rK h;obtain⟨tg,y,ifs,rfl,h⟩:=h;replace h:=oi h;obtain⟨⟨c,L⟩,h⟩:=h;replace h:=ob h;obtain⟨w,P,h⟩:=h;replace h:=ob h;obtain⟨t,M,h⟩:=h;replace h:=ob h;obtain⟨x,Q,h⟩:=h;replace h:=oi h;obtain⟨J,h⟩:=h;obtain⟨S,O⟩:=xy o c;replace h:=bX h;rcases h with h|h
  ·obtain⟨rfl,h⟩:=f7 h;cases h;exact{_,_,_,_,_,_,_,_,_,[],(λa env=>eval E env >>= λx=>call (.builtin "list.append") [.ref a,x] >>= λ_=>pure ()),rfl,rfl,S,B.w o P,{λcl C v s H=>jk (O cl C v s H) M,λcl C v s H a=>t6 (B.e (O cl C v s H) Q)},(λI a env=>A6 _ _ _ [] _ _ (.ref I) (.ref a) env),(λi h=>nomatch h),(by simpa using kc J),vL L}
  ·obtain⟨d,rfl,h⟩:=cK h;obtain⟨q,hq,h⟩:=ob h;cases h;exact{_,_,_,_,_,_,_,_,_,[],(λa env=>PySem.isTrue d env (eval d env) >>= λok=>if ok=true then(eval E env >>= λx=>call (.builtin "list.append") [.ref a,x] >>= λ_=>pure ()) else pure ()),rfl,rfl,S,B.w o P,{λcl C v s H=>jk (O cl C v s H) M,λcl C v s H a=>Mm LA.stab (B.t (O cl C v s H) hq) (t6 (B.e (O cl C v s H) Q))},(λI a env=>turn_if _ _ _ _ _ _ (.ref I) (.ref a) env),(λi h=>nomatch h),(by simpa using kc J),vL L}
 ·replace h:=gV h;obtain⟨c,d,rfl,h⟩:=h;replace h:=rK h;obtain⟨tg,y,ifs,rfl,h⟩:=h;replace h:=rK h;obtain⟨t2,U,ifs2,rfl,h⟩:=h;replace h:=f7 h;obtain⟨rfl,h⟩:=h;replace h:=f7 h;obtain⟨rfl,h⟩:=h;obtain⟨⟨c,L,W⟩,h⟩:=oi h;obtain⟨w,P,h⟩:=ob h;obtain⟨t,M,h⟩:=ob h;obtain⟨w2,Y,h⟩:=ob h;obtain⟨u,hu,h⟩:=ob h;obtain⟨x,Q,h⟩:=ob h;obtain⟨⟨J,c3⟩,h⟩:=oi h;cases h;obtain⟨S,O⟩:=xy o c;exact{_,_,_,_,_,_,_,_,_,slots u,(λa env=>eval U env >>= λx=>standAt U.pos >>= λ_=>foldedSetIterable U env x >>= λx=>holding [x] (pyIter x) >>= λj=>runOwn (.compStart (.ListComp E [{tg,y,[],0},{t2,U,[],0}] F p) 1 j (.ref a) env) env >>= λ_=>pure ()),rfl,rfl,S,B.w o P,{λcl C v s H=>jk (O cl C v s H) M,λcl C v s H a=>Kx rfl (o.calm c.1) (B.w (O cl C v s H) Y) (jk (O cl C v s H) hu) (B.e (O cl C v s H) Q) (vL W)},(λI a env=>A4 _ _ _ _ _ _ _ (.ref I) (.ref a) env),yN c3,kc J,vL L}
def Dj:dh:=λR g e=>if 0<g.lv then(cC R g e).bind λq=>some (cn (g.cl e.pos) q.1 q.2.1 q.2.2.1 q.2.2.2) else none
def AZ:SE Dj:=λ{L n R} I {g X} o {a M} h=>by
 obtain⟨lv,h⟩:=oi h;obtain⟨⟨k,t,w,b⟩,E,h⟩:=ob h;cases h;obtain⟨v,O,u,F,rest,j,H,own,J,W,body,rfl,rfl,S,y,B,T,h1,h2,h3⟩:=(Ex I o E).ex;exact KG _ S (o.calm lv) y B T h1 h2 h3
noncomputable def oM (f:Stmt->Option GS):List Stmt->Option GS
 |[]=>some aJ
 |a::r=>(f a).bind λx=>(oM f r).bind λy=>some (bg x y)
noncomputable def hU (hf:∀{a:Stmt}{j:GS},f a=some j->DS fa X a j):∀{ss:List Stmt}{u:GS},oM f ss=some u->j7 fa X ss u
 |[],_,h=>by cases h;exact GL
 | a::r,_,h=>by
   obtain⟨x,v,h⟩:=ob h;obtain⟨y,B,h⟩:=ob h;cases h;exact CA (hf v) (hU hf B)
noncomputable def vj:Expr->Bool
 |.ListComp ..=>false
 |.SetComp ..=>false
 |.DictComp ..=>false
 |_=>true
def vk (h:vj a=true):swapsWith a t l env=pure false:=by
 cases a<;>first|rfl|cases h
def KR (g:G)(h a:Expr):Bool:=match a with
 |.ListComp ..=>(match h with|.Name y _=>g.sc.names.lookup y==some .cell|_=>false)
 |.Tuple ..=>(match h with|.Name ..=>true|_=>false)
 |.SetComp ..=>false
 |.DictComp ..=>(match h with|.Name y _=>g.sc.names.lookup y==some .cell|_=>false)
 |_=>true
set_option tactic.hygienic true in
def KQ (o:dE fa n g X)(c:KR g tg a=true)(j:cG g tg=some t):swapsWithSole [tg] a l X.env=pure false/\swappedStores [tg] a X.env=pure none/\(assignEach [tg] X.env).map (·.2)=[assign tg X.env]:=by
 refine{?_,?_,?_}
 ·cases a<;>first|rfl|cases c|skip
  all_goals cases tg<;>first|cases c|skip
  all_goals
  next y p=>
  have e:=eq_of_beq c;have hk:(X.env.kindOf y==some .local)=false:=by unfold Env.kindOf;rw[o.sc,e];rfl
  show(pure (X.env.blockKind==.function&&X.env.kindOf y==some .local&&_&&_):Sem Bool)=pure false;rw[hk,Bool.and_false,Bool.false_and,Bool.false_and]
 ·replace j:=bX j;rcases j with h|h
  ·obtain⟨_,_,rfl,_⟩:=cp h;cases a<;>first|rfl|cases c
  ·obtain⟨_,_,_,rfl,_⟩:=gM h;cases a<;>first|rfl|cases c
 ·replace j:=bX j;rcases j with h|h
  ·obtain⟨_,_,rfl,_⟩:=cp h;rfl
  ·obtain⟨_,_,_,rfl,_⟩:=gM h;rfl
def Hm:jt:=λR g st=>wC st λts a _=>n1 ts λh=>if KR g h a=true then(cG g h).bind λt=>((R.x g a).bind λx=>some (fz t x)).or ((R.e g a).bind λx=>some (ax t x)) else none
def EN:SS Hm:=λ{y n R} u {g X} o {a B} h=>by
 replace h:=lV h;obtain⟨ts,a,p,rfl,h⟩:=h;replace h:=cK h;obtain⟨E,rfl,h⟩:=h;obtain⟨c,h⟩:=oi h;obtain⟨t,j,h⟩:=ob h;obtain⟨a1,a2,a3⟩:=KQ o c j;replace h:=bX h;rcases h with h|h
 ·obtain⟨x,e,h⟩:=ob h;cases h;exact Ie (u.x o e) (jk o j) a1 a2 a3
 ·obtain⟨x,v,h⟩:=ob h;cases h;exact Km (u.e o v) (jk o j) a1 a2 a3
def C3:jt:=λR g st=>wC st λts d _=>n1 ts λt=>nName t λy v=>Nm d λu j h p=>if 2<=g.lv/\g.sc.names.lookup y=some .local/\(v.line==p.line)=true/\(h.names.any λ(n,k)=>n==y&&(k==.local||k==.cell))=false then(cC R g (.ListComp u j h p)).bind λq=>(g.N.findIdx? (·==y)).bind λi=>some (ax (.one i) (cn (g.cl p) q.1 q.2.1 q.2.2.1 q.2.2.2)) else none
def AG:SS C3:=λ{fa n R} rc {g X} o {a ga} h=>by
 replace h:=lV h;obtain⟨ts,d,_,rfl,h⟩:=h;replace h:=cK h;obtain⟨t,rfl,h⟩:=h;replace h:=cp h;obtain⟨y,py,rfl,h⟩:=h;replace h:=zt h;obtain⟨_,_,v,p,rfl,h⟩:=h
 ·next=>
  obtain⟨⟨lv,H,I,J⟩,h⟩:=oi h;obtain⟨⟨k,t,w,b⟩,Q,h⟩:=ob h;obtain⟨i,P,h⟩:=ob h;cases h;obtain⟨M,tg,F,U,rest,E,Y,own,bn,W,body,L,rfl,S,j,B,T,h1,h2,h3⟩:=(Ex rc o Q).ex;cases L;have hl:X.env.scope.names.lookup y=some .local:=by rw[o.sc];exact H
  refine xx _ S (o.calm `a) j B T h1 h2 h3 (o.N ▸ o.nd) (rN o P) hl ?_
  have hk:=(o.top lv).2.2.2;have O:(X.env.blockKind==.function)=true:=by unfold Env.blockKind;rw[hk];rfl
  have u:(X.env.kindOf y==some .local)=true:=by unfold Env.kindOf;rw[hl];rfl
  show(pure (X.env.blockKind==.function&&X.env.kindOf y==some .local&&(py.line==p.line)&&!(v.names.any λ(n,k)=>n==y&&(k==.local||k==.cell))):Sem Bool)=pure true;rw[O,u,I,J];rfl
def Hl:jt:=λR g st=>wC st λts d _=>n1 ts λt=>mX t λa b _=>if jN b=true then(R.e g a).bind λx=>(R.e g b).bind λy=>(R.e g d).bind λz=>some (fK x y z) else none
def EM:SS Hl:=λ{F n R} j {g X} o {a H} h=>by
 replace h:=lV h;obtain⟨ts,d,_,rfl,h⟩:=h;replace h:=cK h;obtain⟨t,rfl,h⟩:=h;replace h:=gO h;obtain⟨a,b,p2,rfl,h⟩:=h
 ·next=>
  obtain⟨c,h⟩:=oi h;obtain⟨x,u,h⟩:=ob h;obtain⟨y,B,h⟩:=ob h;obtain⟨z,E,h⟩:=ob h;cases h;refine Kj (j.e o u) (j.e o B) (j.e o E) (λv=>?_) ?_ ?_ rfl
  ·cases b<;>first|rfl|cases c
  ·cases d<;>rfl
  ·cases d<;>rfl
def Hn:jt:=λR g st=>BB st λe _=>DL e λa m d q=>if m="append"/\jP a=true/\q=true/\notStar d=true then(R.e g a).bind λx=>(R.e g d).bind λy=>some (km x y) else none
def EO:SS Hn:=λ{H n R} j {g X} o {a I} h=>by
 replace h:=pe h;obtain⟨e,_,rfl,h⟩:=h;replace h:=sZ h;obtain⟨a,m,q,d,p,rfl,h⟩:=h;replace h:=oi h;obtain⟨⟨rfl,u,v,B⟩,h⟩:=h;obtain⟨x,E,h⟩:=ob h;obtain⟨y,F,h⟩:=ob h;cases h;exact Kn (j.e o E) (j.e o F) (fS u) v (bo B) rfl
def Hk:jt:=λR g st=>(BB st λa _=>if vj a=true then((R.x g a).bind λx=>some (eF x)).or ((R.e g a).bind λx=>some (sEx x)) else none).or
 ((sRt st λq _=>match q with
   |none=>some Dv
   |some a=>((R.x g a).bind λx=>some (wB x)).or ((R.e g a).bind λx=>some (aR x))).or
 ((sPs st λ_=>some Dw).or
 ((sIf st λc st u _=>(R.t g c).bind λt=>(oM (R.s g) st).bind λx=>(oM (R.s g) u).bind λy=>some (aV t x y)).or
 (sFr st λh a body j _=>n0 j (if g.lv=2/\jO a=true then(R.w g h a).bind λw=>(cG g h).bind λt=>(oM (R.s g) body).bind λx=>some (d8 t w x) else none)))))
def EL:SS Hk:=λ{H n R} j {g X} o {a I} h=>by
 replace h:=bX h;rcases h with h|h
 ·obtain⟨a,p,rfl,h⟩:=pe h;obtain⟨c,h⟩:=oi h;rcases bX h with h|h
  ·obtain⟨x,e,h⟩:=ob h;cases h;exact Lu (j.x o e) (vk c)
  ·obtain⟨x,u,h⟩:=ob h;cases h;exact Mh (j.e o u) (vk c)
 replace h:=bX h;rcases h with h|h
 ·obtain⟨q,p,rfl,h⟩:=Ij h;cases q with
  |none=>cases h;exact GN
  | some a=>
    rcases bX h with h|h
    ·obtain⟨x,e,h⟩:=ob h;cases h;exact Ia (j.x o e)
    ·obtain⟨x,u,h⟩:=ob h;cases h;exact Ki (j.e o u)
 replace h:=bX h;rcases h with h|h
 ·obtain⟨p,rfl,h⟩:=Il h;cases h;exact GO
 replace h:=bX h;rcases h with h|h
 ·obtain⟨c,st,J,p,rfl,h⟩:=Im h;obtain⟨t,v,h⟩:=ob h;obtain⟨x,u,h⟩:=ob h;obtain⟨y,E,h⟩:=ob h;cases h;exact Kk (j.t o v) (hU (j.s o) u) (hU (j.s o) E)
 ·obtain⟨L,a,body,F,p,rfl,h⟩:=Io h;obtain⟨rfl,h⟩:=f7 h;obtain⟨⟨lv,c⟩,h⟩:=oi h;obtain⟨w,B,h⟩:=ob h;obtain⟨t,v,h⟩:=ob h;obtain⟨x,u,h⟩:=ob h;cases h;exact Kl (o.po lv) (o.calm `a) (j.w o B) (jk o v) (Mj (hU (j.s o) u)) (vL c)
def xU:jt:=λR g st=>Ik st λe c _=>if c.isNone=true then e.bind λe=>ly e λx h _=>nC h λa h=>if 2<=g.lv/\gE g x=true then(match g.T.lookup x with
 |some (.xc k)=>(cA (R.e g) (a::h)).bind λj=>some (eE k j)
 |_=>none) else none else none
set_option tactic.hygienic true in
def xT:SS xU:=λ{y n R} v {g X} o {a B} h=>by
 replace h:=u5 h;obtain⟨e,c,_,rfl,h⟩:=h;replace h:=oi h;obtain⟨c,h⟩:=h;rw[Qu.mp c];replace h:=ob h;obtain⟨e,rfl,h⟩:=h;replace h:=fq h;obtain⟨x,q,u,p,rfl,h⟩:=h;replace h:=ip h;obtain⟨a,u,rfl,h⟩:=h
 ·obtain⟨⟨lv,c⟩,k⟩:=oi h;clear h;split at k
  ·next e=>
   obtain⟨E,j,k⟩:=ob k;cases k;obtain⟨d,ns⟩:=jl (v.e o) j;rw[Qx,O2] at ns;obtain⟨C,h1,h2,h3,_⟩:=o.T.xc e;exact Fv _ ⟨C,h1,h2,h3⟩ (o.top lv).1 (cm o c).1 (o.calm `a) d (cm o c).2 ns.1 ns.2
  ·cases k
def uP:jt:=λR g st=>Ik st λe c _=>if c.isNone=true then e.bind λe=>ly e λx h _=>nC h λa h=>if 2<=g.lv/\gE g x=true then(match g.T.lookup x with
 |some (.xi k)=>if notStar a=true/\h.isEmpty=true then(R.e g a).bind λy=>some (gK k y) else none
 |_=>none) else none else none
set_option tactic.hygienic true in
def wm:SS uP:=λ{F n R} E {g X} o {a H} h=>by
 replace h:=u5 h;obtain⟨e,c,_,rfl,h⟩:=h;replace h:=oi h;obtain⟨c,h⟩:=h;rw[Qu.mp c];replace h:=ob h;obtain⟨e,rfl,h⟩:=h;replace h:=fq h;obtain⟨x,q,v,p,rfl,h⟩:=h;replace h:=ip h;obtain⟨a,v,rfl,h⟩:=h
 ·obtain⟨⟨lv,c⟩,k⟩:=oi h;clear h;split at k
  ·next e=>
   obtain⟨⟨j,u⟩,k⟩:=oi k;obtain⟨y,B,k⟩:=ob k;cases k;rw[List.isEmpty_iff.mp u];exact BA _ (o.T.xi e).1 (Ip (o.hr `a)) (o.top lv).1 (cm o c).1 (o.calm `a) (E.e o B) (cm o c).2 j
  ·cases k
def Ck (o:dE fa n g X)(lv:2<=g.lv)(pn:List (Addr×Obj))(E:O3->O8->Prop):dE fa n {g with lv:=3} (rO X pn E):={o.N,o.nd,o.sc,o.T,o.tw,o.xf,o.ms,λ_=>o.fn `a,o.oc,λ_=>o.calm `a,λ_=>o.C `a,λ_=>o.hr `a,λ_=>o.top lv,(λz=>nomatch z)}
def Cm (o:dE fa n g X)(lv:2<=g.lv)(v:O3)(E:O3->O8->Prop):dE fa n {g with lv:=0} (rP X v E):={o.N,o.nd,o.sc,o.T,o.tw,o.xf,o.ms,λ_=>o.fn `a,o.oc,(λz=>absurd (show 0<0 from z) `d),(λz=>absurd (show 0<0 from z) `d),(λz=>absurd (show 0<0 from z) `d),(λz=>absurd (show 2<=0 from z) `d),(λz=>nomatch z)}
def Hj:jt:=λR g st=>sTr st λbody hs j y _=>n0 j (n0 y (n1 hs fun
 | .ExceptHandler t nm B _=>t.bind λt=>nName t λx _=>nm.bind λnm=>nC B λb h=>if 2 <= g.lv /\ gE g x = true /\ g.sc.names.lookup nm = some .local then(match g.T.lookup x with
   |some .de=>(g.N.findIdx? (·==nm)).bind λi=>(oM (R.s {g with lv:=3}) body).bind λu=>(oM (R.s {g with lv:=0}) (b::h)).bind λv=>some (sv u i v)
   |_=>none) else none))
set_option tactic.hygienic true in
def EK:SS Hj:=λ{M n R} B {g X} o {a P} h=>by
 replace h:=Ii h;obtain⟨body,hs,L,O,_,rfl,h⟩:=h;replace h:=f7 h;obtain⟨rfl,h⟩:=h;replace h:=f7 h;obtain⟨rfl,h⟩:=h;replace h:=cK h;obtain⟨hd,rfl,h⟩:=h;obtain⟨t,nm,Q,_⟩:=hd;replace h:=ob h;obtain⟨t,rfl,h⟩:=h;replace h:=cp h;obtain⟨x,_,rfl,h⟩:=h;replace h:=ob h;obtain⟨nm,rfl,h⟩:=h;replace h:=ip h;obtain⟨b,j,rfl,h⟩:=h
 ·obtain⟨⟨lv,c,F⟩,k⟩:=oi h;clear h;split at k
  ·next e=>
   obtain⟨i,H,k⟩:=ob k;obtain⟨u,I,k⟩:=ob k;obtain⟨v,J,k⟩:=ob k;cases k;have y:=o.top lv;exact Lr o.T.xcs (o.T.de e) y.1 y.2.1 y.2.2.1 (o.N ▸ o.nd) (rN o H) (by rw[o.sc];exact F) (cm o c).1 (cm o c).2 (λpn E=>hU (B.s (Ck o lv pn E)) I) (λv E=>hU (B.s (Cm o lv v E)) J)
  ·cases k
section
variable{β:Type}{e:Expr}{st:Stmt}{r:β}
noncomputable def Jy (e:Expr)(k:List (Option Expr)->List Expr->Pos->Option β):Option β:=if h:e.ctorIdx=6 then @Expr.Dict.elim (λ_=>Option β) e h k else none
def Ge (h:Jy e k=some r):∃a b c,e=.Dict a b c/\k a b c=some r:=(od h).elim λz h=>@Expr.Dict.elim (λe=>∀z,@Expr.Dict.elim (λ_=>Option β) e z k=some r->∃a b c,e=.Dict a b c/\k a b c=some r) e z (λa b c _ h=>⟨a,b,c,rfl,h⟩) z h
noncomputable def Nc (e:Stmt)(k:Expr->List Stmt->List Stmt->Pos->Option β):Option β:=if h:e.ctorIdx=11 then @Stmt.While.elim (λ_=>Option β) e h k else none
def Ih (h:Nc st k=some r):∃a b c d,st=.While a b c d/\k a b c d=some r:=(od h).elim λz h=>@Stmt.While.elim (λe=>∀z,@Stmt.While.elim (λ_=>Option β) e z k=some r->∃a b c d,e=.While a b c d/\k a b c d=some r) st z (λa b c d _ h=>⟨a,b,c,d,rfl,h⟩) z h
noncomputable def Np (e:Expr)(k:Expr->Expr->List Rb->Scope->Pos->Option β):Option β:=if h:e.ctorIdx=10 then @Expr.DictComp.elim (λ_=>Option β) e h k else none
def Jz (h:Np e k=some r):∃a b c d p,e=.DictComp a b c d p/\k a b c d p=some r:=(od h).elim λz h=>@Expr.DictComp.elim (λe=>∀z,@Expr.DictComp.elim (λ_=>Option β) e z k=some r->∃a b c d p,e=.DictComp a b c d p/\k a b c d p=some r) e z (λa b c d p _ h=>⟨a,b,c,d,p,rfl,h⟩) z h
end
def qR (o:dE fa n g X):ig fa:=⟨o.T.of,o.T.od.1,o.T.od.2⟩
def Di:dh:=λR g e=>mX e λa b p=>if g.tx p=true/\jN b=true/\0<g.lv then(R.e g a).bind λx=>(R.e g b).bind λy=>some (je x y) else none
def AY:SE Di:=λ{B n R} j {g X} o {a E} h=>by
 replace h:=gO h;obtain⟨a,b,p,rfl,h⟩:=h;replace h:=oi h;obtain⟨⟨_,c,lv⟩,h⟩:=h;obtain⟨x,u,h⟩:=ob h;obtain⟨y,v,h⟩:=ob h;cases h;exact KC (o.rm lv) (qR o) (j.e o u) (j.e o v) (mT c)
noncomputable def isIn (q:CmpOp):Option Bool:=match q with
 |.In=>some false
 |.NotIn=>some true
 |_=>none
def Gp (h:isIn q=some n):q=if n then .NotIn else .In:=by
 cases q<;>first|(cases h;rfl)|cases h
def KN (R:Rc)(g:G)(e:Expr):Option GE:=JA e λa h bs p=>n1 h λq=>n1 bs λb=>if g.tx p=true/\behindInMarks q b=false/\0<g.lv then(isIn q).bind λn=>(R.e g a).bind λx=>(R.e g b).bind λy=>some (lH n x y) else none
def Ha (j:ie fa n R)(o:dE fa n g X)(h:KN R g e=some ge):DE fa X e ge/\DT fa X e (aj ge):=by
 replace h:=pE h;obtain⟨a,B,bs,p,rfl,h⟩:=h;replace h:=cK h;obtain⟨q,rfl,h⟩:=h;replace h:=cK h;obtain⟨b,rfl,h⟩:=h;replace h:=oi h;obtain⟨⟨_,c,lv⟩,h⟩:=h;obtain⟨m,hm,h⟩:=ob h;obtain⟨x,u,h⟩:=ob h;obtain⟨y,v,h⟩:=ob h;cases h;have e:=Gp hm;subst e;exact{MA m (o.rm lv) (qR o) (j.e o u) (j.e o v) c,Kf m (o.rm lv) (qR o) (j.e o u) (j.e o v) c}
def Hv:EF:=λR g e=>(KN R g e).bind λx=>some (aj x)
def EV:ST Hv:=λ{v n R} u {g X} o {a y} h=>by
 obtain⟨x,j,h⟩:=ob h;cases h;exact(Ha u o j).2
def C1:jt:=λR g st=>wC st λts d _=>n1 ts λt=>mX t λa b p=>if g.tx p=true/\jN b=true/\0<g.lv then(R.e g a).bind λx=>(R.e g b).bind λy=>(R.e g d).bind λz=>some (kj x y z) else none
def AF:SS C1:=λ{F n R} j {g X} o {a H} h=>by
 replace h:=lV h;obtain⟨ts,d,_,rfl,h⟩:=h;replace h:=cK h;obtain⟨t,rfl,h⟩:=h;replace h:=gO h;obtain⟨a,b,p2,rfl,h⟩:=h;replace h:=oi h;obtain⟨⟨_,c,lv⟩,h⟩:=h;obtain⟨x,u,h⟩:=ob h;obtain⟨y,B,h⟩:=ob h;obtain⟨z,E,h⟩:=ob h;cases h;refine Ic (o.rm lv) (qR o) (j.e o u) (j.e o B) (j.e o E) (λv=>?_) ?_ ?_
 ·cases b<;>first|rfl|cases c
 ·cases d<;>rfl
 ·cases d<;>rfl
def Dh:dh:=λR g e=>if g.tx e.pos=true then(cR R g "len" e).bind λq=>if notStar q.1=true then some (mi q.2) else none else none
def AX:SE Dh:=λ{B n R} v {g X} o {a E} h=>by
 obtain⟨_,h⟩:=oi h;obtain⟨⟨b,y⟩,u,h⟩:=ob h;obtain⟨c,h⟩:=oi h;cases h;obtain⟨_,_,rfl,j,hm,_,d,hs⟩:=oN v o u;exact KA (qR o) j hm d c
def yo:dh:=λR g e=>Np e λE F u h p=>n1 u λc=>nG c λB j v=>let own:=wJ B
 n0 v (if vg g own h/\jO j=true then(R.w g B j).bind λw=>(cG (g.inC own h) B).bind λt=>(R.e (g.inC own h) E).bind λx=>(R.e (g.inC own h) F).bind λy=>if (slots t).all (· < own.length)=true then some (jX (if g.tx p=true then 78 else 77) own.length t w (jf x y)) else none else none)
def yn:SE yo:=λ{U n R} u {g X} o {a W} h=>by
 replace h:=Jz h;obtain⟨Y,vx,B,v,p,rfl,h⟩:=h;replace h:=cK h;obtain⟨c,rfl,h⟩:=h;replace h:=rK h;obtain⟨tg,E,Q,rfl,h⟩:=h;replace h:=f7 h;obtain⟨rfl,h⟩:=h;replace h:=oi h;obtain⟨⟨c,I⟩,h⟩:=h;obtain⟨w,L,h⟩:=ob h;obtain⟨t,J,h⟩:=ob h;obtain⟨x,M,h⟩:=ob h;obtain⟨y,P,h⟩:=ob h;obtain⟨F,h⟩:=oi h;cases h;obtain⟨S,O⟩:=xy o c;exact G5 (by split<;>simp) (qR o) S (o.calm c.1) (u.w o L) {λcl C j s H=>jk (O cl C j s H) J,λcl C j s H a=>G2 ((O cl C j s H).rm Nat.zero_lt_one) (qR o) (u.e (O cl C j s H) M) (u.e (O cl C j s H) P)} (by simpa using kc F) (vL I)
def xS:jt:=λR g st=>Nc st λc body h _=>n0 h (if g.lv=2 then(R.t g c).bind λt=>(oM (R.s g) body).bind λb=>some (lg t b) else none)
def xR:SS xS:=λ{B n R} j {g X} o {a E} h=>by
 replace h:=Ih h;obtain⟨c,body,y,p,rfl,h⟩:=h;replace h:=f7 h;obtain⟨rfl,h⟩:=h;replace h:=oi h;obtain⟨lv,h⟩:=h;obtain⟨t,v,h⟩:=ob h;obtain⟨b,u,h⟩:=ob h;cases h;exact Fu (o.po lv) (j.t o v) (hU (j.s o) u)
def HI:dh:=λR g e=>(cR R g "any" e).bind λq=>if notStar q.1=true then some (pP q.2) else none
def E6:SE HI:=λ{B n R} v {g X} o {a E} h=>by
 obtain⟨⟨b,y⟩,u,h⟩:=ob h;obtain⟨c,h⟩:=oi h;cases h;obtain⟨_,_,rfl,j,hm,lv,d,hs⟩:=oN v o u;exact ME (o.calm lv) j hm d c
def MU:dh:=λR g e=>Jy e λks h p=>n1 ks λk=>k.bind λk=>n1 h λv=>if 0<g.lv then(R.e g k).bind λx=>(R.e g v).bind λy=>some (vK (if g.tx p=true then 78 else 77) x y) else none
def HF:SE MU:=λ{E n R} j {g X} o {a F} h=>by
 replace h:=Ge h;obtain⟨ks,H,p,rfl,h⟩:=h;replace h:=cK h;obtain⟨k,rfl,h⟩:=h;obtain⟨k,rfl,h⟩:=Px.mp h;replace h:=cK h;obtain⟨v,rfl,h⟩:=h;replace h:=oi h;obtain⟨lv,h⟩:=h;obtain⟨x,u,h⟩:=ob h;obtain⟨y,B,h⟩:=ob h;cases h;exact G4 _ (by split<;>simp) (o.rm lv) (qR o) (j.e o u) (j.e o B)
def C4:jt:=λR g st=>BB st λe _=>DL e λa m d q=>if m="append"/\jP a=true/\q=true/\notStar d=true then(R.e g a).bind λx=>(R.x g d).bind λy=>some (lW x y) else none
def AH:SS C4:=λ{H n R} j {g X} o {a I} h=>by
 replace h:=pe h;obtain⟨e,_,rfl,h⟩:=h;replace h:=sZ h;obtain⟨a,m,q,d,p,rfl,h⟩:=h;replace h:=oi h;obtain⟨⟨rfl,u,v,B⟩,h⟩:=h;obtain⟨x,E,h⟩:=ob h;obtain⟨y,F,h⟩:=ob h;cases h;exact GP (j.e o E) (j.x o F) (fS u) v (bo B) rfl
end LD
namespace LD
open PySem PySem.Spec PyProof.Rows L2 PySem.W
set_option tactic.hygienic true in
def wa {K:Frag}{x C D:Addr}{W:Obj}{od:Option Obj}(J:hX K C=true)(e:kin_not K C D=true):Answers (λs=>K.In s.heap/\InstAt s.heap x W C od) (.ref x) (.ref D) false:=by
 rintro P tk prog w A R s ⟨⟨X,I⟩,h⟩;unfold kin_not at e;rw[O2,O2,O2] at e;obtain⟨⟨⟨Q,e1⟩,e2⟩,S⟩:=e;have j:∀{D},(clsIn K D).isSome=true->Looks (model prog w) s.heap (isType (.ref D)) true:=λ{D} e1=>by
  unfold clsIn at e1;split at e1
  ·rename_i c' d' O Y ho;intro A' Q' E' s' k q;exact tqa (wpAny_loadPart (k _ _ (X _ _ ho)) (tqb q))
  ·cases e1
 have E:(clsIn K C).isSome=true:=by
  have v:=J;unfold hX at v;simp only[O2,beq_iff_eq] at v;obtain⟨cd,E,_⟩:=Px.mp v.1.1.1.2;rw[E];rfl
 have B:=j E;have j:=j e1;have F:=looks_typeIn (M:=model prog w) X (Ru.mp e2);have u:=looks_subIn (M:=model prog w) X (Ru.mp S);obtain⟨U,g,d,tt,os⟩:=s;have H:=I.type (M:=model prog w);have L:Looks (model prog w) U (isInstance (.ref x) (.ref D)) false:=H.andThen u;refine tqa (H.at ?_);rw[if_neg (λq=>of_decide_eq_true Q (Value.ref.inj (Ru.mp q)))];refine tqa (F.at ?_);rw[if_pos `d]
 k_delta "plainIsInstance"
 refine tqa (tqa (j.at ?_));refine tqa (L.at ?_);refine tqa (qO X I J ?_);refine tqa (B.at ?_);refine tqa (wpAny_rule ?_);refine u.at ?_;exact tqb (h _)
def Cq {K:Frag}{x C u v H:Addr}{L:Obj}{od:Option Obj}(X:K.In s.heap)(I:InstAt s.heap x L C od)(J:hX K C=true)(e1:kin_not K C u=true)(e2:kin_not K C v=true)(j:s.heap.get? H=some o)(ho:o.cls=.type "tuple")(hd:o.data=.seq #[.ref u,.ref v] n)(B:C≠H)
 (h:∀tk,Q (.bool false) {s with toks:=tk}):wpAny (model prog w) A (call (.builtin "isinstance") [.ref x,.ref H]) Q E s:=by
 refine call_isinstance_of ?_ (by intro q;cases q)
 obtain⟨S,g,d,U,os⟩:=s;have R:=I.type (M:=model prog w);refine tqa (R.at ?_);rw[if_neg (λq=>B (Value.ref.inj (Ru.mp q)))];refine tqa (wpAny_typeOf (T:="tuple") {_,j,ho} ?_);rw[if_neg `d]
 refine tqa (tqa (wpAny_typeOf (T:="tuple") {_,j,ho} ?_));rw[if_neg `d]
 refine tqb ?_;refine tqa (wpAny_isInstance (T:="tuple") {_,j,ho} F.isi_sub_tuple ?_);rw[if_pos rfl];refine wpAny_ite_false `d ?_
 refine tqa (tqa (wpAny_load' j ?_));rw[hd];refine tqb (tqa (wpAny_arrayLoop ?_));exact isinstance_items (P:=λO=>K.In O.heap/\InstAt O.heap x L C od) (λ_ _ h=>h) [.ref u,.ref v] [false,false] _ _ {wa J e1,wa J e2,trivial} ⟨X,I⟩ λtk=>tqb (h tk)
section
variable{fa:Fa}{X:Cx}{a:Expr}{ga:GE}{pos p1 p2 p3 pt:Pos}{x y:Str}
def II (fa:Fa)(K:Frag)(k l:Nat)(xs:List V)(H:Hp)(Q:VK):Prop:=∃B c p v u h j,xs=[v,.ref u]/\Rep fa K B H (.exc c p) v/\c8 K H u [.ref h,.ref j]/\fa (c7 k)=some h/\fa (c7 l)=some j/\k≠c/\l≠c/\Q (.bl false) H
set_option tactic.hygienic true in
def Gy (j:j4 fa X.K):cb X (.builtin "isinstance") (II fa X.K k l):=by
 intro J s σ H xs us Q I r h;obtain⟨μ,c,p,v,tp,E,F,rfl,R,P,h1,h2,n1,n2,q⟩:=h;obtain⟨u,w,rfl,r1,r2⟩:=vals2 r;obtain rfl:w=Value.ref tp:=r2;obtain⟨a,C,ox,od,rfl,hf,L⟩:=md I R;obtain rfl:u=Value.ref a:=r1;obtain⟨S,Y,⟨o,e,ho,n,hd⟩,_⟩:=I.tuple P;obtain⟨z1,z2,rfl,U,W⟩:=vals2 Y;obtain rfl:z1=Value.ref E:=U;obtain rfl:z2=Value.ref F:=W;have O:=(j.g c C hf).1;have B:=(j.z c C hf).1;refine Cq I.kIn L O (j.n c C k E hf h1 n1) (j.n c C l F hf h2 n2) e ho hd (λee=>?_) λtk=>{.bl false,H,I.tok _,rfl,q};subst ee;unfold clsIn at B;split at B
 ·rename_i c' d' M sl' hl;have:=I.kIn _ _ hl;rw[e] at this;cases this;cases hd
 ·cases B
def tQ (k l:Nat)(a:GE):GE:=λh M=>(a h M).bind λx M=>match x with
 |.exc c _=>if k≠c/\l≠c then .ok (.bl false) M else .bad
 |_=>.bad
set_option tactic.hygienic true in
def FC (k l:Nat)(Y:j4 fa X.K)(hx:∃D,X.mg x=some (.ref D)/\fa (c7 k)=some D)(hy:∃D,X.mg y=some (.ref D)/\fa (c7 l)=some D)(W:DE fa X a ga)(hg:Gl X "isinstance")(hm:X.mg "isinstance"=none)(E:Gl X x)(F:Gl X y)(u:(x==("__debug__":Str))=false)(B:(y==("__debug__":Str))=false)
 (he:starEach [a,.Tuple [.Name x p1,.Name y p3] kt pt] X.env=(false,eval a X.env)::starEach [.Tuple [.Name x p1,.Name y p3] kt pt] X.env):DE fa X (.Call (.Name "isinstance" p2) [a,.Tuple [.Name x p1,.Name y p3] kt pt] [] pos) (tQ k l ga):=by
 obtain⟨L,h1,h2⟩:=hx;obtain⟨O,h3,h4⟩:=hy;refine bx (eG (Gy (k:=k) (l:=l) Y) hg hm `k (bE W (bE (za (bE (eU E h1 (v:=.ref L) rfl u) (bE (eU F h3 (v:=.ref O) rfl B) cx `r) `r)) cx `r) he) `d `d he `r) λσ H Q h=>?_
 obtain⟨μ,Z,M,R,U,h⟩:=h;refine t1 R U h λx M1 v H1 J x1 S j r1 h1=>?_;cases x with
 | exc c p=>
   dsimp only at h1;split at h1
   ·next P=>exact{by rw[sizeLine_eq];exact Pb rfl,λtp I=>{J,c,p,v,tp,L,O,rfl,r1.ext (Ext.alloc j I),.inl (.of bJ),h2,h4,P.1,P.2,aN (j.alloc I) (a7.ext h1 (x1.trans (Ext.alloc j I))) rfl}}
   ·exact h1.elim
 |_=>exact h1.elim
end
end LD
namespace LD
open PySem PySem.Spec PyProof.Rows L2
def ym:dh:=λR g e=>ly e λf j _=>n2 j λa b=>sX b λh _ _=>n2 h λc d=>nName c λx _=>nName d λy _=>if f="isinstance"/\gE g f=true/\(match g.T.lookup f with|some .bl=>true|_=>false)=true/\gE g x=true/\gE g y=true/\notStar a=true then(match g.T.lookup x,g.T.lookup y with
 |some (.xk k),some (.xk l)=>(R.e g a).bind λz=>some (tQ k l z)
 |_,_=>none) else none
set_option tactic.hygienic true in
def yk:SE ym:=λ{P n R} L {g X} o {a Q} h=>by
 replace h:=fq h;obtain⟨f,q,O,p,rfl,h⟩:=h;replace h:=gV h;obtain⟨a,b,rfl,h⟩:=h;replace h:=gM h;obtain⟨M,_,_,rfl,h⟩:=h;replace h:=gV h;obtain⟨c,d,rfl,h⟩:=h;replace h:=cp h;obtain⟨x,S,rfl,h⟩:=h;replace h:=cp h;obtain⟨y,U,rfl,h⟩:=h;replace h:=oi h;obtain⟨⟨rfl,F,H,j,B,I⟩,h⟩:=h;split at h
 ·next e1 e2=>
  obtain⟨z,J,h⟩:=ob h;cases h;exact FC _ _ o.T.xcs (o.T.xk e1) (o.T.xk e2) (L.e o J) (cm o F).1 (o.T.bl (mw H)) (cm o j).1 (cm o B).1 (cm o j).2 (cm o B).2 (bo I)
 ·cases h
def wo:jt:=λ_ g st=>match st with
 |.Return _ p=>if g.tx p=true then some c6 else none
 |.Assign _ _ p=>if g.tx p=true then some c6 else none
 |.If _ _ _ p=>if g.tx p=true then some c6 else none
 |.While _ _ _ p=>if g.tx p=true then some c6 else none
 |_=>none
def AE:SS wo:=λ{j n R} _ {g X} _ {a y} h=>by
 unfold wo at h;split at h
 ·cases (oi h).2;exact oB
 ·cases (oi h).2;exact oB
 ·cases (oi h).2;exact oB
 ·cases (oi h).2;exact oB
 ·cases h
structure Ent where
 i:Nat
 x:Str
 st:Stmt
 ps:Nat
 N:List Str
 f:Addr
 pm:Str×Tok
 b:Call->GS
 r:Bool:=false
 q:Option Str:=none
 df:Addr:=0
noncomputable def Ent.qn (e:Ent):Str:=e.q.getD e.x
structure lQ where
 T:List (Str×En)
 tw:List (Str×Str×Nat×Nat)
 xf:List Str
 dl:List (Str×List (Str×Nat))
 il:List (Str×Nat)
 cel:List (Nat×Nat×Nat)
 txt:List (Nat×Nat×Nat)
 ms:List (Str×Nat×Nat)
 rs:Rs
 tb:List Ent
def lQ.g (t:lQ)(e:Ent)(c:Call):G:={t.T,t.tw,t.xf,t.cel,t.txt,t.ms,c,e.N,aE e.st,2,[]}
noncomputable def lQ.Pg (t:lQ)(i:Nat):Option Df:=(t.tb.find? (·.i==i)).map λe=>⟨e.ps,e.N.length,e.b⟩
def lQ.rd (t:lQ)(c:Call)(e:Ent):Option GS:=oM ((It t.rs 60).s (t.g e c)) (bT e.st)
def Cw (e:Ent):Bool:=decide ((aE e.st).kind=.function)&&!(aE e.st).isCoroutine&&!(aE e.st).isGenerator&&decide e.N.Nodup&&((e.N.take e.ps).length==e.ps)&&((e.N.take e.ps).all λx=>(aE e.st).names.lookup x==some .local||(aE e.st).names.lookup x==some .cell)&&((aE e.st).names.all (·.2 != .free))
def oz (h:Cw e=true):fW e.N (e.N.take e.ps) (aE e.st)/\(e.N.take e.ps).length=e.ps:=by
 unfold Cw at h;simp only[O2,decide_eq_true_eq,Q2,Pm,QN,beq_iff_eq,bne_iff_ne] at h;obtain⟨⟨⟨⟨⟨⟨h1,h2⟩,h3⟩,h4⟩,j⟩,u⟩,v⟩:=h;exact{{h1,h2,h3,h4,by rw[j],u,v},j}
noncomputable def Ent.dV (e:Ent):O3:=if e.df=0 then .none else .ref e.df
def J7 (e:Ent):Option Obj:=some {.type "function",none,.func (PySem.W.fnOf e.x e.qn (cW e.st) (bT e.st) (aE e.st) e.dV .none .none (.str e.pm.1 e.pm.2) none (.ref (e.f-1)) .none),#[]}
def lA {j u:Type}{f g:j->u}{l:List j}(h:l.map f=l.map g){a:j}(m:a∈l):f a=g a:=List.map_inj_left.mp h a m
def nq (e:Ent)(us:List O3)(kV j pm:O3)(u:Option Addr)(h ct:O3):Sem (List (Str×O3)):=bindArgs (PySem.W.fnOf e.x e.qn (cW e.st) (bT e.st) (aE e.st) e.dV kV j pm u h ct) {us,[]}
def lT (tb:List Ent)(k:Nat)(us:List O3):Prop:=∀(kV j pm:O3) (u:Option Addr) (h ct:O3),(tb.filter λe=>e.ps==k&&e.df==0).map (λe=>nq e us kV j pm u h ct)=(tb.filter λe=>e.ps==k&&e.df==0).map λe=>pure ((e.N.take e.ps).zip us)
structure xI (t:lQ):Prop where
 rs:CV t.rs
 rd:∀c,t.tb.map (t.rd c)=t.tb.map λe=>some (e.b c)
 sc:t.tb.all Cw=true
 ar:t.tb.all (λe=>e.ps==0||e.ps==1||e.ps==2||e.ps==3||e.ps==4||e.ps==6||e.ps==5)=true
 a0:lT t.tb 0 []
 a1:∀a,lT t.tb 1 [a]
 a2:∀a b,lT t.tb 2 [a,b]
 a3:∀a b c,lT t.tb 3 [a,b,c]
 a4:∀a b c d,lT t.tb 4 [a,b,c,d]
 a6:∀a b c d e f,lT t.tb 6 [a,b,c,d,e,f]
 a5:∀a b c d e,lT t.tb 5 [a,b,c,d,e]
 ad:AllP (λe=>e.ps=2/\∀(a b kV doc pm:O3) (an:Option Addr) (cdv ct:O3),∃k k1,nq e [a,b] kV doc pm an cdv ct=seqItems? (.ref e.df) >>= k/\k (some #[.none])=pure ((e.N.take e.ps).zip [a,b])/\nq e [a] kV doc pm an cdv ct=seqItems? (.ref e.df) >>= k1/\k1 (some #[.none])=pure ((e.N.take e.ps).zip [a,.none])) (t.tb.filter λe=>!(e.df==0))
structure AD (K:O0) (tb:List Ent):Prop where
 ns:(tb.filter (·.q.isNone)).map (λe=>PySem.W.nsIn K mainGlobals e.x)=(tb.filter (·.q.isNone)).map λe=>some (some (.ref e.f))
 lk:tb.map (λe=>K.lookup e.f)=tb.map J7
 dk:tb.all (λe=>e.df==0||(match K.lookup e.df with|some {_,_,.seq its _,_}=>its==#[.none]|_=>false))=true
 ck:tb.all (λe=>PySem.W.codeIn K (.ref (e.f-1)) e.qn&&PySem.W.keepIn K (.ref e.f))=true
def HN {K:O0}{tb:List Ent}(k:AD K tb)(m:e∈tb):xP K e.x e.qn e.st e.f (PySem.W.fnOf e.x e.qn (cW e.st) (bT e.st) (aE e.st) e.dV .none .none (.str e.pm.1 e.pm.2) none (.ref (e.f-1)) .none):=by
 have c:=Pm.mp k.ck e m;rw[O2] at c;exact{{_,_,_,_,_,_,_,_,_,_,rfl,lA k.lk m,c.1},c.2}
def Fe {K:O0}{h:Heap}(k:AD K tb)(X:K.In h)(G:h.Ns mainGlobals mg)(m:e∈tb)(u:e.q.isNone=true)(hd:e.df=0):mg e.x=some (.ref e.f)/\∃j,mI K e.x e.qn e.st e.f j:=by
 have c:=Pm.mp k.ck e m;rw[O2] at c;have l:=lA k.lk m;unfold J7 Ent.dV at l;rw[if_pos hd] at l;exact{Qw X G (lA k.ns (QY.mpr ⟨m,u⟩)),_,z0 l c.1 c.2}
def us6 {j:Type}{p:List j->Prop}(h:∀a b c d e f,p [a,b,c,d,e,f]):∀(us:List j) (hl:us.length=6),p us
 |[a,b,c,d,e,f],_=>h a b c d e f
def us5 {j:Type}{p:List j->Prop}(h:∀a b c d e,p [a,b,c,d,e]):∀(us:List j) (hl:us.length=5),p us
 |[a,b,c,d,e],_=>h a b c d e
def Be {t:lQ}(T:xI t){e:Ent}(m:e∈t.tb)(H:e.df=0)(kV B pm:O3)(E:Option Addr)(j ct:O3):∀us:List O3,us.length=(e.N.take e.ps).length->nq e us kV B pm E j ct=pure ((e.N.take e.ps).zip us):=by
 have hl:=(oz (Pm.mp T.sc e m)).2;have a:=Pm.mp T.ar e m;have f:∀{k:Nat}{us:List O3},e.ps=k->lT t.tb k us->nq e us kV B pm E j ct=pure ((e.N.take e.ps).zip us):=λ{k us} hk F=>lA (F kV B pm E j ct) (QY.mpr {m,by rw[hk,H];simp})
 rw[hl];simp only[QN,beq_iff_eq] at a;rcases a with(((((a|a)|a)|a)|a)|a)|a
 ·rw[a];exact λus h=>by rw[Q8.mp h];exact a ▸ f a T.a0
 ·rw[a];exact us1 λx=>a ▸ f a (T.a1 x)
 ·rw[a];exact MS λx y=>a ▸ f a (T.a2 x y)
 ·rw[a];exact us3 λx y z=>a ▸ f a (T.a3 x y z)
 ·rw[a];exact us4 λx y z u=>a ▸ f a (T.a4 x y z u)
 ·rw[a];exact us6 λx y z u v w=>a ▸ f a (T.a6 x y z u v w)
 ·rw[a];exact us5 λx y z u v=>a ▸ f a (T.a5 x y z u v)
section
variable{fa:Fa}{P:PU}{w:PM}{K:O0}{mg:Str->Option O3}{base:Heap}{t:lQ}
def sf (T:xI t)(TO:EE fa P w K mg base t.T)(tw:∀q∈t.tw,ED fa K mg q.1 q.2.1 q.2.2.1 q.2.2.2)(xf:∀f∈t.xf,wc fa K f)(ms:∀q∈t.ms,oV fa K q.1 q.2.1 q.2.2){e:Ent}(m:e∈t.tb){ad:Addr}(call:Call)(n:Nat)(j:O3)(A:QE)(outer:List QC)(s:O8)(H:Hp)(E:XK)
 (C:∀f,gA fa P w K mg base n f (call f)) (hr:b5 (2*n+5) (A.deeper (envOfC e.qn (aE e.st) s.heap.objs.size ad j))):j7 fa (dY (fx P w) P w K mg base e.N e.qn (aE e.st) ad j A outer s H E) (bT e.st) (e.b call):=by
 have S:=(oz (Pm.mp T.sc e m)).1;exact hU ((EI T.rs 60).s (g:=t.g e call) (X:=dY (fx P w) P w K mg base e.N e.qn (aE e.st) ad j A outer s H E) {rfl,S.nd,rfl,TO,tw,xf,ms,λ_ _=>rfl,(λ_ h=>nomatch h),λ_=>rfl,λ_=>C,λ_=>hr,λ_=>⟨rfl,rfl,rfl,S.kind⟩,λ_=>PassesOwn.leaving}) (lA (T.rd call) m)
set_option tactic.hygienic true in
def yA (k:AD K tb)(m:en∈tb)(h:en.df≠0)(X:K.In s.heap)(e1:nq en us .none .none (.str en.pm.1 en.pm.2) none (.ref (en.f-1)) .none=seqItems? (.ref en.df) >>= kk)(e2:kk (some #[.none])=pure out) :
 BindsTo s (PySem.W.fnOf en.x en.qn (cW en.st) (bT en.st) (aE en.st) en.dV .none .none (.str en.pm.1 en.pm.2) none (.ref (en.f-1)) .none) {us,[]} out:=by
 have dk:=Pm.mp k.dk en m;rw[QN] at dk;rcases dk with dk|dk
 ·exact absurd (eq_of_beq dk) h
 split at dk
 ·next lk=>
  have q:=eq_of_beq dk;subst q;exact BindsTo.of_defaults (by show en.dV=_;unfold Ent.dV;rw[if_neg h]) (X _ _ lk) rfl (by show nq en us _ _ _ _ _ _=seqItems? en.dV >>= _;unfold Ent.dV;rw[if_neg h];exact e1) e2
 ·cases dk
def Bd (T:xI t)(k:AD K t.tb)(X:K.In h)(G:h.Ns mainGlobals mg)(TO:EE fa P w K mg base t.T)(tw:∀q∈t.tw,ED fa K mg q.1 q.2.1 q.2.2.1 q.2.2.2)(xf:∀f∈t.xf,wc fa K f)(ms:∀q∈t.ms,oV fa K q.1 q.2.1 q.2.2)(hf:t.tb.all (λe=>fa e.i==some e.f&&(!(fa (500+e.i)).isSome||!(e.df==0)))=true) :
 ∀f d,t.Pg f=some d->xQ fa P w K mg base f d:=by
 intro f d e;obtain⟨en,he,rfl⟩:=Pq.mp e;have m:=List.mem_of_find?_eq_some he;have J:en.i=f:=by have:=List.find?_some he;simpa using this
 have F:=HN k m;obtain⟨S,hl⟩:=oz (Pm.mp T.sc en m);have u:=Pm.mp hf en m;rw[O2,QN] at u;have M:fa f=some en.f:=by rw[<- J];exact eq_of_beq u.1
 have B:Binds K (PySem.W.fnOf en.x en.qn (cW en.st) (bT en.st) (aE en.st) en.dV .none .none (.str en.pm.1 en.pm.2) none (.ref (en.f-1)) .none) (en.N.take en.ps) []:=by
  by_cases v:en.df=0
  ·exact .all (Be T m v _ _ _ _ _ _)
  ·intro s I X j;obtain⟨h2,hk⟩:=T.ad.mem en (QY.mpr {m,by simpa using v})
   rw[Qz] at j ⊢;rw[hl,h2] at j
   match I,j with
   | [a,b],_=>
     obtain⟨kk,_,e1,e2,_⟩:=hk a b .none .none (.str en.pm.1 en.pm.2) none (.ref (en.f-1)) .none;exact yA k m v X e1 e2
 have L:(fa (500+f)).isSome=true->Binds K (PySem.W.fnOf en.x en.qn (cW en.st) (bT en.st) (aE en.st) en.dV .none .none (.str en.pm.1 en.pm.2) none (.ref (en.f-1)) .none) (en.N.take en.ps) [.none]:=λhs s I X j=>by
  have v:en.df≠0:=by
   rcases u.2 with z|z
   ·rw[J,hs] at z;cases z
   ·simpa using z
  obtain⟨h2,hk⟩:=T.ad.mem en (QY.mpr {m,by simpa using v})
  rw[hl,h2,Pt] at j
  match I,j with
  | [a],_=>
    obtain⟨_,kk,_,_,e1,e2⟩:=hk a .none .none .none (.str en.pm.1 en.pm.2) none (.ref (en.f-1)) .none;exact yA k m v X e1 e2
 exact{en.f,_,en.N.take en.ps,en.N,en.st,en.x,en.qn,M,F,B,L,S,hl.symm,rfl,λcall n y A outer s H E C hr=>sf T TO tw xf ms m call n y A outer s H E C hr}
noncomputable def J9 (K:O0)(fa:Fa)(t:lQ)(p:Str×En):Bool:=match p.2 with
 |.fn i _=>(match PySem.W.nsIn K mainGlobals p.1 with|some (some (.ref a))=>fa i==some a|_=>false)
 |.fnD i=>(match PySem.W.nsIn K mainGlobals p.1 with|some (some (.ref a))=>fa i==some a&&(fa (500+i)).isSome|_=>false)
 |.int i=>(match PySem.W.nsIn K mainGlobals p.1 with|some (some (.int j _))=>i==j|_=>false)
 |.str i=>(match PySem.W.nsIn K mainGlobals p.1 with|some (some (.str j _))=>i==j|_=>false)
 |.xc k=>(match PySem.W.nsIn K mainGlobals p.1 with|some (some (.ref a))=>fa (c7 k)==some a&&PySem.W.excIn K a mF "ValueError.__new__"&&PySem.W.keepIn K (.ref a)|_=>false)
 |.xi k=>(match PySem.W.nsIn K mainGlobals p.1 with|some (some (.ref a))=>fa (c7 k)==some a&&t.il.contains (p.1,k)|_=>false)
 |.xk k=>(match PySem.W.nsIn K mainGlobals p.1 with|some (some (.ref a))=>fa (c7 k)==some a|_=>false)
 |.de=>(match PySem.W.nsIn K mainGlobals p.1 with|some (some (.ref a))=>fa 999==some a|_=>false)
 |.bl=>(match PySem.W.nsIn K mainGlobals p.1 with|some none=>true|_=>false)
 |.dct fs=>t.dl.contains (p.1,fs)
 |.cls c f=>(match PySem.W.nsIn K mainGlobals p.1 with|some (some (.ref a))=>fa (i7 c)==some a&&PySem.W.makesIn K a&&PySem.W.keepIn K (.ref a)&&(match fa f with|some ad=>PySem.W.findIn K (.ref a) "__init__"==some (some (.ref ad))&&PySem.W.isFn K (.ref ad)|none=>true)|_=>false)
set_option tactic.hygienic true in
def Fd (X:K.In h)(G:h.Ns mainGlobals mg)(H:t.T.all (J9 K fa t)=true)(I:j4 fa K)(y:KZ fa K)(E:∀o,5000<=o->fa o=none)(B:fa (i7 77)=none/\fa (i7 78)=none)(hd:AllP (λq=>∃ad j,mg q.1=some (.ref ad)/\ff K w.params ad j/\dJ fa j q.2) t.dl)(hi:AllP (λq=>j6 fa P w K mg base q.2 q.1) t.il):EE fa P w K mg base t.T:=by
 have F:∀{x:Str}{e:En},t.T.lookup x=some e->J9 K fa t (x,e)=true:=λ{x e} l=>Pm.mp H _ (mem_of_lookup l);refine{λ{x i r} l ad u=>?_,λ{x i} l=>?_,λ{x i} l=>?_,λ{x i} l=>?_,λ{x fs} l=>?_,λ{x k} l=>?_,λ{x k} l=>?_,λ{x k} l=>?_,λ{x} l=>?_,λ{x} l=>?_,I,y,E,B,λ{x c f} l=>?_};all_goals have b:=F l;unfold J9 at b;dsimp only at b
 ·split at b
  ·next e=>have b:=eq_of_beq b;rw[u] at b;cases b;exact Qw X G e
  ·cases b
 ·split at b
  ·next e=>rw[O2] at b;exact{λad u=>by have b1:=eq_of_beq b.1;rw[u] at b1;cases b1;exact Qw X G e,b.2}
  ·cases b
 ·split at b
  ·next e=>have b:=eq_of_beq b;subst b;exact{_,Qw X G e}
  ·cases b
 ·split at b
  ·next e=>have b:=eq_of_beq b;subst b;exact{_,Qw X G e}
  ·cases b
 ·exact hd.mem (x,fs) (List.contains_iff_mem.mp b)
 ·split at b
  ·next e=>simp only[O2] at b;exact{_,Qw X G e,eq_of_beq b.1.1,b.1.2,b.2}
  ·cases b
 ·split at b
  ·next e=>rw[O2] at b;exact{hi.mem (x,k) (List.contains_iff_mem.mp b.2),_,Qw X G e,eq_of_beq b.1}
  ·cases b
 ·split at b
  ·next e=>exact{_,Qw X G e,eq_of_beq b}
  ·cases b
 ·split at b
  ·next e=>exact{_,Qw X G e,eq_of_beq b}
  ·cases b
 ·split at b
  ·next e=>exact PySem.W.mg_none_of X G e
  ·cases b
 ·split at b
  ·next a e=>
   simp only[O2] at b;refine{a,Qw X G e,eq_of_beq b.1.1.1,λad v=>?_};have b2:=b.2;rw[v] at b2;simp only[O2] at b2;exact{b.1.1.2,eq_of_beq b2.1,b2.2,b.1.2}
  ·cases b
end
noncomputable def xD (K:O0)(C:Addr):Bool:=PySem.W.plainGet K C Str.empty&&PySem.W.hasDictIn K C&&PySem.W.plainOver K C&&PySem.W.findIn K (.ref C) "__setattr__"==some (some (.builtin "object.__setattr__"))
def Ao {K:O0}(h:xD K C=true):wj K C:=by
 unfold xD at h;simp only[O2] at h;exact{h.1.1.1,h.1.1.2,h.1.2,eq_of_beq h.2}
def Jn (K:O0)(fa:Fa):Bool:=match fa (i7 40) with
 |some C=>xD K C&&(kD 40).all λf=>PySem.W.findIn K (.ref C) f==some none
 |none=>true
def Jm {K:O0}(h:Jn K fa=true):KZ fa K:=λc C e ne=>by
 have j:c=40:=by
  unfold kD at ne;split at ne
  ·rfl
  ·exact absurd rfl ne
 subst j;unfold Jn at h;rw[e] at h;simp only[O2,Pm] at h;exact{Ao h.1,λf m=>eq_of_beq (h.2 f m)}
def JE (K:O0)(fa:Fa)(q:Str×Nat×Nat):Bool:=match fa (i7 q.2.1) with
 | some C=>xD K C && (match fa q.2.2 with
   |some ad=>PySem.W.findIn K (.ref C) q.1==some (some (.ref ad))&&PySem.W.isFn K (.ref ad)&&PySem.W.keepIn K (.ref ad)
   |none=>true)&&!(kD q.2.1).contains q.1&&!(kD q.2.1).isEmpty
 |none=>false
def JD {K:O0}{l:List (Str×Nat×Nat)}(h:l.all (JE K fa)=true):∀q∈l,oV fa K q.1 q.2.1 q.2.2:=λq m=>by
 have h:=Pm.mp h q m;unfold JE at h;cases e:fa (i7 q.2.1) with
 |none=>rw[e] at h;cases h
 | some C=>
   rw[e] at h;simp only[O2,Q2] at h;refine{C,e,Ao h.1.1.1,λad ea=>?_,λz=>?_,λz=>?_}
   ·have b:=h.1.1.2;rw[ea] at b;simp only[O2] at b;exact{eq_of_beq b.1.1,b.1.2,b.2}
   ·have:=List.contains_iff_mem.mpr z;rw[h.1.2] at this;cases this
   ·rw[z] at h;exact absurd h.2 `d
def Cp {D:Addr}(h:cl.all (λq=>decide (q.1<4000))=true):∀o,5000<=o->tU l cl D o=none:=λo ho=>by
 unfold tU;rw[if_neg `a,if_neg `a]
 cases e:cl.lookup (o-1000) with
 |none=>rfl
 | some C=>
   have:=of_decide_eq_true (Pm.mp h _ (lookup_mem e));omega
end LD
section
local macro_rules|`(#[$a,*])=>do return<-a.getElems.foldrM (β:=Lean.Term) (λx r=>`(LD.aM $x $r)) (<-`(LD.ba))
local macro_rules|`(#v[$a,*])=>do return<-a.getElems.foldrM (β:=Lean.Term) (λx r=>`(LD.bg $x $r)) (<-`(LD.aJ))
namespace LD
open PySem
abbrev gI (n:Int):GE:=gC (.int n)
abbrev gS (x:Str):GE:=gC (.str x)
abbrev gN:GE:=gC .non
abbrev vJ:GE:=gC (.bl true)
abbrev El:GE:=gC (.bl false)
abbrev rF:GS:=bg (aR El) aJ
noncomputable def cF:List (Str×Nat):=[("turn",7),("join",8),("move",9),("put",10)]
def dN:List (Str×Nat):=[("turn",20),("join",21),("move",22),("put",23)]
def gr (c:Call):GS:=#v[aV (cT (aj (cw .bool (aa 0))) (bG (aj (cw .int (aa 0))))) rF aJ,aR (iU .le .le (aa 1) (aa 0) (aa 2))]
def jq (c:Call):GS:=#v[aR (ai 0 c #[aa 1,gI 0,ah false .sub (aa 0) (gI 1)])]
def iB (c:Call):GS:=#v[aR (ai 0 c #[aa 1,gI 0,ah false .sub (aa 0) (gI 1)])]
def jr (c:Call):GS:=#v[aR (ai 0 c #[aa 0,gI 1,gI 3])]
def fE (c:Call):GS:=#v[aR (d9 (cw .tuple (aa 1)) (aH .eq (aX .len #[aa 1]) (aa 0)))]
def iA (c:Call):GS:=#v[aR (d9 (ai 4 c #[aa 0,aa 1]) (aX .all #[cn false 1 (.one 0) (dv (aa 1)) (cg (ai 1 c #[aa 1,aa 0]))]))]
def dI (c:Call):GS:=#v[aR (d9 (ai 4 c #[aa 0,aa 1]) (aX .all #[cn false 1 (.one 0) (dv (aa 1)) (cg (ai 5 c #[aa 1,aa 0]))]))]
def fT (c:Call):GS:=#v[aV (aj (aH .ne (aX .len #[aa 2]) (gI 3))) rF aJ,ax (.tup [3,4,5]) (aa 2),aR (d9 (ai 2 c #[aa 1,aa 3]) (d9 (ai 5 c #[aa 0,aa 4]) (ai 3 c #[aa 5])))]
def fV (c:Call):GS:=#v[aV (aj (aH .ne (aX .len #[aa 2]) (gI 4))) rF aJ,ax (.tup [3,4,5,6]) (aa 2),aV (cT (bG (aj (ai 2 c #[aa 1,aa 3]))) (bG (aj (ai 2 c #[aa 1,aa 4])))) rF aJ,aR (d9 (ai 6 c #[aa 0,aa 5]) (ai 3 c #[aa 6]))]
def fU (c:Call):GS:=#v[aV (aj (aH .ne (aX .len #[aa 2]) (gI 3))) rF aJ,ax (.tup [3,4,5]) (aa 2),aR (d9 (ai 2 c #[aa 1,aa 3]) (d9 (ai 2 c #[aa 1,aa 4]) (ai 3 c #[aa 5])))]
def gQ (c:Call):GS:=#v[aV (aj (aH .ne (aX .len #[aa 2]) (gI 3))) rF aJ,ax (.tup [3,4,5]) (aa 2),aR (d9 (ai 2 c #[aa 1,aa 3]) (d9 (ai 1 c #[aa 0,aa 4]) (ai 3 c #[aa 5])))]
def dD (c:Call):GS:=#v[aV (cT (bG (aj (cw .tuple (aa 2)))) (bG (aj (aa 2)))) rF aJ,ax (.one 3) (aF (aa 2) (gI 0)),aV (cT (bG (aj (cw .str (aa 3)))) (aj (ix cF (aa 3)))) rF aJ,ax (.one 4) (kC cF (aa 3)),aR (lI 4 c #[aa 0,aa 1,bZ false true false (aa 2) (gI 1) gN])]
def iX (c:Call):GS:=#v[aV (bG (aj (ai 4 c #[gI 3,aa 0]))) rF aJ,ax (.tup [1,2,3]) (aa 0),aV (cT (bG (aj (ai 0 c #[aa 1,gI 2,gI 4]))) (bG (aj (ai 0 c #[aa 2,gI 1,gI 2])))) rF aJ,aV (cT (bG (aj (cw .tuple (aa 3)))) (bG (aj (iU .le .le (gI 1) (aX .len #[aa 3]) (gI 6))))) rF aJ,aR (aX .all #[cn false 1 (.one 0) (dv (aa 3)) (cg (ai 11 c #[aa 2,aa 3,aa 0]))])]
def fb (c:Call):GS:=#v[aV (bG (aj (ai 12 c #[aa 0]))) #v[eE 3 #[gS "this is no machine"]] aJ]
def dP (c:Call):GS:=#v[eF (bL 13 c #[aa 0]),ax (.tup [1,2,3]) (aa 0),ax (.one 4) (aA false #[aU ba]),d8 (.one 5) (eh (aa 2)) #v[ax (.one 4) (cn false 2 (.one 0) (dv (aa 4)) (tR (.one 1) (eh (aa 3)) (cg (ah false .add (aa 0) (aU #[aa 1])))))],aR (aa 4)]
def fN (c:Call):GS:=#v[aR (ai 0 c #[aa 1,gI 0,ah false .sub (aX .len #[aF (aa 0) (gI 2)]) (gI 1)])]
def e9 (c:Call):GS:=#v[aV (bG (aj (cw .list (aa 1)))) #v[gK 0 (gI 0)] aJ,d8 (.tup [2,3]) (iw (aa 1)) #v[aV (bG (aj (ai 16 c #[aa 0,aa 3]))) #v[gK 0 (aa 2)] aJ]]
def oP (c:Call):GS:=#v[eF (bL 13 c #[aa 0]),eF (bL 17 c #[aa 0,aa 1]),aV (aj (aH .gt (aX .len #[aa 1]) (gI 40))) #v[eE 4 #[oq "a row has at most " " deeds" (gI 40)]] aJ]
def kK (c:Call):GS:=#v[ax (.tup [2,3,4,5]) (aa 0),aR (aF (aa 4) (aF (aa 1) (aa 3)))]
def ny (c:Call):GS:=#v[c6,c6]
def qe (c:Call):GS:=#v[c6,c6]
def nv (c:Call):GS:=#v[c6,c6]
def oQ (c:Call):GS:=#v[ax (.one 2) (kC dN (aF (aa 0) (gI 0))),ax (.one 3) (aF (aa 0) (gI 1)),aR (ah false .add (ah false .add (bZ false false true (aa 1) gN (aa 3)) (aU #[lI 2 c #[aa 0,aa 1]])) (bZ false true false (aa 1) (ah false .add (aa 3) (gI 1)) gN))]
def qf (c:Call):GS:=c6
def kT (c:Call):GS:=#v[aV (aj (aH .ge (aa 0) (ah false .pow (gI 10) (gI 18)))) #v[aR (aa 0)] aJ,ax (.one 2) (aA false #[gI 2147483629,gI 2147483587,gI 2147483579,gI 2147483563,gI 2147483549,gI 2147483543,gI 2147483497,gI 2147483489]),ax (.one 2) (ah false .add (aa 2) (aA false #[gI 2147483477,gI 2147483423,gI 2147483399,gI 2147483353,gI 2147483323])),ax (.one 3) (ah false .mod (ah false .pow (ah false .add (ah false .add (ah false .mul (ah false .mod (aa 0) (gI 1000000007)) (ah false .add (ah false .mul (gI 2) (aa 1)) (gI 69069))) (ah false .mul (aa 1) (gI 40503))) (gI 977)) (gI 3)) (aF (aa 2) (ah false .mod (aa 1) (gI 13)))),ax (.one 4) (ah false .mod (ah false .pow (ah false .add (ah false .add (ah false .mul (aa 3) (ah false .add (aa 1) (gI 3))) (ah false .mod (aa 0) (gI 65537))) (gI 5)) (gI 5)) (aF (aa 2) (ah false .mod (ah false .add (aa 1) (gI 5)) (gI 13)))),ax (.one 5) (ah false .mod (ah false .pow (ah false .add (ah false .add (aa 4) (ah false .mod (aa 3) (gI 1009))) (aa 1)) (gI 3)) (aF (aa 2) (ah false .mod (ah false .add (aa 1) (gI 7)) (gI 13)))),aR (ah false .add (ah false .mul (ah false .add (ah false .mul (aa 3) (gI 2147483647)) (aa 4)) (gI 2147483647)) (aa 5))]
def jC (c:Call):GS:=#v[ax (.one 1) (aX (.list true) #[bZ false false true (aa 0) gN (gI 12)]),d8 (.tup [2,3]) (iw (bZ false true true (aa 0) (gI 12) (gI 63))) #v[fK (aa 1) (ah false .mod (aa 2) (gI 12)) (ah false .add (aF (aa 1) (ah false .mod (aa 2) (gI 12))) (aa 3))],aR (aA true #[aa 1,gI 0,gI 0])]
def jD (c:Call):GS:=#v[fK (aa 0) (gI 2) (gI 0),aR (aa 0)]
def mG (c:Call):GS:=#v[aV (aj (aH .lt (aF (aa 0) (gI 2)) (aa 1))) #v[ax (.one 2) (aF (aa 0) (gI 1)),ax (.one 3) (gI 0),aV (aj (aH .lt (aa 2) (aX .len #[aF (aa 0) (gI 0)]))) #v[ax (.one 3) (aF (aF (aa 0) (gI 0)) (aa 2))] #v[aV (aj (aH .gt (aX .len #[aF (aa 0) (gI 0)]) (gI 0))) #v[ax (.one 3) (ah false .mod (aF (aF (aa 0) (gI 0)) (ah false .mod (ah false .add (ah false .mul (aa 2) (gI 5)) (gI 3)) (aX .len #[aF (aa 0) (gI 0)]))) (ah false .add (ah false .pow (gI 10) (gI 17)) (aa 2)))] aJ],fK (aa 0) (gI 1) (ah false .add (aa 2) (gI 1)),fK (aa 0) (gI 2) (ai 28 c #[aa 3,aa 2])] aJ,ax (.one 4) (ah false .mod (aF (aa 0) (gI 2)) (aa 1)),fK (aa 0) (gI 2) (ah false .fdiv (aF (aa 0) (gI 2)) (aa 1)),aR (aa 4)]
def iC (c:Call):GS:=#v[ax (.one 2) (ai 31 c #[aa 0,gI 6]),ax (.one 3) (ai 31 c #[aa 0,aa 1]),ax (.one 4) (ai 31 c #[aa 0,aa 1]),aV (aj (aH .lt (aa 2) (gI 2))) #v[aR (aX .tuple #[cn false 1 (.one 0) (eh (aa 1)) (cg (ai 31 c #[aa 1,aa 2]))])] aJ,aV (aj (aH .eq (aa 2) (gI 2))) #v[aR (aX .tuple #[cn false 1 (.one 0) (eh (aa 1)) (cg (ah false .mod (ah false .add (ah false .add (aa 0) (gI 1)) (aa 4)) (aa 2)))])] aJ,aV (aj (aH .eq (aa 2) (gI 3))) #v[aR (aX .tuple #[cn false 1 (.one 0) (eh (aa 1)) (cg (gj (aj (aH .eq (aa 0) (aa 4))) (aa 5) (aa 0)))])] aJ,aV (aj (aH .eq (aa 2) (gI 4))) #v[aR (ah false .mul (aU #[aa 3]) (aa 1))] aJ,ax (.one 5) (lG true (aa 1)),fK (aa 5) (aa 3) (aa 4),fK (aa 5) (aa 4) (aa 3),aR (aX .tuple #[aa 5])]
def gY (c:Call):GS:=#v[ax (.one 3) (ai 31 c #[aa 0,gI 8]),ax (.one 4) (ah false .add (gI 1) (ai 31 c #[aa 0,gI 3])),ax (.one 5) (ai 31 c #[aa 0,aa 2]),ax (.one 6) (ai 31 c #[aa 0,aa 2]),aV (aj (aH .lt (aa 3) (gI 3))) #v[aR (aU #[gS "turn",aa 5,ai 32 c #[aa 0,aa 1],aa 4])] aJ,aV (aj (aH .lt (aa 3) (gI 5))) #v[aR (aU #[gS "move",aa 5,gj (aj (aH .eq (aa 3) (gI 3))) (ah false .mod (ah false .add (aa 5) (gI 1)) (aa 2)) (aa 6),aa 4])] aJ,aV (aj (aH .eq (aa 3) (gI 5))) #v[aR (aU #[gS "put",aa 5,ai 31 c #[aa 0,aa 1],aa 4])] aJ,aR (aU #[gS "join",aa 5,aa 6,aX .tuple #[cn false 1 (.one 0) (eh (aa 1)) (cg (ai 32 c #[aa 1,aa 2]))],aa 4])]
def fc (c:Call):GS:=#v[ax (.one 1) (ah false .add (gI 2) (ai 31 c #[aa 0,ah false .sub (aa 1) (gI 1)])),ax (.one 2) (ah false .add (gI 1) (ai 31 c #[aa 0,aa 2])),ax (.one 4) (aA true ba),d8 (.one 5) (eh (ah false .add (gI 1) (ai 31 c #[aa 0,aa 3]))) #v[ax (.one 6) (ai 31 c #[aa 0,gI 5]),ax (.one 7) (ai 33 c #[aa 0,aa 1,aa 2]),aV (dM (aj (aH .eq (aa 6) (gI 0))) (aj (aH .ne (aa 4) (aA false ba)))) #v[ax (.one 7) (ah false .add (bZ false false true (aF (aa 4) (ai 31 c #[aa 0,aX .len #[aa 4]])) gN (dw (gI 1))) (aU #[aF (aa 7) (dw (gI 1))]))] aJ,km (aa 4) (aa 7)],aR (aU #[aa 1,aa 2,aX .tuple #[aa 4]])]
def gu (c:Call):GS:=#v[ax (.one 3) (ai 31 c #[aa 0,gI 4]),ax (.one 4) (gj (aj (aH .eq (aa 3) (gI 0))) (aa 2) (ai 31 c #[aa 0,ah false .add (aa 2) (gI 1)])),ax (.one 5) (cn false 1 (.one 0) (eh (aa 4)) (cg (ai 31 c #[aa 1,aX .len #[aF (aa 2) (gI 2)]]))),aV (aj (aH .eq (aa 3) (gI 1))) #v[ax (.one 5) (bZ false false true (ah false .mul (bZ false false true (aa 5) gN (gI 2)) (aa 4)) gN (aa 4))] aJ,aR (aa 5)]
def eA (c:Call):GS:=#v[ax (.one 2) (gS " !\"#$&'()*+,-./0123456789:;<=>?@ABCDEFGHIJKLMNOPQRSTUVWXYZ[\\]^_`"),ax (.one 2) (ah false .add (aa 2) (gS "abcdefghijklmnopqrstuvwxyz{|}~\t\n")),ax (.one 3) (cn false 1 (.one 0) (om (aa 2)) (oo (aj (aH .notin (aa 0) (aa 2))) (cg (aa 0)))),aR (aF (aa 3) (ai 31 c #[aa 0,aX .len #[aa 3]]))]
def eB (c:Call):GS:=#v[aR (ai 64 c #[aa 0,gS ""])]
def fF (c:Call):GS:=#v[ax (.one 2) (ai 31 c #[aa 0,ah false .add (aX .len #[aa 1]) (gI 1)]),aR (ah false .add (ah false .add (mh false true (aa 1) gN (aa 2)) (ai 65 c #[aa 0])) (mh true false (aa 1) (ah false .add (aa 2) (ai 31 c #[aa 0,gI 2])) gN))]
def js (c:Call):GS:=#v[aR (d9 (cw .int (aa 0)) (J2 (cw .bool (aa 0))))]
def lP (c:Call):GS:=#v[aR (d9 (ai 67 c #[aa 0]) (iU .le .le (aa 1) (aa 0) (aa 2)))]
def gR (c:Call):GS:=#v[aV (cT (bG (aj (cw .tuple (aa 0)))) (aj (aH .ne (aX .len #[aa 0]) (aa 1)))) rF aJ,aR (aH .eq (cn false 1 (.one 0) (dv (aa 0)) (oo (bG (aj (ai 68 c #[aa 0,aa 3,aa 4]))) (cg (gI 1)))) (aA false ba))]
def dj (c:Call):GS:=#v[aV (cT (bG (aj (cw .tuple (aa 0)))) (aj (aH .notin (aX .len #[aa 0]) (aU #[gI 4,gI 5])))) rF aJ,aV (cT (aj (aH .notin (aF (aa 0) (gI 0)) (aU #[gS "turn",gS "join",gS "move",gS "put"]))) (aj (aH .ne (aH .eq (aX .len #[aa 0]) (gI 5)) (aH .eq (aF (aa 0) (gI 0)) (gS "join"))))) rF aJ,aV (cT (bG (aj (ai 69 c #[aU #[aF (aa 0) (gI 1)],gI 1,gI 0,ah false .sub (aa 2) (gI 1)]))) (bG (aj (ai 68 c #[aF (aa 0) (dw (gI 1)),gI 1,gI 3])))) rF aJ,aV (aj (aH .eq (aF (aa 0) (gI 0)) (gS "turn"))) #v[aR (ai 69 c #[aF (aa 0) (gI 2),aa 1,gI 0,ah false .sub (aa 1) (gI 1)])] aJ,aV (aj (aH .eq (aF (aa 0) (gI 0)) (gS "put"))) #v[aR (ai 68 c #[aF (aa 0) (gI 2),gI 0,ah false .sub (aa 1) (gI 1)])] aJ,aV (bG (aj (ai 68 c #[aF (aa 0) (gI 2),gI 0,ah false .sub (aa 2) (gI 1)]))) rF aJ,aV (aj (aH .eq (aF (aa 0) (gI 0)) (gS "move"))) #v[aR vJ] aJ,aV (cT (bG (aj (cw .tuple (aF (aa 0) (gI 3))))) (aj (aH .ne (aX .len #[aF (aa 0) (gI 3)]) (aa 1)))) rF aJ,aR (aH .eq (cn false 1 (.one 0) (dv (aF (aa 0) (gI 3))) (oo (bG (aj (ai 69 c #[aa 0,aa 2,gI 0,ah false .sub (aa 2) (gI 1)]))) (cg (gI 1)))) (aA false ba))]
def fj (c:Call):GS:=#v[aV (cT (bG (aj (cw .tuple (aa 0)))) (cT (aj (aH .ne (aX .len #[aa 0]) (gI 3))) (bG (aj (ai 68 c #[aF (aa 0) (gI 0),gI 2,gI 4]))))) rF aJ,aV (cT (bG (aj (ai 68 c #[aF (aa 0) (gI 1),gI 1,gI 2]))) (cT (bG (aj (cw .tuple (aF (aa 0) (gI 2))))) (bG (aj (iU .le .le (gI 1) (aX .len #[aF (aa 0) (gI 2)]) (gI 6)))))) rF aJ,aR (aH .eq (cn false 1 (.one 0) (dv (aF (aa 0) (gI 2))) (oo (bG (aj (ai 70 c #[aa 0,aF (aa 1) (gI 0),aF (aa 1) (gI 1)]))) (cg (gI 1)))) (aA false ba))]
def mH (c:Call):GS:=#v[ax (.one 3) (ai 31 c #[aa 0,gI 8]),ax (.one 4) (ai 31 c #[aa 0,gI 20]),ax (.one 5) (ah false .sub (ai 31 c #[aa 0,gI 9]) (gI 2)),aV (dM (aj (cw .tuple (aa 1))) (dM (aj (aH .ne (aa 1) (aU ba))) (dM (aj (aH .gt (aa 2) (gI 0))) (aj (aH .gt (aa 4) (gI 4)))))) #v[ax (.one 6) (ai 31 c #[aa 0,aX .len #[aa 1]]),aR (ah false .add (ah false .add (bZ false false true (aa 1) gN (aa 6)) (aU #[ai 72 c #[aa 0,aF (aa 1) (aa 6),ah false .sub (aa 2) (gI 1)]])) (bZ false true false (aa 1) (ah false .add (aa 6) (gI 1)) gN))] aJ,ax (.one 7) (aA false #[gN,vJ,El,gS "",gS "turn",gS "join",gS "move",gS "put",gS "Turn",aU ba,aA false ba,ah false .pow (gI 10) (gI 20),dw (gI 1),gI 0]),ax (.one 7) (ah false .add (aa 7) (aA false #[gI 1,gI 4,aU #[gI 0],aA false #[gI 0],gS "0",gI 7])),aV (aj (cw .tuple (aa 1))) #v[ax (.one 8) (aA false #[aX (.list false) #[aa 1],ah false .add (aa 1) (bZ false false true (aa 1) gN (gI 1)),bZ false false true (aa 1) gN (dw (gI 1)),pO false (aa 1),ah false .add (aa 1) (aU #[aa 5]),bZ false true false (aa 1) (gI 1) gN,aU #[aa 1]]),aR (aF (ah false .add (aa 8) (aA false #[aF (aa 7) (aa 4)])) (aa 3))] aJ,aV (aj (ai 67 c #[aa 1])) #v[aR (aF (aA false #[ah false .add (aa 1) (gI 1),ah false .sub (aa 1) (gI 1),ah false .sub (gI 0) (aa 1),aa 5,aa 5,aH .eq (aa 1) (gI 1),ah false .sub (gI 3) (aa 1),aF (aa 7) (aa 4)]) (aa 3))] aJ,aV (dM (aj (cw .str (aa 1))) (aj (aH .lt (aa 3) (gI 3)))) #v[aR (ai 66 c #[aa 0,aa 1])] aJ,aR (aF (aa 7) (aa 4))]
def eZ (c:Call):GS:=#v[fz (.one 1) (bL 15 c #[aa 0]),aR (cn false 1 (.one 0) (dv (aF (aa 0) (gI 2))) (cg (aU #[aF (aa 0) (dw (gI 1)),jX 77 1 (.one 0) (dv (aa 2)) (jf (aa 0) (ai 24 c #[aa 1,aa 0]))])))]
def eL (c:Call):GS:=#v[aR (aX .tuple #[cn false 1 (.one 0) (dv (aa 1)) (cg (je (aa 1) (aa 0)))])]
def ec (c:Call):GS:=#v[ax (.one 2) (aF (aA false #[aU #[gI 3,gI 1,gI 6],aU #[gI 2,gI 2,gI 3],aU #[gI 3,gI 1,gI 4],aU #[gI 2,gI 2,gI 2],aU #[gI 4,gI 1,gI 2]]) (ah false .mod (aa 1) (gI 5))),aR (ai 34 c #[aa 0,aF (aa 2) (gI 0),aF (aa 2) (gI 1),aF (aa 2) (gI 2)])]
def eC (c:Call):GS:=#v[ax (.one 1) (aA false #[aU #[gI 1,gI 2,gI 3,gI 0],aU #[gI 1,gI 0,gI 2,gI 3],aU #[gI 0,gI 0,gI 2,gI 3]]),ax (.one 2) (ai 31 c #[aa 0,gI 3]),ax (.one 3) (cn false 1 (.one 0) (dv (ah false .add (bZ false true false (aa 1) (aa 2) gN) (bZ false false true (aa 1) gN (aa 2)))) (cg (aU #[gS "turn",gI 0,aa 0,ah false .add (gI 1) (ai 31 c #[aa 1,gI 3])]))),aR (aU #[gI 4,gI 1,aX .tuple #[aa 3]])]
def jn (c:Call):GS:=#v[ax (.one 3) (aX .len #[aa 1]),ax (.one 4) (aA true ba),d8 (.two 5 [6,7]) (iw (aa 0)) #v[ax (.one 8) (gj (aj (aH .le (aa 6) (aa 3))) (aF (aa 1) (ah false .sub (aa 3) (aa 6))) (aA false ba)),d8 (.one 9) (dv (aa 8)) #v[ax (.one 10) (ai 152 c #[aa 7,aa 9]),aV (aj (lH true (aa 10) (aa 2))) #v[kj (aa 2) (aa 10) (aU #[aa 3,ah true .add (aF (je (aa 2) (aa 9)) (gI 1)) (aA false #[aa 5])]),km (aa 4) (aa 10),aV (aj (aH .gt (mi (aa 2)) (gI 255))) #v[eE 8 #[oq "rows have more than " " behaviours" (gI 255)]] aJ] aJ]],aR (aa 4)]
def lO (c:Call):GS:=#v[fz (.one 2) (bL 151 c #[aa 0]),ax (.one 3) (aX .tuple #[ai 15 c #[aa 0]]),ax (.one 4) (vK 78 (aa 3) (aU #[gI 0,aA true ba])),ax (.one 5) (aA true #[aA false #[aa 3]]),lg (dM (aj (pP (bZ false true false (aa 5) (dw (gI 3)) gN))) (cT (aj (aH .isN (aa 1) gN)) (aj (aH .le (aX .len #[aa 5]) (aa 1))))) #v[lW (aa 5) (bL 165 c #[aa 2,aa 5,aa 4])],c6]
def gq (c:Call):GS:=#v[eF (bL 18 c #[aa 0,aa 1]),aV (aj (aH .gt (aX .len #[aa 1]) (gI 12))) #v[eE 4 #[oq "a row that is mended has at most " " deeds" (gI 12)]] aJ,aV (bG (aj (ai 0 c #[aa 2,gI 1,gI 6]))) #v[eE 7 #[oq "windows are at most 1 to " " deeds long" (gI 6)]] aJ]
def kL (c:Call):GS:=#v[eF (bL 196 c #[aa 0,aa 1,aa 2]),fz (.one 3) (bL 166 c #[aa 0,gN]),c6,c6,c6,c6,c6]
def ez (c:Call):GS:=#v[ax (.tup [4,5,6]) (aa 3),aV (cT (bG (aj (ai 0 c #[aa 5,gI 1,aa 2]))) (bG (aj (ai 0 c #[aa 4,gI 0,ah false .sub (aX .len #[aa 1]) (aa 5)])))) #v[aR gN] aJ,c6,c6,c6,c6,c6,c6]
def jo (c:Call):GS:=#v[eF (bL 196 c #[aa 0,aa 1,aa 2]),ax (.one 4) (aX (.list false) #[aa 1]),d8 (.one 5) (dv (aa 3)) #v[ax (.one 4) (ai 201 c #[aa 0,aa 4,aa 2,aa 5]),aV (aj (aH .isN (aa 4) gN)) #v[aR gN] aJ],aR (aa 4)]
def cZ (c:Call):GS:=#v[ax (.one 5) gN,sv #v[aV (aj (aH .eq (aa 0) (gI 0))) #v[eF (bL 199 c #[aa 1,aa 2,aa 3])] #v[eF (bL 202 c #[aa 1,aa 2,aa 3,aF (aA false #[aA false ba,aA false #[aU #[gI 0,gI 9,aA false ba]],aA false #[aU #[dw (gI 1),gI 1,aA false #[gI 7]]]]) (aa 4)])]] 6 #v[ax (.one 5) (aa 6)],ax (.one 7) (aA false #[dt (some 3) (aa 5),dt (some 0) (aa 5),dt (some 4) (aa 5)]),ax (.one 7) (ah false .add (aa 7) (aA false #[dt (some 7) (aa 5),dt (some 8) (aa 5)])),aV (aj (aH .isN (aa 5) gN)) #v[aR (aA false #[gS "told"])] aJ,aV (cT (aj (aH .ne (xr (aa 7)) (gI 1))) (cT (aj (tQ 2 6 (aa 5))) (bG (aj (dt none (aa 5)))))) #v[aR (aA false #[gS "odd"])] aJ,ax (.one 8) (aF (aA false #[gS "machine",gS "row",gS "long",gS "bound",gS "many"]) (xq (aa 7))),aR (gj (aj (aH .eq (aa 8) (gS "row"))) (aA false #[aa 8,tS "place" (aa 5)]) (aA false #[aa 8]))]
def jB (c:Call):GS:=#v[ax (.one 2) (ai 35 c #[aa 0,aa 1,gI 12]),ax (.one 3) (ai 31 c #[aa 0,ah false .add (aX .len #[aa 2]) (gI 1)]),ax (.one 4) (aF (aA false #[aX .len #[aF (aa 1) (gI 2)],dw (gI 1),vJ,gN,gS "0",aU #[gI 0],aA false #[gI 0],ah false .pow (gI 10) (gI 20)]) (ai 31 c #[aa 0,gI 8])),ax (.one 5) (ah false .add (gI 13) (ai 31 c #[aa 0,gI 28])),ax (.one 6) (ah false .add (ah false .add (bZ false false true (aa 2) gN (aa 3)) (aA false #[aa 4])) (bZ false true false (aa 2) (aa 3) gN)),ax (.one 7) (aA false #[aU #[aa 6,aA false #[gS "row",aa 3]],aU #[ah false .add (aa 6) (aA false #[dw (gI 1)]),aA false #[gS "row",aa 3]],aU #[ah false .add (ah false .mul (aA false #[gI 0]) (gI 41)) (aA false #[aa 4]),aA false #[gS "row",gI 41]],aU #[ah false .mul (aA false #[gI 0]) (aa 5),aA false #[gS "long"]]]),aR (ah false .add (aa 7) (aA false #[aU #[ah false .mul (aA false #[gI 0]) (ah false .add (gI 41) (aa 3)),aA false #[gS "long"]],aU #[aX .tuple #[aa 2],aA false #[gS "row",gI 0]],aU #[gN,aA false #[gS "row",gI 0]]]))]
def Dx (c:Call):GS:=#v[aV (aj (aH .ne (ai 235 c #[aa 9,aa 7,aa 10,aF (aA false #[aa 5,aa 6]) (ah false .mod (aa 4) (gI 2)),aa 4]) (aa 11))) rF aJ,aV (dM (bG (aj (ai 71 c #[aa 8]))) (aj (aH .ne (ai 235 c #[aa 9,aa 8,aa 10,aa 6,aa 4]) (aA false #[gS "machine"])))) rF aJ]
def zK (c:Call):GS:=#v[d8 (.tup [10,11]) (dv (ai 236 c #[aa 1,aa 7])) (Dx c),aV (dM (bG (aj (ai 71 c #[aa 8]))) (aj (aH .ne (ai 235 c #[aa 9,aa 8,aA false ba,aa 5,gI 0]) (aA false #[gS "machine"])))) rF aJ,ax (.one 12) (ai 35 c #[aa 1,aa 7,gI 12]),aV (aj (aH .ne (ai 235 c #[aa 9,aa 7,aa 12,aa 6,aa 4]) (aA false #[gS "bound"]))) rF aJ]
def yw (c:Call):GS:=#v[ax (.one 4) (ai 31 c #[aa 1,gI 3]),ax (.one 5) (ah false .add (gI 1) (ai 31 c #[aa 1,gI 6])),ax (.one 6) (aF (aA false #[gI 0,gI 7,dw (gI 1),vJ,gN,gS "1",aU #[gI 1],ah false .pow (gI 10) (gI 20)]) (ai 31 c #[aa 1,gI 8])),ax (.one 7) (ai 160 c #[ai 30 c #[aa 1],aa 3]),ax (.one 8) (ai 72 c #[aa 1,aa 7,gI 5]),d8 (.one 9) (eh (gI 2)) (zK c),aV (cT (aj (aH .ne (ai 235 c #[gI 1,aa 7,aa 12,aa 5,aa 4]) (aA false #[gS "told"]))) (aj (aH .ne (ai 235 c #[gI 1,aa 2,aA false #[gI 0],aa 5,aa 4]) (aA false #[gS "told"])))) rF aJ]
def JL (c:Call):GS:=#v[aV (aj (aH .ne (ai 235 c #[gI 0,aa 2,aa 10,aa 5,gI 0]) (aa 11))) rF aJ]
def my (c:Call):GS:=#v[ax (.one 1) (ai 29 c #[aa 0]),ax (.one 2) (ai 161 c #[ai 30 c #[aa 1]]),d8 (.one 3) (eh (gI 4)) (yw c),d8 (.tup [10,11]) (dv (ah false .add (ai 236 c #[aa 1,aa 2]) (aA false #[aU #[aA false ba,aA false #[gS "many"]],aU #[aA false #[gI 0],aA false #[gS "many"]]]))) (JL c),aR (aH .eq (ai 235 c #[gI 0,aa 2,aA false #[gI 0],aa 6,gI 0]) (aA false #[gS "bound"]))]
@[simp] theorem a8 {h j:Type}{r:Res h}{f:h->Mem->Res j}{k:j->Mem->Prop}:af (r.bind f) k↔af r λa M=>af (f a M) k:=by cases r<;>rfl
@[simp] theorem bU {h:Type}{a:h}{k:h->Mem->Prop}:af (.ok a M) k↔k a M:=Qo
@[simp] theorem Pw {h:Type}{k:h->Mem->Prop}:af (.bad:Res h) k↔False:=Qo
@[simp] theorem f6 {h:Type}{M:Mem}{o:Option h}{k:h->Mem->Prop}:af (bV M o) k↔∃a,o=some a/\k a M:=by cases o<;>simp[bV]
def i6 {j:Type}{r:Res j}{k:j->Mem->Prop}:af r k↔∃a M,r=.ok a M/\k a M:=by
 cases r with
 |ok a M=>exact{λh=>⟨a,M,rfl,h⟩,λ⟨_,_,e,h⟩=>by cases e;exact h}
 |err=>simp[af]
 |bad=>simp[af]
def qc (j:aq 64 (view M x)=true)(B:aq 64 (view M y)=true)(h:bH (view M x) (view M y)=v):bp .eq x y M=some v:=by
 have e:oy (view M x) (view M y)=some v:=by unfold oy;rw[j,B,h];simp
 show lL M x y=_;unfold lL;rw[e]
def qb (j:aq 64 (view M x)=true)(B:aq 64 (view M y)=true)(h:bH (view M x) (view M y)=v):bp .ne x y M=some (!v):=by
 show(bp .eq x y M).map (!·)=_;rw[qc j B h];rfl
section
variable{Z:Env}{M:Mem}{a b d lo hi:GE}{s:GA}{t u:GT}{k:D->Mem->Prop}{c:Call}
@[simp] theorem bh {i:Nat}:af (aa i Z M) k↔∃d,Z[i]?.getD none=some d/\k d M:=by simp[aa]
@[simp] theorem cV {d:D}:af (gC d Z M) k↔k d M:=Qo
@[simp] theorem dg {m:Bool}{o:rj}:af (ah m o a b Z M) k↔af (a Z M) λx M=>af (b Z M) λy M=>af (fi m o x y M) k:=by simp[ah]
@[simp] theorem eY {o:jv}:af (aH o a b Z M) k↔af (a Z M) λx M=>af (b Z M) λy M=>∃v,bp o x y M=some v/\k (.bl v) M:=by simp[aH]
@[simp] theorem PX {o h:jv}:af (iU o h a b d Z M) k↔af (a Z M) λx M=>af (b Z M) λy M=>∃v,bp o x y M=some v/\if v=true then af (d Z M) λz M=>∃v,bp h y z M=some v/\k (.bl v) M else k (.bl false) M:=by
 simp only[iU,a8,f6];refine iff_of_eq ?_
 congr 1;funext x M;congr 1;funext y M;refine propext (exists_congr λv=>and_congr_right λ_=>?_)
 cases v<;>simp
@[simp] theorem rS:af (dw a Z M) k↔af (a Z M) λx M=>∃i,x=.int i/\k (.int (-i)) M:=by
 simp only[dw,a8];refine iff_of_eq ?_;congr 1;funext x M;cases x<;>simp
set_option tactic.hygienic true in
@[simp] theorem Eo:af (d9 a b Z M) k↔af (a Z M) λx M=>∃v,x=.bl v/\if v=true then af (b Z M) k else k (.bl false) M:=by
 simp only[d9,a8];refine iff_of_eq ?_;congr 1;funext x M;cases x<;>simp;rename_i v;cases v<;>simp
@[simp] theorem Mf:af (gj t a b Z M) k↔af (t Z M) λv M=>if v=true then af (a Z M) k else af (b Z M) k:=by
 simp only[gj,a8];refine iff_of_eq ?_;congr 1;funext v M;cases v<;>simp
@[simp] theorem ji:af (aF a b Z M) k↔af (a Z M) λx M=>af (b Z M) λy M=>∃d,da x y M=some d/\k d M:=by simp[aF]
@[simp] theorem gX {m hl hh:Bool}:af (bZ m hl hh a lo hi Z M) k↔af (a Z M) λx M=>af (lo Z M) λl M=>af (hi Z M) λh M=>b7 hl l=true/\b7 hh h=true/\af (dU m x l h M) k:=by
 simp only[bZ,a8];refine iff_of_eq ?_
 congr 1;funext x M;congr 1;funext l M;congr 1;funext h M
 cases b7 hl l<;>cases b7 hh h<;>simp
@[simp] theorem bS {k:List D->Mem->Prop}:af (ba Z M) k↔k [] M:=Qo
@[simp] theorem bA {k:List D->Mem->Prop}:af (aM a s Z M) k↔af (a Z M) λx M=>af (s Z M) λxs M=>k (x::xs) M:=by simp[aM]
@[simp] theorem gm:af (aU s Z M) k↔af (s Z M) λxs M=>xs.length<=sz/\k (.tup xs) M:=by
 simp only[aU,a8];refine iff_of_eq ?_;congr 1;funext xs M;unfold ko;split<;>simp[*]
def sP {m:Bool}{xs:List D}:af (bt m xs M) k↔xs.length<=sz/\if m=true then k (.cell M.length) (M++[xs]) else k (.lst xs) M:=by
 unfold bt;cases m<;>split<;>simp[*]
@[simp] theorem bF {xs:List D}:af (bt false xs M) k↔xs.length<=sz/\k (.lst xs) M:=by simp[sP]
@[simp] theorem vf {xs:List D}:af (bt true xs M) k↔xs.length<=sz/\k (.cell M.length) (M++[xs]):=by simp[sP]
@[simp] theorem oA {m:Bool}:af (aA m s Z M) k↔af (s Z M) λxs M=>af (bt m xs M) k:=by simp[aA]
@[simp] theorem gn {f:Nat}:af (ai f c s Z M) k↔af (s Z M) λds M=>af (c f ds M) k:=by simp[ai]
@[simp] theorem vP {i:Nat}:af (lI i c s Z M) k↔∃f,Z[i]?.getD none=some (.fn f)/\af (s Z M) λds M=>af (c f ds M) k:=by
 unfold lI;cases e:Z[i]?.getD none with
 |none=>simp
 |some d=>cases d<;>simp
@[simp] theorem du {f:uI}:af (aX f s Z M) k↔af (s Z M) λds M=>af (fM f ds M) k:=by simp[aX]
@[simp] theorem Ac {t:Ty}:af (cw t a Z M) k↔af (a Z M) λx M=>∃v,cj t x=some v/\k (.bl v) M:=by simp[cw]
@[simp] theorem Ad {fs:List (Str×Nat)}:af (kC fs a Z M) k↔af (a Z M) λx M=>∃y f,x=.str y/\fs.lookup y=some f/\k (.fn f) M:=by
 simp only[kC,a8];refine iff_of_eq ?_;congr 1;funext x M;cases x<;>simp;exact{(by rintro⟨_,⟨f,h,e⟩,q⟩;exact{f,h,e ▸ q}),(by rintro⟨f,h,q⟩;exact{_,⟨f,h,rfl⟩,q})}
set_option tactic.hygienic true in
@[simp] theorem GI {m:Bool}:af (lG m a Z M) k↔af (a Z M) λx M=>∃n,x=.int n/\(-(2^62)<=n/\n<2^20)/\af (bt m ((List.range n.toNat).map λ(k:Nat)=>D.int (k:Int)) M) k:=by
 simp only[lG,a8];refine iff_of_eq ?_;congr 1;funext x M;cases x<;>simp;rename_i n;split<;>simp[*]
variable{kb:Bool->Mem->Prop}
@[simp] theorem i4:af (aj a Z M) kb↔af (a Z M) λx M=>∃v,jx M x=some v/\kb v M:=by simp[aj]
@[simp] theorem Li:af (dM t u Z M) kb↔af (t Z M) λv M=>if v=true then af (u Z M) kb else kb false M:=by
 simp only[dM,a8];refine iff_of_eq ?_;congr 1;funext v M;cases v<;>simp
@[simp] theorem NJ:af (cT t u Z M) kb↔af (t Z M) λv M=>if v=true then kb true M else af (u Z M) kb:=by
 simp only[cT,a8];refine iff_of_eq ?_;congr 1;funext v M;cases v<;>simp
@[simp] theorem Lh:af (bG t Z M) kb↔af (t Z M) λv M=>kb (!v) M:=by simp[bG]
variable{kf:Fl->Mem->Prop}{sa sb:GS}
def ik (b:GS)(k:Fl->Mem->Prop):Fl->Mem->Prop
 |.next Z,M=>af (b Z M) k
 |.ret d,M=>k (.ret d) M
 |.exc x Z,M=>k (.exc x Z) M
@[simp] theorem NI {b:GS}{x:D}:ik b kf (.exc x Z) M↔kf (.exc x Z) M:=Qo
@[simp] theorem bY {b:GS}:ik b kf (.next Z) M↔af (b Z M) kf:=Qo
@[simp] theorem Bb {b:GS}{d:D}:ik b kf (.ret d) M↔kf (.ret d) M:=Qo
@[simp] theorem av:af (bg sa sb Z M) kf↔af (sa Z M) (ik sb kf):=by
 simp only[bg,a8];refine iff_of_eq ?_;congr 1;funext fl M;cases fl<;>rfl
@[simp] theorem la:af (aJ Z M) kf↔kf (.next Z) M:=Qo
@[simp] theorem fo {i:Nat}:af (ax (.one i) a Z M) kf↔af (a Z M) λx M=>kf (.next (Z.set i (some x))) M:=by simp[ax,b4]
@[simp] theorem Pf {l:List Nat}:af (ax (.tup l) a Z M) kf↔af (a Z M) λx M=>∃ds ρ1,x=.tup ds/\fm l ds Z=some ρ1/\kf (.next ρ1) M:=by
 simp only[ax,a8,f6,bU];refine iff_of_eq ?_;congr 1;funext x M;cases x<;>simp[b4]
@[simp] theorem Ib:af (fK a b d Z M) kf↔af (d Z M) λz M=>af (a Z M) λx M=>af (b Z M) λy M=>∃j n ds i,x=.cell j/\y=.int n/\M[j]?=some ds/\bO ds.length n=some i/\kf (.next Z) (M.set j (ds.set i z)):=by
 simp only[fK,a8];refine iff_of_eq ?_
 congr 1;funext z M;congr 1;funext x M;congr 1;funext y M
 cases x with
 | cell j=>
   cases y with
   | int n=>
     cases e:M[j]? with
     |none=>simp[e]
     | some ds=>
       cases e2:bO ds.length n with
       |none=>simp[e,e2]
       |some i=>simp[e,e2]
   |_=>simp
 |_=>simp
set_option tactic.hygienic true in
@[simp] theorem Ig:af (km a d Z M) kf↔af (a Z M) λx M=>af (d Z M) λz M=>∃j ds,x=.cell j/\M[j]?=some ds/\ds.length<sz/\kf (.next Z) (M.set j (ds++[z])):=by
 simp only[km,a8];refine iff_of_eq ?_
 congr 1;funext x M;congr 1;funext z M
 cases x<;>simp;rename_i j;cases e:M[j]? with
 |none=>simp
 |some ds=>by_cases h:ds.length<sz<;>simp[h]
@[simp] theorem bR:af (aR a Z M) kf↔af (a Z M) λx M=>kf (.ret x) M:=by simp[aR]
@[simp] theorem OR:af (Dv Z M) kf↔kf (.ret .non) M:=Qo
@[simp] theorem OS:af (Dw Z M) kf↔kf (.next Z) M:=Qo
@[simp] theorem Pe:af (c6 Z M) kf↔False:=Qo
@[simp] theorem hG:af (aV t sa sb Z M) kf↔af (t Z M) λv M=>if v=true then af (sa Z M) kf else af (sb Z M) kf:=by
 simp only[aV,a8];refine iff_of_eq ?_;congr 1;funext v M;cases v<;>simp
variable{kw:Walk->Mem->Prop}
set_option tactic.hygienic true in
@[simp] theorem g7:af (eh a Z M) kw↔af (a Z M) λx M=>∃n,x=.int n/\(-(2^62)<=n/\n<2^62)/\kw (λ_=>some ((List.range n.toNat).map λ(k:Nat)=>D.int (k:Int))) M:=by
 simp only[eh,a8];refine iff_of_eq ?_;congr 1;funext x M;cases x<;>simp;rename_i n;split<;>simp[*]
@[simp] theorem gU:af (dv a Z M) kw↔af (a Z M) λx M=>kA x=true/\kw (λM=>cE M x) M:=by
 simp only[dv,a8];refine iff_of_eq ?_;congr 1;funext x M;cases x<;>simp[kA]<;>rfl
@[simp] theorem ya:af (iw a Z M) kw↔af (a Z M) λx M=>kA x=true/\kw (λM=>(cE M x).map (dX 0)) M:=by
 simp only[iw,a8];refine iff_of_eq ?_;congr 1;funext x M;split<;>simp[*]
def ia (k:D->Mem->Prop):Fl->Mem->Prop
 |.ret d,M=>k d M
 |.next _,M=>k .non M
 |.exc _ _,_=>False
@[simp] theorem OV {d:D}:ia k (.ret d) M↔k d M:=Qo
@[simp] theorem Oy:ia k (.next Z) M↔k .non M:=Qo
def aC {d:Df}{ds:List D}(e:P f=some d)(hl:ds.length=d.params)(h:af (d.body (ag P n) (ds.map some++List.replicate (d.slots-ds.length) none) M) (ia k)):af (ag P (n+1) f ds M) k:=by
 show af (match P f with|none=>Res.bad|some d=>fL (ag P n) d ds M) k
 rw[e];show af (fL (ag P n) d ds M) k;unfold fL;rw[if_pos hl];revert h;cases d.body (ag P n) (ds.map some++List.replicate (d.slots-ds.length) none) M with
 |ok fl M=>cases fl<;>exact id
 |err=>exact id
 |bad=>exact id
@[simp] theorem Jj {h:Type}{a:h}{k:h->Mem->Prop}{j:D->Mem->Prop}:dG (.ok a M) k j↔k a M:=Qo
@[simp] theorem F0 {h:Type}{x:D}{k:h->Mem->Prop}:dG (.err x M:Res h) k kx↔kx x M:=Qo
def xu (k h:D->Mem->Prop):Fl->Mem->Prop
 |.ret d,M=>k d M
 |.next _,M=>k .non M
 |.exc x _,M=>h x M
def cq {d:Df}{j:D->Mem->Prop}(e:P f=some d)(hl:ds.length=d.params)(h:af (d.body (ag P n) (ds.map some++List.replicate (d.slots-ds.length) none) M) (xu k j)):dG (ag P (n+1) f ds M) k j:=by
 show dG (match P f with|none=>Res.bad|some d=>fL (ag P n) d ds M) k j
 rw[e];show dG (fL (ag P n) d ds M) k j;unfold fL;rw[if_pos hl];revert h;cases d.body (ag P n) (ds.map some++List.replicate (d.slots-ds.length) none) M with
 |ok fl M=>cases fl<;>exact id
 |err=>exact id
 |bad=>exact id
def dC {j:Type}{r:Res j}{x:D}{M':Mem}(h:dG r (λ_ _=>False) λy M=>y=x/\M=M'):r=.err x M':=by
 cases r with
 |ok=>exact h.elim
 |err y M=>obtain⟨rfl,rfl⟩:=h;rfl
 |bad=>exact h.elim
@[simp] theorem PN {d:D}{h:D->Mem->Prop}:xu k h (.ret d) M↔k d M:=Qo
@[simp] theorem OU {h:D->Mem->Prop}:xu k h (.next Z) M↔k .non M:=Qo
@[simp] theorem PQ:xu k kx (.exc x Z) M↔kx x M:=Qo
@[simp] theorem OO {f:Nat}:dG (bL f c s Z M) k kx↔af (s Z M) λds M=>dG (c f ds M) k kx:=by
 unfold bL;cases s Z M<;>rfl
@[simp] theorem fY:af (eF a Z M) kf↔dG (a Z M) (λ_ M=>kf (.next Z) M) (λx M=>kf (.exc x Z) M):=by
 unfold eF;cases a Z M<;>rfl
@[simp] theorem Bz {i:Nat}:af (eE i s Z M) kf↔af (s Z M) λds M=>ds.length<=sz/\kf (.exc (.exc i none) Z) M:=by
 unfold eE;cases s Z M with
 |ok ds j=>by_cases h:ds.length<=sz<;>simp[h]
 |err=>exact Qo
 |bad=>exact Qo
def Cy (i:Nat)(kf:Fl->Mem->Prop):Fl->Mem->Prop
 |.next Z,M=>kf (.next (Z.set i none)) M
 |.ret d,M=>kf (.ret d) M
 |.exc _ _,_=>False
def A8 (i:Nat)(h:GS)(kf:Fl->Mem->Prop):Fl->Mem->Prop
 |.exc x Z,M=>af (h (Z.set i (some x)) M) (Cy i kf)
 |fl,M=>kf fl M
set_option tactic.hygienic true in
@[simp] theorem yR {i:Nat}{h:GS}:af (sv sa i h Z M) kf↔af (sa Z M) (A8 i h kf):=by
 simp only[sv,a8];refine iff_of_eq ?_;congr 1;funext fl M;cases fl with
 | exc x Z=>
   show af ((h (Z.set i (some x)) M).bind (Hs i)) kf=af (h (Z.set i (some x)) M) (Cy i kf);simp only[a8];congr 1;funext fl M;cases fl<;>rfl
 |next Z=>rfl
 |ret d=>rfl
def dS {v:Type}{f:v->D->Mem->Res v}{w:Walk}{ds:List D}{a:v}{k:v->Mem->Prop}(I:Nat->v->Mem->Prop)(F:∀i a M,I i a M->w M=some ds)(E:I 0 a M)
 (hs:∀i d a M,ds[i]?=some d->I i a M->af (f a d M) (I (i+1))) (hk:∀a M,I ds.length a M->k a M):af (cQ f w a M) k:=by
 have B:∀(m i:Nat) (a:v) (M:Mem),ds.length-i<m->i<=ds.length->I i a M->af (fB f w m i a M) k:=by
  intro m;induction m with
  |zero=>intro i a M h;exact absurd h (Nat.not_lt_zero _)
  | succ m O=>
    intro i a M h hi y;show af (match w M with|none=>Res.bad|some ds=>match ds[i]? with|none=>Res.ok a M|some d=>(f a d M).bind (fB f w m (i+1))) k
    rw[F i a M y];dsimp only;by_cases j:i<ds.length
    ·rw[PB j];simp only[a8];exact aD (hs i ds[i] a M (PB j) y) λJ H L=>O (i+1) J H `a j L
    ·have e:i=ds.length:=`a
     subst e;rw[QV (O4 _)];exact hk a M y
 unfold cQ;rw[F 0 a M E];exact B _ 0 a M `s (Q1 _) E
def gP {t:fw}{w:Walk}{v:GS}{ds:List D}(I:Nat->Env->Mem->Prop)(B:∀i Z M,I i Z M->w M=some ds)(y:I 0 Z M)
 (hs:∀i d Z M,ds[i]?=some d->I i Z M->∃ρ1,b4 t d Z=some ρ1/\af (v ρ1 M) λfl M=>∃ρ',fl=.next ρ'/\I (i+1) ρ' M) (hk:∀Z M,I ds.length Z M->kf (.next Z) M):af (cQ (fy t v) w (.next Z) M) kf:=by
 refine dS (λi fl M=>∃Z,fl=.next Z/\I i Z M) ((by rintro i fl M ⟨Z,_,h⟩;exact B i Z M h)) ⟨Z,rfl,y⟩ ?_ ?_
 ·rintro i d fl M hd ⟨Z,rfl,j⟩;obtain⟨ρ1,e,h⟩:=hs i d Z M hd j;simp only[fy,a8,f6,e];exact⟨ρ1,rfl,h⟩
 ·rintro fl M ⟨Z,rfl,j⟩;exact hk Z M j
@[simp] theorem fX {j:fw}{w:GW}{h:GS}:af (d8 j w h Z M) kf↔af (w Z M) λw M=>af (cQ (fy j h) w (.next Z) M) kf:=by simp[d8]
@[simp] theorem eK {m:Bool}{n:Nat}{h:fw}{w:GW}{g:GB}:af (cn m n h w g Z M) k↔af (w Z M) λw M=>af (cQ (cU h g (List.replicate n none++Z)) w [] M) λacc M=>af (bt m acc M) k:=by simp[cn]
variable{kl:List D->Mem->Prop}
@[simp] theorem EA {ge:GE}{acc:List D}:af (cg ge Z acc M) kl↔af (ge Z M) λx M=>acc.length<sz/\kl (acc++[x]) M:=by
 simp only[cg,a8];refine iff_of_eq ?_;congr 1;funext x M;split<;>simp[*]
def comp_map {v:fw}{w:Walk}{ge:GE}{ds:List D}{j:Env}(I:Nat->List D->Mem->Prop)(hz:ds.length<=sz)(E:∀i acc M,I i acc M->w M=some ds)(y:I 0 [] M)
 (hs:∀i d acc M,ds[i]?=some d->acc.length=i->I i acc M->∃ρ1,b4 v d j=some ρ1/\af (ge ρ1 M) λx M=>I (i+1) (acc++[x]) M) (hk:∀acc M,acc.length=ds.length->I ds.length acc M->kl acc M) :
 af (cQ (cU v (cg ge) j) w [] M) kl:=by
 refine dS (λi acc M=>acc.length=i/\I i acc M) (λi acc M h=>E i acc M h.2) ⟨rfl,y⟩ ?_ (λacc M h=>hk acc M h.1 h.2);rintro i d acc M hd ⟨hl,B⟩;obtain⟨ρ1,e,h⟩:=hs i d acc M hd hl B;have hi:i<ds.length:=(O1.mp hd).1;simp only[cU,a8,f6,e,EA];exact{ρ1,rfl,aD h λx M h=>{`a,by simp[hl],h}}
end
def az {M:Mem}(j:t Z M=.ok false M)(h:af (rest Z M) k):af (bg (aV t A aJ) rest Z M) k:=by
 simp only[av,hG];rw[j];exact h
def bB {k:Fl->Mem->Prop}(j:t Z M=.ok true M)(he:e Z M=.ok v M)(h:k (.ret v) M):af (bg (aV t #v[aR e] aJ) rest Z M) k:=by
 simp only[av,hG,bR];rw[j];show af (e Z M) _;rw[he];exact h
def bC {v:D}(he:e Z M=.ok v M)(h:k (.ret v) M):af (#v[aR e] Z M) k:=by
 simp only[av,bR];rw[he];exact h
def cy (e:r=.ok (.ret v) M):af r (ia λx M'=>x=v/\M'=M):=by rw[e];exact⟨rfl,rfl⟩
structure HasB0 (P:Nat->Option Df):Prop where
 is_between:P 0=some {3,3,gr}
 is_word:P 1=some {2,2,jq}
 is_place:P 2=some {2,2,iB}
 is_cost:P 3=some {1,1,jr}
 is_tuple_of:P 4=some {2,2,fE}
 is_table:P 5=some {2,2,iA}
 is_double_table:P 6=some {2,2,dI}
 is_turn:P 7=some {3,6,fT}
 is_join:P 8=some {3,7,fV}
 is_move:P 9=some {3,6,fU}
 is_put:P 10=some {3,6,gQ}
 is_deed:P 11=some {3,5,dD}
 is_machine:P 12=some {1,4,iX}
 need_machine:P 13=some {1,1,fb}
structure HasM0 (P:Nat->Option Df):Prop extends HasB0 P where
 is_deed_number:P 16=some {2,2,fN}
 need_numbers:P 17=some {2,4,e9}
 need_row:P 18=some {2,2,oP}
structure HasM (P:Nat->Option Df):Prop extends HasM0 P where
 turned:P 20=some {2,6,kK}
 joined:P 21=some {2,7,ny}
 moved:P 22=some {2,6,qe}
 put_in:P 23=some {2,6,nv}
 done:P 24=some {2,4,oQ}
 all_standing:P 25=some {3,5,qf}
structure HasP0 (P:Nat->Option Df):Prop where
 law_spread:P 28=some {2,6,kT}
 law_open:P 29=some {1,4,jC}
 law_anew:P 30=some {1,1,jD}
 law_take:P 31=some {2,5,mG}
structure HasP (P:Nat->Option Df):Prop extends HasP0 P where
 law_tab:P 32=some {2,6,iC}
 law_deed:P 33=some {3,7,gY}
 law_machine:P 34=some {4,8,fc}
instance coeHasB0 {P:Nat->Option Df}:Coe (HasM0 P) (HasB0 P):=⟨HasM0.toHasB0⟩
instance coeHasBM {P:Nat->Option Df}:Coe (HasM P) (HasB0 P):={λh=>h.toHasM0.toHasB0}
structure kQ (P:Nat->Option Df):Prop where
 turned:P 20=some {2,6,kK}
 joined:P 21=some {2,7,ny}
 moved:P 22=some {2,6,qe}
 put_in:P 23=some {2,6,nv}
 done:P 24=some {2,4,oQ}
def HasM.r {P:Nat->Option Df}(h:HasM P):kQ P:=⟨h.turned,h.joined,h.moved,h.put_in,h.done⟩
instance coeHasR0 {P:Nat->Option Df}:Coe (HasM P) (kQ P):=⟨HasM.r⟩
instance coeHasM {P:Nat->Option Df}:Coe (HasM P) (HasM0 P):=⟨HasM.toHasM0⟩
instance coeHasP {P:Nat->Option Df}:Coe (HasP P) (HasP0 P):=⟨HasP.toHasP0⟩
@[simp] theorem PV {d:Option D}{r:Env}:(d::r)[0]?.getD none=d:=rfl
section
variable{M:Mem}{k:D->Mem->Prop}
def nZ {j:Type}{c:Prop}[Decidable c]{r:Res j}{k:j->Mem->Prop}:af (if c then r else .bad) k↔c/\af r k:=by split<;>simp[*]
@[simp] theorem d7 {m:Bool}{i j:Int}:af (fi m .add (.int i) (.int j) M) k↔k (.int (i+j)) M:=Qo
@[simp] theorem yE {m:Bool}{i j:Int}:af (fi m .sub (.int i) (.int j) M) k↔k (.int (i-j)) M:=Qo
@[simp] theorem Pz {m:Bool}{i j:Int}:af (fi m .mod (.int i) (.int j) M) k↔0<j/\k (.int (i % j)) M:=nZ
@[simp] theorem oR {m:Bool}{x y:List D}:af (fi m .add (.tup x) (.tup y) M) k↔(x++y).length<=sz/\k (.tup (x++y)) M:=by
 show af (ko _ _) k↔_;unfold ko;exact nZ
@[simp] theorem uy {m:Bool}{x y:List D}:af (fi m .add (.lst x) (.lst y) M) k↔af (bt m (x++y) M) k:=Qo
@[simp] theorem OW {i j:Int}:bp .lt (.int i) (.int j) M=some (decide (i<j)):=rfl
@[simp] theorem OX {i j:Int}:bp .le (.int i) (.int j) M=some (decide (i<=j)):=rfl
@[simp] theorem OY {i j:Int}:bp .gt (.int i) (.int j) M=some (decide (j<i)):=rfl
@[simp] theorem OZ {i j:Int}:bp .ge (.int i) (.int j) M=some (decide (j<=i)):=rfl
@[simp] theorem PY {i j:Int}:bp .eq (.int i) (.int j) M=some (i==j):=rfl
@[simp] theorem MH {i j:Int}:bp .ne (.int i) (.int j) M=some (!(i==j)):=rfl
@[simp] theorem O6 {b:Bool}:jx M (.bl b)=some b:=rfl
@[simp] theorem OP {ds:List D}:jx M (.tup ds)=some (!ds.isEmpty):=rfl
@[simp] theorem OQ {ds:List D}:jx M (.lst ds)=some (!ds.isEmpty):=rfl
@[simp] theorem Gi {ds:List D}:af (fM .len [.tup ds] M) k↔k (.int ds.length) M:=Qo
@[simp] theorem Gj {ds:List D}:af (fM .len [.lst ds] M) k↔k (.int ds.length) M:=Qo
@[simp] theorem Hh {ds:List D}:af (fM .all [.lst ds] M) k↔∃bs,boolsOf ds=some bs/\k (.bl (bs.all id)) M:=by
 show af (match boolsOf ds with|some bs=>_|none=>_) k↔_
 cases boolsOf ds<;>simp
@[simp] theorem MX {ds:List D}:af (fM .tuple [.lst ds] M) k↔k (.tup ds) M:=Qo
@[simp] theorem wx {j:Nat}:af (fM .tuple [.cell j] M) k↔∃ds,M[j]?=some ds/\k (.tup ds) M:=by
 show af (match M[j]? with|some xs=>_|none=>_) k↔_
 cases M[j]?<;>simp
@[simp] theorem tq {m:Bool}{ds:List D}:af (fM (.list m) [.lst ds] M) k↔af (bt m ds M) k:=Qo
@[simp] theorem pM {ds:List D}{i:Int}:da (.tup ds) (.int i) M=(bO ds.length i).bind λj=>ds[j]?:=rfl
@[simp] theorem Gs {ds:List D}{i:Int}:da (.lst ds) (.int i) M=(bO ds.length i).bind λj=>ds[j]?:=rfl
@[simp] theorem Ou {j:Nat}{i:Int}:da (.cell j) (.int i) M=(M[j]?).bind λds=>(bO ds.length i).bind λj=>ds[j]?:=rfl
def eI {n i:Nat}(h:i<n):bO n (i:Int)=some i:=by
 unfold bO;rw[if_pos (Int.natCast_nonneg i),if_pos (by exact_mod_cast h)];rfl
end
def aT {j:Type}{r:Res j}{d:j}{M:Mem}(h:af r λx M'=>x=d/\M'=M):r=.ok d M:=by
 obtain⟨a,M',e,rfl,rfl⟩:=i6.mp h;exact e
def ak {r:Res D}{d:D}{M:Mem}(h:af r λx M'=>x=d/\M'=M):r=.ok d M:=by
 obtain⟨a,M',e,rfl,rfl⟩:=i6.mp h;exact e
def lN {B:fw}{w:Walk}{ge:GE}{ds:List D}{u:Env}{M:Mem}{y:List D->Mem->Prop}(f:D->D)(hz:ds.length<=sz)(E:w M=some ds)(hs:∀d∈ds,∃ρ1,b4 B d u=some ρ1/\ge ρ1 M=.ok (f d) M)(hk:y (ds.map f) M) :
 af (cQ (cU B (cg ge) u) w [] M) y:=by
 refine comp_map (λi j v=>v=M/\j=(ds.take i).map f) hz (λi j v h=>by rw[h.1];exact E) ⟨rfl,rfl⟩ ?_ ?_
 ·rintro i d j v hd _ ⟨rfl,rfl⟩;obtain⟨ρ1,e1,e2⟩:=hs d (PF hd);refine{ρ1,e1,?_};rw[e2];refine{rfl,?_};have F:i<ds.length:=(O1.mp hd).1;rw[Rj,hd];simp
 ·rintro j v _ ⟨rfl,rfl⟩;simpa using hk
abbrev nD (n:Nat):D:=.int (n:Int)
def aL (l:List Nat):D:=.tup (l.map nD)
inductive bb where
 |turn (at_:Nat) (tab:List Nat) (cost:Nat)
 |join (at_ other:Nat) (tab:List (List Nat)) (cost:Nat)
 |move (at_ other cost:Nat)
 |put (at_ word cost:Nat)
def bb.d:bb->D
 |.turn a t c=>.tup [.str "turn",nD a,aL t,nD c]
 |.join a o t c=>.tup [.str "join",nD a,nD o,.tup (t.map aL),nD c]
 |.move a o c=>.tup [.str "move",nD a,nD o,nD c]
 |.put a w c=>.tup [.str "put",nD a,nD w,nD c]
noncomputable def bb.cost:bb->Nat
 |.turn _ _ c=>c
 |.join _ _ _ c=>c
 |.move _ _ c=>c
 |.put _ _ c=>c
structure bf where
 words:Nat
 places:Nat
 deeds:List bb
noncomputable def bf.d (m:bf):D:=.tup [nD m.words,nD m.places,.tup (m.deeds.map bb.d)]
def fe (w:Nat)(t:List Nat):Prop:=t.length=w/\∀x∈t,x<w
def dR (c:Nat):Prop:=1<=c/\c<=3
def cP (w p:Nat):bb->Prop
 |.turn a t c=>a<p/\fe w t/\dR c
 |.join a o t c=>a<p/\o<p/\(t.length=w/\∀x∈t,fe w x)/\dR c
 |.move a o c=>a<p/\o<p/\dR c
 |.put a x c=>a<p/\x<w/\dR c
structure aO (m:bf):Prop where
 w2:2<=m.words
 w4:m.words<=4
 p1:1<=m.places
 p2:m.places<=2
 d1:1<=m.deeds.length
 d6:m.deeds.length<=6
 ok:∀d∈m.deeds,cP m.words m.places d
def aw {n:Nat}(h:n<=100000):n<=sz:=Pk h `d
def N9:cF.lookup (Str.ofString "turn")=some 7:=`k
def N8:cF.lookup (Str.ofString "join")=some 8:=`k
def N7:cF.lookup (Str.ofString "move")=some 9:=`k
def N6:cF.lookup (Str.ofString "put")=some 10:=`k
section
variable{Z:Env}{M:Mem}{a b:GE}{s:GA}{k:D->Mem->Prop}{kf:Fl->Mem->Prop}{t u:GT}{A rest:GS}
def aY {t rest:GS}{ρ':Env}(e:t Z M=.ok (.next ρ') M)(h:af (rest ρ' M) kf):af (bg t rest Z M) kf:=by
 simp only[av];rw[e];exact h
def ae {x:D}{xs:List D}(ea:a Z M=.ok x M)(es:s Z M=.ok xs M):aM a s Z M=.ok (x::xs) M:=by
 unfold aM;rw[ea];show(s Z M).bind _=_;rw[es];rfl
def ft {xs:List D}(es:s Z M=.ok xs M)(hl:xs.length<=100):aA false s Z M=.ok (.lst xs) M:=by
 unfold aA;rw[es];show(if xs.length<=sz then(if false=true then _ else Res.ok (D.lst xs) M) else .bad)=_;rw[if_pos (aw `a)]
 rfl
def bI {i:Nat}{x:D}(e:a Z M=.ok x M):ax (.one i) a Z M=.ok (.next (Z.set i (some x))) M:=by
 unfold ax;rw[e];rfl
def au {j:Nat}{x:D}(h:Z[j]?.getD none=some x):aa j Z M=.ok x M:=by
 unfold aa;rw[h];rfl
def aP {f:Nat}{c:Call}{xs:List D}(e:s Z M=.ok xs M):ai f c s Z M=c f xs M:=by
 unfold ai;rw[e];rfl
def oO {f i:Nat}{c:Call}{x:D}{r:Res D}(h:Z[i]?.getD none=some x)(e:c f [x] M=r):ai f c #[aa i] Z M=r:=(aP (ae (au h) rfl)).trans e
def iz {f i j:Nat}{c:Call}{x y:D}{r:Res D}(h:Z[i]?.getD none=some x)(h2:Z[j]?.getD none=some y)(e:c f [x,y] M=r):ai f c #[aa i,aa j] Z M=r:=(aP (ae (au h) (ae (au h2) rfl))).trans e
def bQ {i:Nat}(h:af (a Z M) k)(hk:∀x M',k x M'->af (rest (Z.set i (some x)) M') kf):af (bg (ax (.one i) a) rest Z M) kf:=by
 obtain⟨x,M',e,q⟩:=i6.mp h;simp only[av];unfold ax;rw[e];exact hk x M' q
def d5 (j:t Z M=.ok true M)(h:af (A Z M) (ik rest kf)):af (bg (aV t A aJ) rest Z M) kf:=by
 simp only[av,hG];rw[j];exact h
def bP {b:Bool}(h:t Z M=.ok b M)(h1:b=true->af (A Z M) (ik rest kf))(h2:b=false->af (rest Z M) kf):af (bg (aV t A aJ) rest Z M) kf:=by
 cases b with
 |true=>exact d5 h (h1 rfl)
 |false=>exact az h (h2 rfl)
def bu {b:Bool}(h:t Z M=.ok b M):bG t Z M=.ok (!b) M:=by
 unfold bG;rw[h];rfl
def bq {b:Bool}(h:a Z M=.ok (.bl b) M):aj a Z M=.ok b M:=by
 unfold aj;rw[h];rfl
def rH {x y:Bool}(h1:t Z M=.ok x M)(h2:u Z M=.ok y M):cT t u Z M=.ok (x||y) M:=by
 unfold cT;rw[h1];cases x with
 |true=>rfl
 |false=>exact h2
def AB {b:Bool}(h1:t Z M=.ok b M)(h2:b=true->u Z M=.ok false M):dM t u Z M=.ok false M:=by
 unfold dM;rw[h1];cases b with
 |true=>exact h2 rfl
 |false=>rfl
def j0 {x y:Bool}(h1:t Z M=.ok x M)(h2:u Z M=.ok y M):dM t u Z M=.ok (x&&y) M:=by
 unfold dM;rw[h1];cases x with
 |true=>exact h2
 |false=>rfl
def gx {x y:Bool}(h1:a Z M=.ok (.bl x) M)(h2:x=true->b Z M=.ok (.bl y) M):d9 a b Z M=.ok (.bl (x&&y)) M:=by
 unfold d9;rw[h1];cases x with
 |true=>exact h2 rfl
 |false=>rfl
def iH {k:Bool}{x:D}(h:t Z M=.ok k M)(h1:k=true->a Z M=.ok x M)(h2:k=false->b Z M=.ok x M):gj t a b Z M=.ok x M:=by
 unfold gj;rw[h];cases k with
 |true=>exact h1 rfl
 |false=>exact h2 rfl
def iu {j:Nat}{ds:List D}(e:Z[j]?.getD none=some (.tup ds)):aX .len #[aa j] Z M=.ok (nD ds.length) M:=by
 unfold aX;rw[ae (au e) rfl];rfl
def LU {i j:Int}(h1:a Z M=.ok (.int i) M)(h2:b Z M=.ok (.int j) M):aj (aH .ne a b) Z M=.ok (!(i==j)) M:=by
 refine bq ?_;unfold aH;rw[h1];show(b Z M).bind _=_;rw[h2];rfl
def ub {l h i:Int}{c:GE}(h1:a Z M=.ok (.int l) M)(h2:b Z M=.ok (.int i) M)(h3:c Z M=.ok (.int h) M):iU .le .le a b c Z M=.ok (.bl (decide (l<=i)&&decide (i<=h))) M:=by
 unfold iU;rw[h1];show(b Z M).bind _=_;rw[h2];show(if decide (l<=i)=true then _ else _)=_;cases decide (l<=i) with
 | true=>
   show(c Z M).bind _=_;rw[h3];rfl
 |false=>rfl
end
noncomputable def Th:Nat->Nat->D->Prop
 |_,_,.non=>True
 |_,_,.bl _=>True
 |_,_,.int _=>True
 |_,L,.str x=>x.cps.size<=L/\x.cps.all (· < 0x110000)=true
 |n+1,L,.tup j=>j.length<=L/\∀d∈j,Th n L d
 |n+1,L,.lst j=>j.length<=L/\∀d∈j,Th n L d
 |_,_,_=>False
theorem Th.mono:∀{n n' L j:Nat}{d:D},Th n L d->n<=n'->L<=j->Th n' j d
 |n,n',L,j,.non,_,_,_=>by cases n'<;>trivial
 |n,n',L,j,.bl _,_,_,_=>by cases n'<;>trivial
 |n,n',L,j,.int _,_,_,_=>by cases n'<;>trivial
 | n,n',L,j,.str x,h,_,l=>by
   have h:x.cps.size<=L/\x.cps.all (· < 0x110000)=true:=by cases n<;>exact h
   have:x.cps.size<=j/\x.cps.all (· < 0x110000)=true:={Pk h.1 l,h.2};cases n'<;>exact this
 |n+1,n'+1,L,j,.tup B,h,a,l=>{Pk h.1 l,λd hd=>Th.mono (h.2 d hd) (Nat.le_of_succ_le_succ a) l}
 |n+1,n'+1,L,j,.lst B,h,a,l=>{Pk h.1 l,λd hd=>Th.mono (h.2 d hd) (Nat.le_of_succ_le_succ a) l}
 |n+1,0,L,j,.tup B,h,a,l=>`a
 |n+1,0,L,j,.lst B,h,a,l=>`a
 |0,n',L,j,.tup B,h,a,l=>h.elim
 |0,n',L,j,.lst B,h,a,l=>h.elim
 |n,n',L,j,.frz _,h,_,_=>by cases n<;>exact h.elim
 |n,n',L,j,.cell _,h,_,_=>by cases n<;>exact h.elim
 |n,n',L,j,.fn _,h,_,_=>by cases n<;>exact h.elim
 |n,n',L,j,.exc _ _,h,_,_=>by cases n<;>exact h.elim
def Th.pure:∀{n L:Nat}{d:D},Th n L d->aq n d=true
 |n,L,.non,_=>by cases n<;>rfl
 |n,L,.bl _,_=>by cases n<;>rfl
 |n,L,.int _,_=>by cases n<;>rfl
 |n,L,.str x,h=>by cases n<;>exact h.2
 | n+1,L,.tup j,h=>by
   show j.all (aq n)=true;rw[Pm];exact λd hd=>(h.2 d hd).pure
 | n+1,L,.lst j,h=>by
   show j.all (aq n)=true;rw[Pm];exact λd hd=>(h.2 d hd).pure
 |0,L,.tup j,h=>h.elim
 |0,L,.lst j,h=>h.elim
 |n,L,.frz _,h=>by cases n<;>exact h.elim
 |n,L,.cell _,h=>by cases n<;>exact h.elim
 |n,L,.fn _,h=>by cases n<;>exact h.elim
 |n,L,.exc _ _,h=>by cases n<;>exact h.elim
def Th.view (h:Th n L d):view M d=d:=by
 cases d<;>first|rfl|(cases n<;>exact h.elim)
def Th.tup (h:Th n L (.tup ds)):ds.length<=L/\∀d∈ds,Th n L d:=by
 cases n with
 |zero=>exact h.elim
 |succ n=>exact{h.1,λd hd=>(h.2 d hd).mono (Rx n) (O4 L)}
noncomputable def aZ (lo hi:Int):D->Bool
 |.int i=>decide (lo<=i)&&decide (i<=hi)
 |_=>false
noncomputable def eD (w:Nat):D->Bool
 |.tup j=>j.length==w
 |_=>false
noncomputable def hZ (w:Nat):D->Bool
 |.tup j=>j.length==w&&j.all (aZ 0 ((w:Int)-1))
 |_=>false
noncomputable def jj (w:Nat):D->Bool
 |.tup j=>j.length==w&&j.all (hZ w)
 |_=>false
def i0 (w p:Nat):List D->Bool
 |[a,t,c]=>aZ 0 ((p:Int)-1) a&&(hZ w t&&aZ 1 3 c)
 |_=>false
def gW (w p:Nat):List D->Bool
 |[a,o,t,c]=>aZ 0 ((p:Int)-1) a&&(aZ 0 ((p:Int)-1) o&&(jj w t&&aZ 1 3 c))
 |_=>false
def iq (w p:Nat):List D->Bool
 |[a,o,c]=>aZ 0 ((p:Int)-1) a&&(aZ 0 ((p:Int)-1) o&&aZ 1 3 c)
 |_=>false
def lq (w p:Nat):List D->Bool
 |[a,x,c]=>aZ 0 ((p:Int)-1) a&&(aZ 0 ((w:Int)-1) x&&aZ 1 3 c)
 |_=>false
def cf (w p:Nat)(s:Str)(ds:List D):Bool:=
 if s="turn" then i0 w p ds else if s="join" then gW w p ds else if s="move" then iq w p ds else if s="put" then lq w p ds else false
def gp (w p:Nat):D->Bool
 |.tup (.str s::ds)=>cf w p s ds
 |_=>false
noncomputable def h9:D->Bool
 |.tup j=>decide (1<=j.length)&&decide (j.length<=6)
 |_=>false
noncomputable def tJ:D->List D
 |.tup j=>j
 |_=>[]
noncomputable def eJ:D->Nat
 |.int i=>i.toNat
 |_=>0
def mx (h:aZ lo hi d=true)(j:0<=lo):d=nD (eJ d)/\lo<=(eJ d:Int)/\(eJ d:Int)<=hi:=by
 cases d with
 | int i=>
   simp[aZ] at h;refine{?_,?_}
   ·show D.int i=D.int ((i.toNat:Nat):Int);rw[Int.toNat_of_nonneg `a]
   ·show lo<=((i.toNat:Nat):Int)/\((i.toNat:Nat):Int)<=hi;rw[Int.toNat_of_nonneg `a]
    exact h
 |_=>cases h
def eX:D->Bool
 |.tup [a,b,c]=>aZ 2 4 a&&(aZ 1 2 b&&(h9 c&&(tJ c).all (gp (eJ a) (eJ b))))
 |_=>false
def tf (h:eD 3 d=false):eX d=false:=by
 match d,h with
 |.tup [a,b,c],h=>cases h
 |.tup [],_=>rfl
 |.tup [_],_=>rfl
 |.tup [_,_],_=>rfl
 |.tup (_::_::_::_::r),_=>rfl
 |.non,_=>rfl
 |.bl _,_=>rfl
 |.int _,_=>rfl
 |.str _,_=>rfl
 |.lst _,_=>rfl
 |.frz _,_=>rfl
 |.cell _,_=>rfl
 |.fn _,_=>rfl
 |.exc _ _,_=>rfl
def Js:∀{b:Bool},(!b)=true->b=false:=`d
def Jt:∀{b:Bool},(!b)=false->b=true:=`d
section
variable{Z:Env}{M:Mem}{a b:GE}{t u:GT}{x y:D}{v:Bool}
def lY (h:t Z M=.ok true M):cT t u Z M=.ok true M:=by unfold cT;rw[h];rfl
def fA (h:t Z M=.ok false M)(h2:u Z M=.ok v M):cT t u Z M=.ok v M:=by unfold cT;rw[h];exact h2
def vZ (h1:a Z M=.ok x M)(h2:b Z M=.ok y M)(h3:bp o x y M=some v):aH o a b Z M=.ok (.bl v) M:=by
 unfold aH;rw[h1];show(b Z M).bind _=_;rw[h2];show(bV M (bp o x y M)).bind _=_;rw[h3];rfl
def pL {t:Ty}(h1:a Z M=.ok x M)(h2:cj t x=some v):cw t a Z M=.ok (.bl v) M:=by
 unfold cw;rw[h1];show(bV M (cj t x)).bind _=_;rw[h2];rfl
end
def LL:∀{x y:Bool},(!x||!y)=true->(x&&y)=false:=`d
def Jp:∀{x y:Bool},(!x||!y)=false->x=true/\y=true:=`d
def xo {Z:Env}{M:Mem}{j:Nat}{x:D}{ds:List D}(h:Z[j]?.getD none=some (.tup (x::ds))):aF (aa j) (gI 0) Z M=.ok x M:=by
 unfold aF;rw[au h];show bV M ((bO (ds.length+1) 0).bind λj=>(x::ds)[j]?)=_;rw[show bO (ds.length+1) 0=some 0 by simp[bO]]
 rfl
def Lg (h:Z[j]?.getD none=some (.tup (x::ds))):bZ false true false (aa j) (gI 1) gN Z M=.ok (.tup ds) M:=by
 refine ak (gX.mpr (bh.mpr {_,h,?_}));simp[dU,aK,b7,cut]
def vQ {a:GE}{Z:Env}{M:Mem}{fs:List (Str×Nat)}{s:Str}{b:Bool}(h:a Z M=.ok (.str s) M)(e:(!(fs.lookup s).isSome)=b):ix fs a Z M=.ok (.bl b) M:=by
 subst e;unfold ix;rw[h];rfl
structure xN (P:Nat->Option Df):Prop where
 is_between:P 0=some {3,3,gr}
 is_word:P 1=some {2,2,jq}
 is_place:P 2=some {2,2,iB}
 is_cost:P 3=some {1,1,jr}
 is_tuple_of:P 4=some {2,2,fE}
 is_table:P 5=some {2,2,iA}
 is_double_table:P 6=some {2,2,dI}
 is_turn:P 7=some {3,6,fT}
 is_join:P 8=some {3,7,fV}
 is_move:P 9=some {3,6,fU}
 is_put:P 10=some {3,6,gQ}
 is_deed:P 11=some {3,5,dD}
 is_machine:P 12=some {1,4,iX}
noncomputable def mE (f:D->Bool):∀ds:List D,boolsOf (ds.map λd=>.bl (f d))=some (ds.map f)
 |[]=>rfl
 |d::r=>by simp[boolsOf,mE f r]
def all_eq {w:GW}{ge:GE}{Z:Env}{M:Mem}{ds:List D}(f:D->Bool)(j:af (w Z M) λwk M'=>M'=M/\wk M=some ds)(hz:ds.length<=sz)(he:∀d∈ds,ge (some d::Z) M=.ok (.bl (f d)) M) :
 aX .all #[cn false 1 (.one 0) w (cg ge)] Z M=.ok (.bl (ds.all f)) M:=by
 refine ak ?_;simp only[du,bA,eK,bS];refine aD j ?_;rintro wk M' ⟨e1,e2⟩;subst e1;refine lN (λd=>.bl (f d)) hz e2 (λd hd=>{some d::Z,rfl,he d hd}) ?_;simp only[bF,O7,Hh];refine{hz,_,mE f ds,?_,trivial}
 congr 1
 rw[List.all_map];rfl
def ni (j:Th k L x)(h:((¬ ∃s,x=.str s)/\t=.str\/(¬ ∃s,x=.tup s)/\t=.tuple)):cj t x=some false:=by
 rcases h with⟨h,rfl⟩|⟨h,rfl⟩<;>cases x<;>first|rfl|exact absurd {_,rfl} h|(cases k<;>exact j.elim)
section
variable{P:Nat->Option Df}(h:xN P){M:Mem}{k L:Nat}{d:D}
include h
theorem eR (n:Nat)(hd:Th k L d)(lo hi:Int):ag P (n+1) 0 [d,.int lo,.int hi] M=.ok (.bl (aZ lo hi d)) M:=by
 cases d with
 | int t=>
   refine ak (aC h.is_between rfl ?_);simp[gr,cj,aZ];by_cases h1:lo<=t<;>simp[h1]<;>omega
 |fn j=>cases k<;>exact hd.elim
 |exc y p=>cases k<;>exact hd.elim
 |_=>exact ak (aC h.is_between rfl (cy rfl))
theorem sk (n:Nat){w:Nat}(hd:Th k L d):ag P (n+2) 1 [nD w,d] M=.ok (.bl (aZ 0 ((w:Int)-1) d)) M:=by
 refine ak (aC h.is_word rfl ?_);simp[jq,eR h _ hd]
theorem fP (n:Nat){w:Nat}(hd:Th k L d):ag P (n+2) 2 [nD w,d] M=.ok (.bl (aZ 0 ((w:Int)-1) d)) M:=by
 refine ak (aC h.is_place rfl ?_);simp[iB,eR h _ hd]
theorem ka (n:Nat)(hd:Th k L d):ag P (n+2) 3 [d] M=.ok (.bl (aZ 1 3 d)) M:=by
 refine ak (aC h.is_cost rfl ?_);simp[jr,eR h _ hd]
theorem lU (n:Nat)(hd:Th k L d):ag P (n+1) 4 [nD w,d] M=.ok (.bl (eD w d)) M:=by
 refine ak (aC h.is_tuple_of rfl ?_);cases d with
 |fn j=>cases k<;>exact hd.elim
 |exc y p=>cases k<;>exact hd.elim
 | tup B=>
   simp[fE,cj,eD];by_cases e:B.length=w
   ·simp[e]
   ·have:¬ ((B.length:Int)=(w:Int)):=`a
    simp[e,this]
 |_=>exact cy rfl
theorem uY (n:Nat){w:Nat}(hd:Th k L d)(F:L<=100):ag P (n+3) 5 [nD w,d] M=.ok (.bl (hZ w d)) M:=by
 refine ak (aC h.is_table rfl ?_);have e:=lU h (n+1) (w:=w) (M:=M) hd;simp only[iA,av,bR,Eo,gn,bA,bS,bh,Qt,List.map_nil,List.cons_append,Rg,P9,Qa,Qj,Qr,exists_eq_left'];rw[e];refine{_,rfl,?_};cases d with
 | tup B=>
   have E:=hd.tup;by_cases j:B.length=w
   ·have:eD w (.tup B)=true:=by simp[eD,j]
    rw[this,if_pos rfl,all_eq (aZ 0 ((w:Int)-1)) (by simp;exact⟨rfl,rfl⟩) (aw `a) (λd hd=>ak (by simp[sk h n (E.2 d hd)]))]
    exact{by simp[hZ,j],rfl}
   ·have:eD w (.tup B)=false:=by simp[eD,j]
    rw[this,if_neg `s]
    exact{by simp[hZ,j],rfl}
 |_=>exact⟨rfl,rfl⟩
theorem Bn (n:Nat){w:Nat}(hd:Th k L d)(E:L<=100):ag P (n+4) 6 [nD w,d] M=.ok (.bl (jj w d)) M:=by
 refine ak (aC h.is_double_table rfl ?_);have e:=lU h (n+2) (w:=w) (M:=M) hd;simp only[dI,av,bR,Eo,gn,bA,bS,bh,Qt,List.map_nil,List.cons_append,Rg,P9,Qa,Qj,Qr,exists_eq_left'];rw[e];refine{_,rfl,?_};cases d with
 | tup B=>
   have F:=hd.tup;by_cases j:B.length=w
   ·have:eD w (.tup B)=true:=by simp[eD,j]
    rw[this,if_pos rfl,all_eq (hZ w) (by simp;exact⟨rfl,rfl⟩) (aw `a) (λd hd=>ak (by simp[uY h n (F.2 d hd) E]))]
    exact{by simp[jj,j],rfl}
   ·have:eD w (.tup B)=false:=by simp[eD,j]
    rw[this,if_neg `s]
    exact{by simp[jj,j],rfl}
 |_=>exact⟨rfl,rfl⟩
omit h in
theorem ow {j c:Nat}{ds:List D}{Z:Env}(e:Z[j]?.getD none=some (.tup ds))(B:ds.length≠c):(aj (aH .ne (aX .len #[aa j]) (gC (.int (c:Int)))):GT) Z M=.ok true M:=by
 rw[LU (iu e) rfl,P7.mpr `a]
 rfl
theorem Bi (n:Nat){w p:Nat}{ds:List D}(hd:∀d∈ds,Th k L d)(j:L<=100)(hl:ds.length<=100):ag P (n+4) 7 [nD w,nD p,.tup ds] M=.ok (.bl (i0 w p ds)) M:=by
 refine ak (aC h.is_turn rfl ?_)
 match ds,hd,hl with
 | [a,t,c],hd,_=>
   show af (fT (ag P (n+3)) [some (nD w),some (nD p),some (.tup [a,t,c]),none,none,none] M) _;unfold fT;refine az rfl (aY rfl ?_);show af _ _;exact bC (gx (iz rfl rfl (fP h (n+1) (hd a (.head _)))) λ_=>gx (iz rfl rfl (uY h n (hd t (.tail _ (.head _))) j)) λ_=>oO rfl (ka h (n+1) (hd c (.tail _ (.tail _ (.head _)))))) ⟨rfl,rfl⟩
 |[],_,_=>exact cy rfl
 |[_],_,_=>exact cy rfl
 |[_,_],_,_=>exact cy rfl
 | a::b::c::d::r,_,_=>
   show af (fT (ag P (n+3)) [some (nD w),some (nD p),some (.tup (a::b::c::d::r)),none,none,none] M) _;exact bB (ow rfl (λz=>by simp at z)) rfl ⟨rfl,rfl⟩
theorem Bm (n:Nat){w p:Nat}{ds:List D}(hd:∀d∈ds,Th k L d)(B:L<=100)(hl:ds.length<=100):ag P (n+5) 8 [nD w,nD p,.tup ds] M=.ok (.bl (gW w p ds)) M:=by
 refine ak (aC h.is_join rfl ?_)
 match ds,hd,hl with
 | [a,o,t,c],hd,_=>
   show af (fV (ag P (n+4)) [some (nD w),some (nD p),some (.tup [a,o,t,c]),none,none,none,none] M) _;unfold fV;refine az rfl (aY rfl ?_);refine bP (rH (bu (bq (iz rfl rfl (fP h (n+2) (hd a (.head _)))))) (bu (bq (iz rfl rfl (fP h (n+2) (hd o (.tail _ (.head _)))))))) (λe=>?_) λe=>?_
   ·refine bC rfl {?_,rfl};show D.bl false=.bl (_&&(_&&_));cases q:aZ 0 ((p:Int)-1) a with
    |false=>rfl
    | true=>
      rw[q] at e;cases j:aZ 0 ((p:Int)-1) o with
      |false=>rfl
      |true=>rw[j] at e;cases e
   ·refine bC (gx (iz rfl rfl (Bn h n (hd t (.tail _ (.tail _ (.head _)))) B)) λ_=>oO rfl (ka h (n+2) (hd c (.tail _ (.tail _ (.tail _ (.head _))))))) {?_,rfl};show _=D.bl (aZ 0 ((p:Int)-1) a&&(aZ 0 ((p:Int)-1) o&&_));cases q:aZ 0 ((p:Int)-1) a with
    |false=>rw[q] at e;cases e
    | true=>
      rw[q] at e;cases j:aZ 0 ((p:Int)-1) o with
      |false=>rw[j] at e;cases e
      |true=>rfl
 |[],_,_=>exact cy rfl
 |[_],_,_=>exact cy rfl
 |[_,_],_,_=>exact cy rfl
 |[_,_,_],_,_=>exact cy rfl
 | a::b::c::d::e::r,_,_=>
   show af (fV (ag P (n+4)) [some (nD w),some (nD p),some (.tup (a::b::c::d::e::r)),none,none,none,none] M) _;exact bB (ow rfl (λz=>by simp at z)) rfl ⟨rfl,rfl⟩
theorem Bk (n:Nat){w p:Nat}{ds:List D}(hd:∀d∈ds,Th k L d)(j:L<=100)(hl:ds.length<=100):ag P (n+3) 9 [nD w,nD p,.tup ds] M=.ok (.bl (iq w p ds)) M:=by
 refine ak (aC h.is_move rfl ?_)
 match ds,hd,hl with
 | [a,t,c],hd,_=>
   show af (fU (ag P (n+2)) [some (nD w),some (nD p),some (.tup [a,t,c]),none,none,none] M) _;unfold fU;refine az rfl (aY rfl ?_);show af _ _;exact bC (gx (iz rfl rfl (fP h n (hd a (.head _)))) λ_=>gx (iz rfl rfl (fP h n (hd t (.tail _ (.head _))))) λ_=>oO rfl (ka h n (hd c (.tail _ (.tail _ (.head _)))))) ⟨rfl,rfl⟩
 |[],_,_=>exact cy rfl
 |[_],_,_=>exact cy rfl
 |[_,_],_,_=>exact cy rfl
 | a::b::c::d::r,_,_=>
   show af (fU (ag P (n+2)) [some (nD w),some (nD p),some (.tup (a::b::c::d::r)),none,none,none] M) _;exact bB (ow rfl (λz=>by simp at z)) rfl ⟨rfl,rfl⟩
theorem Fi (n:Nat){w p:Nat}{ds:List D}(hd:∀d∈ds,Th k L d)(j:L<=100)(hl:ds.length<=100):ag P (n+3) 10 [nD w,nD p,.tup ds] M=.ok (.bl (lq w p ds)) M:=by
 refine ak (aC h.is_put rfl ?_)
 match ds,hd,hl with
 | [a,t,c],hd,_=>
   show af (gQ (ag P (n+2)) [some (nD w),some (nD p),some (.tup [a,t,c]),none,none,none] M) _;unfold gQ;refine az rfl (aY rfl ?_);show af _ _;exact bC (gx (iz rfl rfl (fP h n (hd a (.head _)))) λ_=>gx (iz rfl rfl (sk h n (hd t (.tail _ (.head _))))) λ_=>oO rfl (ka h n (hd c (.tail _ (.tail _ (.head _)))))) ⟨rfl,rfl⟩
 |[],_,_=>exact cy rfl
 |[_],_,_=>exact cy rfl
 |[_,_],_,_=>exact cy rfl
 | a::b::c::d::r,_,_=>
   show af (gQ (ag P (n+2)) [some (nD w),some (nD p),some (.tup (a::b::c::d::r)),none,none,none] M) _;exact bB (ow rfl (λz=>by simp at z)) rfl ⟨rfl,rfl⟩
omit h in
theorem nV:cf w p "turn" ds=i0 w p ds:=by unfold cf;rw[if_pos rfl]
omit h in
theorem nU:cf w p "join" ds=gW w p ds:=by unfold cf;rw[if_neg `k,if_pos rfl]
omit h in
theorem nS:cf w p "move" ds=iq w p ds:=by unfold cf;rw[if_neg `k,if_neg `k,if_pos rfl]
omit h in
theorem nR:cf w p "put" ds=lq w p ds:=by unfold cf;rw[if_neg `k,if_neg `k,if_neg `k,if_pos rfl]
omit h in
theorem ze {w p:Nat}{ds:List D}{s:Str}(e1:¬ s="turn")(e2:¬ s="join")(j:¬ s="move")(B:¬ s="put"):cf w p s ds=false:=by unfold cf;rw[if_neg e1,if_neg e2,if_neg j,if_neg B]
omit h in
theorem wz {s:Str}(e1:¬ s="turn")(e2:¬ s="join")(j:¬ s="move")(B:¬ s="put"):cF.lookup s=none:=by
 unfold cF;simp only[List.lookup,P7.mpr e1,P7.mpr e2,P7.mpr j,P7.mpr B]
theorem ml (n:Nat){w p f:Nat}{s:Str}{ds:List D}{v:Bool}(lk:cF.lookup s=some f)(q:ag P (n+5) f [nD w,nD p,.tup ds] M=.ok (.bl v) M):ag P (n+6) 11 [nD w,nD p,.tup (.str s::ds)] M=.ok (.bl v) M:=by
 refine ak (aC h.is_deed rfl ?_);show af (dD (ag P (n+5)) [some (nD w),some (nD p),some (.tup (.str s::ds)),none,none] M) _;unfold dD;refine az (fA (bu (b:=true) rfl) (bu (b:=true) rfl)) (aY (bI (xo rfl)) ?_);refine az (fA (bu (b:=true) rfl) (bq (vQ rfl (by rw[lk];rfl)))) (av.mpr (fo.mpr (Ad.mpr (bh.mpr {_,rfl,_,_,rfl,lk,?_}))))
 refine av.mpr (bR.mpr (vP.mpr {f,rfl,?_}));rw[ae (x:=nD w) (au rfl) (ae (x:=nD p) (au rfl) (ae (Lg rfl) rfl)),bU,q];exact⟨rfl,rfl⟩
theorem CF (n:Nat){w p:Nat}{s:Str}{ds:List D}(lk:cF.lookup s=none):ag P (n+6) 11 [nD w,nD p,.tup (.str s::ds)] M=.ok (.bl false) M:=by
 refine ak (aC h.is_deed rfl ?_);show af (dD (ag P (n+5)) [some (nD w),some (nD p),some (.tup (.str s::ds)),none,none] M) _;unfold dD;exact az (fA (bu (b:=true) rfl) (bu (b:=true) rfl)) (aY (bI (xo rfl)) (bB (fA (bu (b:=true) rfl) (bq (vQ rfl (by rw[lk];rfl)))) rfl ⟨rfl,rfl⟩))
theorem Bq (n:Nat){w p:Nat}(hd:Th k L d)(F:L<=100):ag P (n+6) 11 [nD w,nD p,d] M=.ok (.bl (gp w p d)) M:=by
 cases d with
 |fn j=>cases k<;>exact hd.elim
 |exc y p=>cases k<;>exact hd.elim
 | tup xs=>
   have J:=hd.tup;cases xs with
   |nil=>exact ak (aC h.is_deed rfl (cy rfl))
   | cons x E=>
     have O:=J.2 x Pn;have B:=λd hd=>J.2 d (Pa _ hd);have hl:E.length<=100:=by have:=J.1;simp at this;omega
     by_cases hs:∃s,x=.str s
     ·obtain⟨s,rfl⟩:=hs;show _=Res.ok (D.bl (cf w p s E)) M;by_cases e1:s="turn"
      ·subst e1;rw[nV];exact ml h n N9 (Bi h (n+1) B F hl)
      by_cases e2:s="join"
      ·subst e2;rw[nU];exact ml h n N8 (Bm h n B F hl)
      by_cases H:s="move"
      ·subst H;rw[nS];exact ml h n N7 (Bk h (n+2) B F hl)
      by_cases I:s="put"
      ·subst I;rw[nR];exact ml h n N6 (Fi h (n+2) B F hl)
      rw[ze e1 e2 H I];exact CF h n (wz e1 e2 H I)
     ·have e1:gp w p (.tup (x::E))=false:=by cases x<;>first|rfl|exact absurd {_,rfl} hs
      have e2:=ni O (.inl ⟨hs,rfl⟩);rw[e1];refine ak (aC h.is_deed rfl ?_);show af (dD (ag P (n+5)) [some (nD w),some (nD p),some (.tup (x::E)),none,none] M) _;unfold dD;exact az (fA (bu (b:=true) rfl) (bu (b:=true) rfl)) (aY (bI (xo rfl)) (bB (lY (bu (b:=false) (bq (pL (au rfl) e2)))) rfl ⟨rfl,rfl⟩))
 |_=>exact ak (aC h.is_deed rfl (cy rfl))
theorem B4 (n:Nat)(hd:Th k L d)(hn:eD 3 d=false):ag P (n+7) 12 [d] M=.ok (.bl false) M:=by
 have e:ag P (n+6) 4 [nD 3,d] M=.ok (.bl (eD 3 d)) M:=lU h (n+5) hd;rw[hn] at e;exact ak (aC h.is_machine rfl (bB (bu (b:=false) (bq ((aP (ae rfl (ae (au rfl) rfl))).trans e))) rfl ⟨rfl,rfl⟩))
theorem LX (n:Nat){a b c:D}(hd:Th k L (.tup [a,b,c]))(Q:L<=100):ag P (n+7) 12 [.tup [a,b,c]] M=.ok (.bl (eX (.tup [a,b,c]))) M:=by
 refine ak (aC h.is_machine rfl ?_);have E:=hd.tup.2;have B:=E c (Pa _ (Pa _ Pn));have e:ag P (n+6) 4 [nD 3,.tup [a,b,c]] M=.ok (.bl true) M:=lU h (n+5) hd;have b1:=eR h (n+5) (M:=M) (E a Pn) 2 4;have b2:=eR h (n+5) (M:=M) (E b (Pa _ Pn)) 1 2;show af _ (ia λx I=>x=.bl (aZ 2 4 a&&(aZ 1 2 b&&(h9 c&&(tJ c).all (gp (eJ a) (eJ b)))))/\I=M);refine az (bu (b:=true) (bq ((aP (ae rfl (ae (au rfl) rfl))).trans e))) (aY rfl ?_);show af (bg _ _ [some (.tup [a,b,c]),some a,some b,some c] M) _;refine bP (rH (bu (bq ((aP (ae (au rfl) (ae rfl (ae rfl rfl)))).trans b1))) (bu (bq ((aP (ae (au rfl) (ae rfl (ae rfl rfl)))).trans b2)))) (λz=>?_) (λz=>?_)
 ·refine bC rfl {?_,rfl};rw[<- Bool.and_assoc,LL z];rfl
 obtain⟨F,H⟩:=Jp z;rw[F,H];obtain⟨ea,_,_⟩:=mx F `d
 obtain⟨J,_,_⟩:=mx H `d
 by_cases j:∃ds,c=.tup ds
 ·obtain⟨ds,rfl⟩:=j;have R:=B.tup;have O:(decide ((1:Int)<=(ds.length:Int))&&decide ((ds.length:Int)<=6))=h9 (.tup ds):=by
   show _=(decide (1<=ds.length)&&decide (ds.length<=6));rw[decide_eq_decide.mpr (show(1:Int)<=(ds.length:Int)↔1<=ds.length by omega),decide_eq_decide.mpr (show(ds.length:Int)<=6↔ds.length<=6 by omega)]
  have S:bG (aj (iU .le .le (gI 1) (aX .len #[aa 3]) (gI 6))) [some (.tup [a,b,.tup ds]),some a,some b,some (.tup ds)] M=.ok (!h9 (.tup ds)) M:=by
   rw[<- O];exact bu (bq (ub (i:=(ds.length:Int)) rfl (iu rfl) rfl))
  refine bP (fA (bu (b:=true) rfl) S) (λz=>?_) (λz=>?_)
  ·rw[Js z];exact bC rfl ⟨rfl,rfl⟩
  ·rw[Jt z];refine bC (all_eq (gp (eJ a) (eJ b)) (ds:=ds) (gU.mpr (bh.mpr {_,rfl,rfl,rfl,rfl})) (aw `a) (λd hd=>?_)) ⟨rfl,rfl⟩
   have q:=Bq h n (w:=eJ a) (p:=eJ b) (M:=M) (R.2 d hd) Q;rw[<- ea,<- J] at q;exact(aP (ae (au rfl) (ae (au rfl) (ae (au rfl) rfl)))).trans q
 ·rw[show h9 c=false by cases c<;>first|rfl|exact absurd {_,rfl} j]
  exact bB (lY (bu (b:=false) (bq (pL (au rfl) (ni B (.inr ⟨j,rfl⟩)))))) rfl ⟨rfl,rfl⟩
theorem sm (n:Nat)(hd:Th k L d)(j:L<=100):ag P (n+7) 12 [d] M=.ok (.bl (eX d)) M:=by
 by_cases hn:eD 3 d=false
 ·rw[B4 h n hd hn,tf hn]
 ·match d,hd,hn with
  |.tup [a,b,c],hd,_=>exact LX h n hd j
  |.tup [],_,hn=>exact absurd rfl hn
  |.tup [_],_,hn=>exact absurd rfl hn
  |.tup [_,_],_,hn=>exact absurd rfl hn
  |.tup (_::_::_::_::r),_,hn=>exact absurd (by simp[eD]) hn
  |.non,_,hn=>exact absurd rfl hn
  |.bl _,_,hn=>exact absurd rfl hn
  |.int _,_,hn=>exact absurd rfl hn
  |.str _,_,hn=>exact absurd rfl hn
  |.lst _,_,hn=>exact absurd rfl hn
  |.frz _,_,hn=>exact absurd rfl hn
  |.cell _,_,hn=>exact absurd rfl hn
  |.fn _,_,hn=>exact absurd rfl hn
  |.exc _ _,_,hn=>exact absurd rfl hn
omit h in
theorem cX {lo hi:Int}{n:Nat}(h1:lo<=(n:Int))(h2:(n:Int)<=hi):aZ lo hi (nD n)=true:=by simp[aZ];omega
omit h in
theorem se {w:Nat}{t:List Nat}(j:fe w t):hZ w (aL t)=true:=by
 have e:(t.map nD).all (aZ 0 ((w:Int)-1))=true:=by
  rw[Pm];intro x E;obtain⟨i,B,rfl⟩:=Pp.mp E;have:=j.2 i B;exact cX `a `a
 show((t.map nD).length==w&&(t.map nD).all (aZ 0 ((w:Int)-1)))=true;rw[e,O7,j.1];simp
omit h in
theorem Ag {w p:Nat}{d:bb}(hd:cP w p d):gp w p d.d=true:=by
 cases d with
 | turn a t c=>
   obtain⟨h1,h2,h3⟩:=hd;unfold dR at h3;show cf w p "turn" _=true;rw[nV];simp only[i0];rw[cX `a `a,se h2,cX `a `a];rfl
 | join a o t c=>
   obtain⟨h1,h2,h3,h4⟩:=hd;unfold dR at h4;show cf w p "join" _=true;rw[nU];simp only[gW];have e:jj w (.tup (t.map aL))=true:=by
    have e:(t.map aL).all (hZ w)=true:=by
     rw[Pm];intro x B;obtain⟨i,j,rfl⟩:=Pp.mp B;exact se (h3.2 i j)
    show((t.map aL).length==w&&(t.map aL).all (hZ w))=true;rw[e,O7,h3.1];simp
   rw[cX `a `a,cX `a `a,e,cX `a `a];rfl
 | move a o c=>
   obtain⟨h1,h2,h3⟩:=hd;unfold dR at h3;show cf w p "move" _=true;rw[nS];simp only[iq];rw[cX `a `a,cX `a `a,cX `a `a];rfl
 | put a o c=>
   obtain⟨h1,h2,h3⟩:=hd;unfold dR at h3;show cf w p "put" _=true;rw[nR];simp only[lq];rw[cX `a `a,cX `a `a,cX `a `a];rfl
omit h in
theorem zA {m:bf}(hm:aO m):eX m.d=true:=by
 have w2:=hm.w2;have w4:=hm.w4;have p1:=hm.p1;have p2:=hm.p2;have l1:=hm.d1;have E:=hm.d6;have e:(m.deeds.map bb.d).all (gp m.words m.places)=true:=by
  rw[Pm];intro x B;obtain⟨i,j,rfl⟩:=Pp.mp B;exact Ag (hm.ok i j)
 have e2:h9 (.tup (m.deeds.map bb.d))=true:=by simp[h9];omega
 show(aZ 2 4 (nD m.words)&&(aZ 1 2 (nD m.places)&&(h9 (.tup (m.deeds.map bb.d))&&(m.deeds.map bb.d).all (gp m.words m.places))))=true;rw[cX `a `a,cX `a `a,e,e2];rfl
end
noncomputable def uR:Nat->Nat->D->Bool
 |_,_,.non=>true
 |_,_,.bl _=>true
 |_,_,.int _=>true
 |_,L,.str x=>decide (x.cps.size<=L)&&x.cps.all (· < 0x110000)
 |n+1,L,.tup h=>decide (h.length<=L)&&h.all (uR n L)
 |n+1,L,.lst h=>decide (h.length<=L)&&h.all (uR n L)
 |_,_,_=>false
theorem g8:∀{n L:Nat}{d:D},uR n L d=true->Th n L d
 |n,L,.non,_=>by cases n<;>trivial
 |n,L,.bl _,_=>by cases n<;>trivial
 |n,L,.int _,_=>by cases n<;>trivial
 | n,L,.str x,h=>by
   have q:(decide (x.cps.size<=L)&&x.cps.all (· < 0x110000))=true:=by cases n<;>exact h
   simp only[O2,decide_eq_true_eq] at q;cases n<;>exact q
 | n+1,L,.tup j,h=>by
   have h:(decide (j.length<=L)&&j.all (uR n L))=true:=h;simp only[O2,decide_eq_true_eq] at h;exact{h.1,λd hd=>g8 (Pm.mp h.2 d hd)}
 | n+1,L,.lst j,h=>by
   have h:(decide (j.length<=L)&&j.all (uR n L))=true:=h;simp only[O2,decide_eq_true_eq] at h;exact{h.1,λd hd=>g8 (Pm.mp h.2 d hd)}
 |0,L,.tup j,h=>by cases h
 |0,L,.lst j,h=>by cases h
 |n,L,.frz _,h=>by cases n<;>cases h
 |n,L,.cell _,h=>by cases n<;>cases h
 |n,L,.fn _,h=>by cases n<;>cases h
 |n,L,.exc _ _,h=>by cases n<;>cases h
def yz (h:fe w t)(w4:w<=4):Th 2 6 (aL t):=by
 refine{by have:=h.1;simp;omega,λd hd=>?_}
 obtain⟨i,_,rfl⟩:=Pp.mp hd;trivial
def rJ (h:uR 0 6 (.str z)=true):Th n 6 (.str z):=(g8 h).mono (Q1 n) (O4 6)
def gi {i:Int}:Th n 6 (.int i):=by cases n<;>trivial
def G1 (h:cP w p d)(w4:w<=4):Th 4 6 d.d:=by
 cases d with
 | turn a t c=>
   refine{`s,λx j=>?_}
   simp only[Pr,P8,or_false] at j;rcases j with rfl|rfl|rfl|rfl
   ·exact rJ `k
   ·exact gi
   ·exact(yz h.2.1 w4).mono `d `d
   ·exact gi
 | join a o t c=>
   refine{`s,λx j=>?_}
   simp only[Pr,P8,or_false] at j;rcases j with rfl|rfl|rfl|rfl|rfl
   ·exact rJ `k
   ·exact gi
   ·exact gi
   ·refine{by have:=h.2.2.1.1;simp;omega,λy u=>?_}
    obtain⟨z,v,rfl⟩:=Pp.mp u;exact yz (h.2.2.1.2 z v) w4
   ·exact gi
 | move a o c=>
   refine{`s,λx j=>?_}
   simp only[Pr,P8,or_false] at j;rcases j with rfl|rfl|rfl|rfl
   ·exact rJ `k
   all_goals exact gi
 | put a o c=>
   refine{`s,λx j=>?_}
   simp only[Pr,P8,or_false] at j;rcases j with rfl|rfl|rfl|rfl
   ·exact rJ `k
   all_goals exact gi
def vw (h:aO m):Th 6 6 m.d:=by
 refine{`s,λx j=>?_}
 simp only[Pr,P8,or_false] at j;rcases j with rfl|rfl|rfl
 ·exact gi
 ·exact gi
 ·refine{by have:=h.d6;simpa using this,λy u=>?_}
  obtain⟨z,v,rfl⟩:=Pp.mp u;exact G1 (h.ok z v) h.w4
def HasB0.q (h:HasB0 P):xN P:=⟨h.is_between,h.is_word,h.is_place,h.is_cost,h.is_tuple_of,h.is_table,h.is_double_table,h.is_turn,h.is_join,h.is_move,h.is_put,h.is_deed,h.is_machine⟩
structure Sub (M M':Mem):Prop where
 len:M.length<=M'.length
 at':∀k,k<M.length->M'[k]?=M[k]?
def Sub.refl:Sub M M:={O4 _,λ_ _=>rfl}
def Sub.app:Sub M (M++X):={`s,λk hk=>O9 hk}
def Sub.setq (h:Sub M M')(j:M.length<=q):Sub M (M'.set q ds):={by simpa using h.len,λk hk=>by rw[Pc `a];exact h.at' k hk}
def xB (f:D->D)(hz:acc0.length+ds.length<=sz)(v:w M=some ds)(hs:∀d∈ds,∃ρ1,b4 tg d ρ0=some ρ1/\ge ρ1 M=.ok (f d) M)(hk:kl (acc0++ds.map f) M) :
 af (cQ (cU tg (cg ge) ρ0) w acc0 M) kl:=by
 refine dS (λi j u=>u=M/\j=acc0++(ds.take i).map f) (λi j u h=>by rw[h.1];exact v) {rfl,`s} ?_ ?_
 ·rintro i d j u hd ⟨rfl,rfl⟩;obtain⟨ρ1,e1,e2⟩:=hs d (PF hd);have y:i<ds.length:=(O1.mp hd).1;simp only[cU,a8,f6,e1,EA];refine{ρ1,rfl,?_};rw[e2];refine{by simp;omega,rfl,?_}
  rw[Rj,hd];simp
 ·rintro j u ⟨rfl,rfl⟩;simpa using hk
noncomputable def pS {j u:Type}(f:j->List u)(n:Nat):∀(ds:List j),(∀d∈ds,(f d).length<=n)->(ds.flatMap f).length<=ds.length*n
 |[],_=>`s
 | d::r,h=>by
   have h1:=h d Pn;have h2:=pS f n r λd hd=>h d (Pa _ hd);simp only[List.flatMap_cons,Pt,Q9,Nat.succ_mul];omega
def xC (j:D->List D)(f:D->D->D)(n:Nat)(hn:∀d∈ds,(j d).length<=n)(hz:ds.length*n<=sz)(I:w M=some ds)
 (hs:∀d∈ds,∃ρ1,b4 t d ρ0=some ρ1/\∃w2,gw2 ρ1 M=.ok w2 M/\w2 M=some (j d)/\∀e∈j d,∃y,b4 u e ρ1=some y/\ge y M=.ok (f d e) M) (hk:kl (ds.flatMap λd=>(j d).map (f d)) M) :
 af (cQ (cU t (tR u gw2 (cg ge)) ρ0) w [] M) kl:=by
 refine dS (λi v B=>B=M/\v=(ds.take i).flatMap λd=>(j d).map (f d)) (λi v B h=>by rw[h.1];exact I) {rfl,`s} ?_ ?_
 ·rintro i d v B hd ⟨rfl,rfl⟩;obtain⟨ρ1,e1,w2,e2,F,H⟩:=hs d (PF hd);simp only[cU,a8,f6,e1,tR];refine{ρ1,rfl,?_};rw[e2];have E:(ds.take (i+1)).flatMap (λd=>(j d).map (f d))=(ds.take i).flatMap (λd=>(j d).map (f d))++(j d).map (f d):=by
   rw[Rj,hd];simp
  have l1:=pS (λd=>(j d).map (f d)) n (ds.take (i+1)) (λd hd=>by simpa using hn d (Qs hd))
  rw[E] at l1;simp only[Pt,O7,Qf] at l1;refine xB (f d) ?_ F H ⟨rfl,E.symm⟩;have:(min (i+1) ds.length)*n<=ds.length*n:=Nat.mul_le_mul_right _ (Nat.min_le_right _ _);omega
 ·rintro v B ⟨rfl,rfl⟩;simpa using hk
noncomputable def pT (w:Nat)(l:List (List Nat)):List (List Nat):=l.flatMap λs=>(List.range w).map λx=>s++[x]
noncomputable def cY (w:Nat):Nat->List (List Nat)
 |0=>[[]]
 |p+1=>pT w (cY w p)
def b9 (m:bf):List (List Nat):=cY m.words m.places
def gy (m:bf)(s:List Nat):Prop:=s.length=m.places/\∀x∈s,x<m.words
def ur:∀s∈cY w p,s.length=p/\∀x∈s,x<w:=by
 induction p with
 |zero=>intro s hs;simp[cY] at hs;subst hs;simp
 | succ p v=>
   intro s hs;simp only[cY,pT,List.mem_flatMap,Pp,QF] at hs;obtain⟨t,j,x,B,rfl⟩:=hs;obtain⟨h1,h2⟩:=v t j;refine{by simp[h1],λy u=>?_}
   rcases PJ.mp u with z|z
   ·exact h2 y z
   ·simp at z;omega
def v7:∀s∈b9 m,gy m s:=ur
noncomputable def jm (j:w<=4):∀p≤2,(cY w p).length<=4^p
 |0,_=>by simp[cY]
 | p+1,u=>by
   have:=jm j p `a
   have l:=pS (λs:List Nat=>(List.range w).map λx=>s++[x]) 4 (cY w p) (λd hd=>by simpa using j)
   calc _<=(cY w p).length*4:=l
    _<=4^p*4:=Nat.mul_le_mul_right _ this
    _=4^(p+1):=by rw[Nat.pow_succ]
def uq (hm:aO m):(b9 m).length<=16:=by
 have h:=jm hm.w4 m.places hm.p2;have h1:=hm.p1;have h2:=hm.p2;have:m.places=1\/m.places=2:=`a
 rcases this with e|e<;>rw[e] at h<;>unfold b9<;>rw[e]<;>omega
theorem rf:∀(p:Nat) (s:List Nat),s.length=p->(∀x∈s,x<w)->s∈cY w p
 | 0,s,hl,_=>by
   obtain rfl:=Q8.mp hl;simp[cY]
 | p+1,s,hl,j=>by
   have ne:s≠[]:=by intro e;subst e;cases hl
   have u:=List.dropLast_concat_getLast ne;show s∈pT w (cY w p);unfold pT;rw[List.mem_flatMap];refine{s.dropLast,rf p _ (by simp[hl]) (λx h=>j x (List.dropLast_subset _ h)),?_}
   rw[Pp];exact{s.getLast ne,QF.mpr (j _ (List.getLast_mem ne)),u}
def CQ (hm:aO m)(h:gy m s):s∈b9 m:=rf _ s h.1 h.2
noncomputable def jQ:bb->List Nat->Nat
 |.turn a t _,s=>t.getD (s.getD a 0) 0
 |.join a o t _,s=>(t.getD (s.getD a 0) []).getD (s.getD o 0) 0
 |.move _ o _,s=>s.getD o 0
 |.put _ x _,_=>x
def bb.at':bb->Nat
 |.turn a _ _=>a
 |.join a _ _ _=>a
 |.move a _ _=>a
 |.put a _ _=>a
def cu (d:bb)(s:List Nat):List Nat:=s.take d.at'++[jQ d s]++s.drop (d.at'+1)
def getD_mem {j:Type}{l:List j}{d:j}(h:i<l.length):l.getD i d∈l:=by
 rw[Qk,PB h];exact Qp h
def wQ {m:bf}(hd:cP m.words m.places d)(hs:gy m s):jQ d s<m.words:=by
 obtain⟨hl,j⟩:=hs;cases d with
 | turn a t c=>
   obtain⟨h1,h2,h3⟩:=hd;have:=j _ (getD_mem (d:=0) (show a<s.length by omega))
   exact h2.2 _ (getD_mem (by rw[h2.1];exact this))
 | join a o t c=>
   obtain⟨h1,h2,h3,h4⟩:=hd;have a1:=j _ (getD_mem (d:=0) (show a<s.length by omega))
   have a2:=j _ (getD_mem (d:=0) (show o<s.length by omega))
   have a3:=h3.2 _ (getD_mem (d:=[]) (show s.getD a 0<t.length by rw[h3.1];exact a1))
   exact a3.2 _ (getD_mem (by rw[a3.1];exact a2))
 |move a o c=>exact j _ (getD_mem (by obtain⟨h1,h2,h3⟩:=hd;omega))
 |put a x c=>exact hd.2.1
def EB (hd:cP w p d):d.at'<p:=by cases d<;>exact hd.1
def Ae (hd:cP m.words m.places d)(hs:gy m s):gy m (cu d s):=by
 have h1:=EB hd;have h2:=wQ hd hs;obtain⟨hl,j⟩:=hs;refine{by simp[cu];omega,λx hm=>?_}
 simp only[cu,List.mem_append,Pj] at hm;rcases hm with(z|z)|z
 ·exact j x (Qs z)
 ·omega
 ·exact j x (Rk z)
def xK (m:bf)(r:List Nat):Prop:=r.length<=40/\∀i∈r,i<m.deeds.length
noncomputable def di (m:bf)(i:Nat):bb:=m.deeds.getD i (.put 0 0 1)
noncomputable def tX (m:bf):List Nat->List Nat->List Nat
 |[],s=>s
 |i::r,s=>tX m r (cu (di m i) s)
def nI {m:bf}(hm:aO m){i:Nat}(hi:i<m.deeds.length):cP m.words m.places (di m i):=hm.ok _ (getD_mem hi)
noncomputable def tW:∀(a b s:List Nat),tX m (a++b) s=tX m b (tX m a s)
 |[],b,s=>rfl
 |i::a,b,s=>tW a b _
def Bf {s:List Nat}(hi:i<s.length):(bO (s.map nD).length (i:Int)).bind (λj=>(s.map nD)[j]?)=some (nD (s.getD i 0)):=by
 rw[eI (by simpa using hi)]
 simp[Qk,hi]
noncomputable def xA (m:bf)(r:List Nat):Nat:=(r.map λi=>(di m i).cost).sum
def md2 {m:bf}:da m.d (.int 2) M=some (.tup (m.deeds.map bb.d)):=rfl
def qN {d:bb}:da d.d (.int (-1)) M=some (nD d.cost):=by cases d<;>rfl
def zV {s:List Nat}(hi:i<s.length):da (aL s) (nD i) M=some (nD (s.getD i 0)):=Bf hi
section
variable{P:Nat->Option Df}{M:Mem}{k L:Nat}{d:D}
def BX (h:xN P)(h13:P 13=some {1,1,fb})(n:Nat)(hd:Th k L d)(j:L<=100)(u:eX d=true):ag P (n+8) 13 [d] M=.ok .non M:=by
 refine ak (aC h13 rfl (az (bu (b:=true) (bq ((aP (ae rfl rfl)).trans ((sm h n hd j).trans (by rw[u]))))) ⟨rfl,rfl⟩))
def zp (h:xN P)(h13:P 13=some {1,1,fb})(n:Nat)(hd:Th k L d)(j:L<=100)(u:eX d=false):ag P (n+8) 13 [d] M=.err (.exc 3 none) M:=by
 refine dC (cq h13 rfl (d5 (bu (b:=false) (bq ((aP (ae rfl rfl)).trans ((sm h n hd j).trans (by rw[u]))))) ⟨rfl,rfl⟩))
end
section
variable{P:Nat->Option Df}(h:HasB0 P){M:Mem}
include h
theorem j9 (n:Nat)(hm:aO m):ag P (n+8) 13 [m.d] M=.ok .non M:=BX h.q h.need_machine n (vw hm) `d (zA hm)
theorem u2 (h15:P 15=some {1,6,dP})(n:Nat)(hm:aO m):ag P (n+9) 15 [m.d] M=.ok (.lst ((b9 m).map aL)) M:=by
 refine ak (aC h15 rfl ?_);have w4:=hm.w4;have p2:=hm.p2;simp[dP,j9 h n hm];simp[bf.d,fm];refine{`d,`a,?_}
 refine gP (λi u j=>j=M/\∃a,u=[some m.d,some (nD m.words),some (nD m.places),some (.tup (m.deeds.map bb.d)),some (.lst ((cY m.words i).map aL)),a]) (λ_ _ _ _=>rfl) {rfl,none,by simp[bf.d,cY,aL]} ?_ ?_
 ·rintro i d u j hd ⟨rfl,a,rfl⟩;have y:i<m.places:=by
   have:=(O1.mp hd).1;simpa using this
  refine{_,rfl,?_};simp[kA];refine xC (λ_=>(List.range m.words).map λ(k:Nat)=>D.int (k:Int)) (λd e=>match d,e with|.tup x,e=>.tup (x++[e])|_,_=>.non) 4 (by simpa using λ_ _=>w4) ?_ rfl ?_ ?_
  ·have:=jm w4 i `a
   have:(4:Nat)^i<=4^2:=Nat.pow_le_pow_right `d `a
   simp only[O7];exact aw `a
  ·intro d hd;obtain⟨s,hs,rfl⟩:=Pp.mp hd;have{l1,_}:=ur s hs;refine{_,rfl,(λ_=>some ((List.range m.words).map λ(k:Nat)=>D.int (k:Int))),aT ?_,rfl,λe he=>{_,rfl,ak ?_}}
   ·simp;omega
   ·simp[aL,sz];omega
  ·have v:((cY m.words i).map aL).flatMap (λd=>((List.range m.words).map λ(k:Nat)=>D.int (k:Int)).map (λe=>match d,e with|.tup x,e=>D.tup (x++[e])|_,_=>.non))=(cY m.words (i+1)).map aL:=by
    simp only[cY,pT,List.flatMap_map,List.map_flatMap,QG]
    congr 1
    funext s
    simp[aL,Function.comp_def]
   rw[v];refine{?_,rfl,rfl};have:=jm w4 (i+1) `a
   have:(4:Nat)^(i+1)<=4^2:=Nat.pow_le_pow_right `d `a
   simp only[O7];exact aw `a
 ·rintro u j ⟨rfl,a,rfl⟩;simp[b9]
end
section
variable{P:Nat->Option Df}(h:kQ P){M:Mem}
include h
theorem yH (n:Nat){m:bf}(hd:cP m.words m.places (.turn a t c))(hs:gy m s):ag P (n+1) 20 [(bb.turn a t c).d,aL s] M=.ok (nD (jQ (.turn a t c) s)) M:=by
 obtain⟨h1,h2,h3⟩:=hd;have a1:a<s.length:=by rw[hs.1];exact h1
 have a2:s.getD a 0<t.length:=by rw[h2.1];exact hs.2 _ (getD_mem a1)
 refine ak (aC h.turned rfl ?_);simp[-pM,-List.getD_eq_getElem?_getD,kK,bb.d,fm,zV a1,zV a2,jQ]
end
def Oa:dN.lookup (Str.ofString "turn")=some 20:=`k
def HV {a:Nat}(j:a<=s.length):af (dU false (aL s) .non (.int a) M) k↔k (aL (s.take a)) M:=by
 simp only[dU,aL,aK,cut];rw[if_neg `a]
 simp;rw[Nat.min_eq_left (by simpa using j)]
def Fo {a:Nat}(j:a<=s.length):af (dU false (aL s) (.int a) .non M) k↔k (aL (s.drop a)) M:=by
 simp only[dU,aL,aK,cut];rw[if_neg `a]
 simp;rw[Nat.min_eq_left (by simpa using j),Qn `s]
section
variable{P:Nat->Option Df}(h:kQ P){M:Mem}
include h
theorem Fn (n:Nat){d:bb}(E:∃a t c,d=.turn a t c)(hm:aO m)(hd:cP m.words m.places d)(hs:gy m s):ag P (n+2) 24 [d.d,aL s] M=.ok (aL (cu d s)) M:=by
 have a0:=EB hd;have l0:=hs.1;have p2:=hm.p2;have u:∀f,ag P (n+1) f [d.d,aL s] M=.ok (nD (jQ d s)) M->da d.d (.int 1) M=some (nD d.at')->(∀k:D->Mem->Prop,(∃y,da d.d (.int 0) M=some (.str y)/\dN.lookup y=some f))->ag P (n+2) 24 [d.d,aL s] M=.ok (aL (cu d s)) M:=λf e1 e2 j=>by
  obtain⟨y,j,v⟩:=j λ_ _=>True;refine ak (aC h.done rfl ?_);simp only[oQ,av,fo,Ad,ji,bh,cV,bY,bR,dg,gX,gm,bA,bS,vP];simp[-pM,e1,e2,j,v,b7];rw[HV `a,e1]
  have B:(d.at':Int)+1=((d.at'+1:Nat):Int):=`a
  rw[B];simp only[bU,aL,oR];refine{`d,?_,?_}
  ·simp;exact aw `a
  ·rw[show D.tup (s.map nD)=aL s from rfl,Fo `a]
   simp only[aL,oR];refine{?_,?_,trivial}
   ·simp;exact aw `a
   ·simp[cu]
 obtain⟨a,t,c,rfl⟩:=E;exact u 20 (yH h n hd hs) rfl λ_=>{_,rfl,Oa}
end
@[simp] theorem tu:af (fM .len [.cell j] M) k↔∃ds,M[j]?=some ds/\k (.int ds.length) M:=by
 show af (match M[j]? with|some xs=>_|none=>_) k↔_
 cases M[j]?<;>simp
structure ay (M:Mem) (p B:Nat):Prop where
 ex:∃(c:Nat) (cells:List Int) (at_ st:Int),M[p]?=some [.cell c,.int at_,.int st]/\M[c]?=some (cells.map D.int)/\c<p/\0<=at_/\at_<=B/\0<=st
structure aW (p:Nat) (M M':Mem):Prop where
 len:M.length<=M'.length
 at':∀k,k<M.length->k≠p->M'[k]?=M[k]?
def aW.refl:aW p M M:={O4 _,λ_ _ _=>rfl}
def aW.trans (a:aW p M M1)(b:aW p M1 M2):aW p M M2:={Pk a.len b.len,λk hk n=>(b.at' k (Pu hk a.len) n).trans (a.at' k hk n)}
def aW.set:aW p M (M.set p ds):={`s,λk _ n=>Pc (Qi n)}
def aW.app:aW p M (M++X):={`s,λk hk _=>O9 hk}
def aW.get (h:aW p M M')(e:M[k]?=some ds)(n:k≠p):M'[k]?=some ds:=by rw[h.at' k (O1.mp e).1 n];exact e
def ay.lt (h:ay M p B):p<M.length:=by obtain⟨_,_,_,_,e,_⟩:=h.ex;exact(O1.mp e).1
def ay.app (h:ay M p B):ay (M++X) p B:=by
 obtain⟨c,j,a,st,e1,e2,r⟩:=h.ex;exact{c,j,a,st,by rw[O9 (O1.mp e1).1];exact e1,by rw[O9 (O1.mp e2).1];exact e2,r}
def ay.mono (h:ay M p B)(F:B<=B'):ay M p B':=by
 obtain⟨c,j,a,st,e1,e2,u,v,E,y⟩:=h.ex;exact{c,j,a,st,e1,e2,u,v,`a,y}
def ay.setq (h:ay M p B)(F:p<q):ay (M.set q ds) p B:=by
 obtain⟨c,j,a,st,e1,e2,u,v,y,E⟩:=h.ex;exact{c,j,a,st,by rw[Pc `a];exact e1,by rw[Pc `a];exact e2,u,v,y,E}
def aW.setq (h:aW p M M')(j:M.length<=q):aW p M (M'.set q ds):={by simpa using h.len,λk hk n=>by rw[Pc `a];exact h.at' k hk n}
def zv {a b A B:Int}(h1:0<=a)(h2:a<=A)(h3:0<=b)(h4:b<=B):0<=a*b/\a*b<=A*B:=
 {Int.mul_nonneg h1 h3,Int.mul_le_mul h2 h4 h3 (Int.le_trans h1 h2)}
noncomputable def lX:List Int:=[2147483629,2147483587,2147483579,2147483563,2147483549,2147483543,2147483497,2147483489,2147483477,2147483423,2147483399,2147483353,2147483323]
def iG:List D:=lX.map D.int
def yY:∀q∈lX,0<q/\q<2147483648:=`d
def mR (j:Int)(M:Mem):∃q:Int,da (.lst iG) (.int (j % 13)) M=some (.int q)/\0<q/\q<2147483648:=by
 have h1:0<=j % 13:=QZ _ `d
 have h2:j % 13<13:=QU _ `d
 generalize j % 13=i at h1 h2;obtain⟨k,rfl⟩:=Int.eq_ofNat_of_zero_le h1;have hk:=Int.ofNat_lt.mp h2;refine{lX[k],?_,yY _ (Qp hk)};show(bO iG.length (k:Int)).bind (λj=>iG[j]?)=_;rw[eI (n:=iG.length) hk];show(lX.map D.int)[k]?=_;rw[PZ,PB hk];rfl
section
variable{P:Nat->Option Df}(h:HasP0 P){M:Mem}
include h
omit h in
theorem fO {x y:Int}(j:a Z M=.ok (.int x) M)(u:b Z M=.ok (.int y) M):ah m .add a b Z M=.ok (.int (x+y)) M:=by
 unfold ah;rw[j];show(b Z M).bind _=_;rw[u];rfl
omit h in
theorem mY {x y:Int}(j:a Z M=.ok (.int x) M)(u:b Z M=.ok (.int y) M)(c:(-(2^64)<x/\x<2^64)\/(-(2^64)<y/\y<2^64)):ah m .mul a b Z M=.ok (.int (x*y)) M:=by
 unfold ah;rw[j];show(b Z M).bind _=_;rw[u];exact if_pos c
omit h in
theorem jz {x y:Int}(j:a Z M=.ok (.int x) M)(u:b Z M=.ok (.int y) M)(c:0<y):ah m .mod a b Z M=.ok (.int (x % y)) M:=by
 unfold ah;rw[j];show(b Z M).bind _=_;rw[u];exact if_pos c
omit h in
theorem BJ {x y:Int}(j:a Z M=.ok (.int x) M)(u:b Z M=.ok (.int y) M)(c:0<=y/\y<=1000000)(d:x.natAbs<2^64):ah m .pow a b Z M=.ok (.int (x^y.toNat)) M:=by
 unfold ah;rw[j];show(b Z M).bind _=_;rw[u];exact if_pos ⟨c.1,c.2,d⟩
omit h in
theorem mS {x q:Int}(hi:Z[i]?.getD none=some (.lst iG))(j:a Z M=.ok (.int x) M)(e:da (.lst iG) (.int (x % 13)) M=some (.int q)):aF (aa i) (ah false .mod a (gI 13)) Z M=.ok (.int q) M:=by
 unfold aF;rw[au hi];show(ah false .mod a _ Z M).bind _=_;rw[jz j rfl `d];show bV M _=_;rw[e];rfl
theorem yJ {x a:Int}(n:Nat)(L:0<=a)(h1:a<=1000000):af (ag P (n+1) 28 [.int x,.int a] M) λd M'=>M'=M/\∃v:Int,d=.int v/\0<=v:=by
 refine aC h.law_spread rfl ?_;refine bP rfl (λe=>?_) λe=>?_
 ·exact{rfl,x,rfl,Int.le_trans `d (of_decide_eq_true e)}
 clear e;refine aY (bI rfl) (aY (bI rfl) ?_);obtain⟨O,e1,p1,p2⟩:=mR a M;obtain⟨Q,e2,j,_⟩:=mR (a+5) M;obtain⟨q3,J,F,_⟩:=mR (a+7) M;have u:∀{z c:Int},0<=z->z<=c->c<2^64->z.natAbs<2^64:=λS U H=>`a
 have lt:∀{z c:Int},0<=z->z<=c->c<2^64->-(2^64)<z/\z<2^64:=λS U H=>`a
 have r1:=QZ x (show(1000000007:Int)≠0 by decide)
 have r2:=QU x (show(0:Int)<1000000007 by decide)
 obtain⟨W,X⟩:=zv r1 (Int.le_of_lt r2) (show 0<=2*a+69069 by omega) (show 2*a+69069<=2069069 by omega)
 refine aY (bI (jz (BJ (fO (fO (mY (jz (au rfl) rfl `d) (fO (mY rfl (au rfl) (.inl `d)) rfl) (.inl (lt r1 (Int.le_of_lt r2) `d))) (mY (au rfl) rfl (.inl (lt L h1 `d)))) rfl) rfl `d (u (c:=10000000000000000000) `a `a `d)) (mS rfl (au rfl) e1) p1)) ?_
 generalize (x % 1000000007*(2*a+69069)+a*40503+977)^(3:Int).toNat=y;have b1:=QZ y (Int.ne_of_gt p1);have b2:=QU y p1;generalize y % O=one at b1 b2;have b3:=Int.le_of_lt (Int.lt_trans b2 p2);obtain⟨Y,m4⟩:=zv b1 b3 (show 0<=a+3 by omega) (show a+3<=1000003 by omega)
 refine aY (bI (jz (BJ (fO (fO (mY (au rfl) (fO (au rfl) rfl) (.inl (lt b1 b3 `d))) (jz (au rfl) rfl `d)) rfl) rfl `d (u (c:=10000000000000000000) `a `a `d)) (mS rfl (fO (au rfl) rfl) e2) j)) ?_
 generalize (one*(a+3)+x % 65537+5)^(5:Int).toNat=B;have E:=QZ B (Int.ne_of_gt j);have I:=QU B j;generalize B % Q=two at E I;refine aY (bI (jz (BJ (fO (fO (au rfl) (jz (au rfl) rfl `d)) (au rfl)) rfl `d (u (c:=10000000000) `a `a `d)) (mS rfl (fO (au rfl) rfl) J) F)) ?_
 generalize (two+one % 1009+a)^(3:Int).toNat=R;have d1:=QZ R (Int.ne_of_gt F);refine bC (fO (mY (fO (mY (au rfl) rfl (.inr `d)) (au rfl)) rfl (.inr `d)) (au rfl)) {rfl,_,rfl,?_}
 exact Int.add_nonneg (Int.mul_nonneg (Int.add_nonneg (Int.mul_nonneg b1 `d) E) `d) d1
omit h in
theorem Ot:bO 3 2=some 2:=rfl
omit h in
theorem pK {l:List Int}{i:Int}(u:0<=i)(h1:i<l.length):∃x,((bO l.length i).bind λj=>Option.map D.int l[j]?)=some (.int x):=by
 obtain⟨k,rfl⟩:=Int.eq_ofNat_of_zero_le u;have hk:k<l.length:=`a
 refine{l[k],?_};rw[eI hk];simp[hk]
def mL:GS:=#v[ax (.one 4) (ah false .mod (aF (aa 0) (gI 2)) (aa 1)),fK (aa 0) (gI 2) (ah false .fdiv (aF (aa 0) (gI 2)) (aa 1)),aR (aa 4)]
def uS (c:Call):GS:=#v[fK (aa 0) (gI 1) (ah false .add (aa 2) (gI 1)),fK (aa 0) (gI 2) (ai 28 c #[aa 3,aa 2])]
omit h in
theorem L9 {x y:Int}(j:a Z M=.ok (.int x) M)(u:b Z M=.ok (.int y) M)(c:0<y/\y<1073741824):ah m .fdiv a b Z M=.ok (.int (x / y)) M:=by
 unfold ah;rw[j];show(b Z M).bind _=_;rw[u];exact if_pos c
omit h in
theorem b8 (j:a Z M=.ok x M)(u:b Z M=.ok y M)(e:da x y M=some d):aF a b Z M=.ok d M:=by
 unfold aF;rw[j];show(b Z M).bind _=_;rw[u];show bV M _=_;rw[e];rfl
omit h in
theorem JW (e:M[p]?=some [c0,c1,c2]):da (.cell p) (.int 0) M=some c0/\da (.cell p) (.int 1) M=some c1/\da (.cell p) (.int 2) M=some c2:=by
 refine{?_,?_,?_}<;>(show(M[p]?).bind _=_;rw[e];rfl)
omit h in
theorem sF {n:Int}(hd:d Z M=.ok z M')(u:a Z M'=.ok (.cell p) M')(v:b Z M'=.ok (.int n) M')(e:M'[p]?=some ds)(hi:bO ds.length n=some i)(h:af (rest Z (M'.set p (ds.set i z))) kf):af (bg (fK a b d) rest Z M) kf:=by
 simp only[av];unfold fK;rw[hd];show af ((a Z M').bind _) _;rw[u];show af ((b Z M').bind _) _;rw[v];show af (match M'[p]? with|some ds=>(match bO ds.length n with|some j=>Res.ok (Fl.next Z) (M'.set p (ds.set j z))|none=>.bad)|none=>.bad) _
 rw[e];show af (match bO ds.length n with|some j=>Res.ok (Fl.next Z) (M'.set p (ds.set j z))|none=>.bad) _
 rw[hi];exact h
omit h in
theorem JX (j:t Z M=.ok b M)(h1:b=true->af (A Z M) (ik rest kf))(h2:b=false->af (B Z M) (ik rest kf)):af (bg (aV t A B) rest Z M) kf:=by
 simp only[av,hG];rw[j];cases b with
 |true=>exact h1 rfl
 |false=>exact h2 rfl
omit h in
theorem qs {j:List Int}{a st:Int}(e1:M1[p]?=some [.cell c,.int a,.int st])(e2:M1[c]?=some (j.map D.int))(lt:c<p)(a0:0<=a)(u:a<=(B+1:Nat))(I:0<=st)(k:aW p M M1)
 (E:0<many) (h1:many<=10000000):af (mL [some (.cell p),some (nD many),x,y,none] M1) (ia λd M'=>∃v:Nat,d=nD v/\v<many/\ay M' p (B+1)/\aW p M M'):=by
 have F:p<M1.length:=(O1.mp e1).1;have b0:=Int.ofNat_lt.mpr E;have r1:=QZ st (Int.ne_of_gt b0);have r2:=QU st b0;refine aY (bI (jz (b8 (au rfl) rfl (JW e1).2.2) (au rfl) b0)) (sF (L9 (b8 (au rfl) rfl (JW e1).2.2) (au rfl) {b0,`a}) (au rfl) rfl e1 rfl (bC (au rfl) ?_))
 obtain⟨v,H⟩:=Int.eq_ofNat_of_zero_le r1;refine{v,congrArg D.int H,`a,{c,j,a,st / many,PK F,?_,lt,a0,u,Int.ediv_nonneg I (Int.le_of_lt b0)},k.trans aW.set}
 rw[Pc (Qg lt)];exact e2
theorem uX (n:Nat){p B many:Nat}(S:ay M p B)(hB:B<=1000000)(J:0<many)(h1:many<=10000000):af (ag P (n+2) 31 [.cell p,nD many] M) λd M'=>∃v:Nat,d=nD v/\v<many/\ay M' p (B+1)/\aW p M M':=by
 obtain⟨c,u,a,st,e1,e2,lt,a0,aB,X⟩:=S.ex;have E:p<M.length:=(O1.mp e1).1;obtain⟨I,U,W⟩:=JW e1;refine aC h.law_take rfl ?_;show af (bg (aV _ (bg _ (bg _ (bg _ (uS (ag P (n+1)))))) _) mL [some (.cell p),some (nD many),none,none,none] M) _;have y:∀(x:Int),af (uS (ag P (n+1)) [some (.cell p),some (nD many),some (.int a),some (.int x),none] M) (ik mL (ia λd M'=>∃v:Nat,d=nD v/\v<many/\ay M' p (B+1)/\aW p M M')):=by
  intro x;refine sF (fO (au rfl) rfl) (au rfl) rfl e1 rfl ?_;obtain⟨_,_,R,rfl,v,rfl,Y⟩:=i6.mp (yJ h n a0 `a)
  refine sF ((aP (ae (au rfl) (ae (au rfl) rfl))).trans R) (au rfl) rfl (PK E) rfl ?_;have ne:=Qg lt;exact qs (PK (by rw[List.length_set];exact E)) (by rw[Pc ne,Pc ne];exact e2) lt `a `a Y (aW.set.trans aW.set) J h1
 have len:aX .len #[aF (aa 0) (gI 0)] [some (.cell p),some (nD many),some (.int a),some (.int 0),none] M=.ok (.int (u.length:Nat)) M:=by
  refine ak ?_;simp only[du];rw[ae (b8 (au rfl) rfl I) rfl,bU];exact tu.mpr {_,e2,by rw[O7],rfl}
 refine bP (b:=decide (st<(many:Int))) (bq (ak ?_)) (λL=>?_) λL=>?_
 ·simp only[eY];rw[b8 (au rfl) rfl W,bU,au rfl,bU];exact{_,rfl,rfl,rfl}
 ·refine aY (bI (b8 (au rfl) rfl U)) (aY (bI rfl) ?_);show af (bg _ _ [some (.cell p),some (nD many),some (.int a),some (.int 0),none] M) _;have F:∀{i:Int}{x:D},((bO u.length i).bind λj=>Option.map D.int u[j]?)=some x->da (.cell c) (.int i) M=some x:=λ{i x} ex=>by
   show(M[c]?).bind _=_;rw[e2];show((bO (u.map D.int).length i).bind λj=>(u.map D.int)[j]?)=_;simp only[O7,PZ];exact ex
  refine JX (b:=decide (a<(u.length:Int))) (bq (ak ?_)) (λO=>?_) λ_=>?_
  ·simp only[eY];rw[au rfl,bU,len,bU];exact{_,rfl,rfl,rfl}
  ·obtain⟨x,ex⟩:=pK a0 (of_decide_eq_true O);exact aY (bI (b8 (b8 (au rfl) rfl I) (au rfl) (F ex))) (y x)
  ·refine bP (b:=decide ((0:Int)<(u.length:Int))) (bq (ak ?_)) (λQ=>?_) λ_=>y 0
   ·simp only[eY,cV];rw[len,bU];exact{_,rfl,rfl,rfl}
   ·have H:=of_decide_eq_true Q;obtain⟨x,ex⟩:=pK (QZ (a*5+3) (Int.ne_of_gt H)) (QU _ H);exact aY (bI (jz (b8 (b8 (au rfl) rfl I) (jz (fO (mY (au rfl) rfl (.inr `d)) rfl) len H) (F ex)) (fO rfl (au rfl)) (Int.lt_of_lt_of_le `d (Int.le_add_of_nonneg_right a0)))) (y _)
 ·exact qs e1 e2 lt a0 `a X .refl J h1
end
noncomputable def bb.withC:bb->Nat->bb
 |.turn a t _,c=>.turn a t c
 |.join a o t _,c=>.join a o t c
 |.move a o _,c=>.move a o c
 |.put a x _,c=>.put a x c
def AJ {w p c:Nat}{d:bb}(h:cP w p d)(u:dR c):cP w p (d.withC c):=by
 cases d with
 |turn=>exact⟨h.1,h.2.1,u⟩
 |join=>exact⟨h.1,h.2.1,h.2.2.1,u⟩
 |move=>exact⟨h.1,h.2.1,u⟩
 |put=>exact⟨h.1,h.2.1,u⟩
def vY {w p:Nat}{d:bb}(h:cP w p d):dR d.cost:=by
 cases d with
 |turn=>exact h.2.2
 |join=>exact h.2.2.2
 |move=>exact h.2.2
 |put=>exact h.2.2
def CG {d:bb}{c:Nat}{M:Mem}{k:D->Mem->Prop}(hk:k (d.withC c).d M):af (dU false d.d .non (.int (-1)) M) λx M=>af (fi false .add x (.tup [nD c]) M) k:=by
 cases d<;>(simp[bb.d,dU,aK,cut];exact{`d,hk})
def Bh (n:Nat)(d:bb):aq (n+3) d.d=true:=by
 have v:∀(n:Nat) (l:List Nat),(l.map nD).all (aq n)=true:=λn l=>by
  rw[Pm];intro x u;obtain⟨i,_,rfl⟩:=Pp.mp u;cases n<;>rfl
 cases d with
 |turn a t c=>simp[bb.d,aq,aL,nD];decide +kernel
 |join a o t c=>simp[bb.d,aq,nD,aL];decide +kernel
 |move a o c=>simp[bb.d,aq,nD];decide +kernel
 |put a x c=>simp[bb.d,aq,nD];decide +kernel
def ne_nil {M:Mem}{q:Nat}{ds:List bb}(e:M[q]?=some (ds.map bb.d)):bp .ne (.cell q) (.lst []) M=some (!ds.isEmpty):=by
 have hp:(ds.map bb.d).all (aq 63)=true:=by
  rw[Pm];intro x v;obtain⟨d,_,rfl⟩:=Pp.mp v;exact Bh 60 d
 have u:view M (.cell q)=.lst (ds.map bb.d):=by simp[view,e]
 have h1:=hp;refine qb (by rw[u];exact h1) rfl ?_
 rw[u];cases ds<;>rfl
@[simp] theorem JB {m:Bool}{x:List D}{j:Int}{M:Mem}{k:D->Mem->Prop}:af (fi m .mul (.tup x) (.int j) M) k↔(x.length*j.toNat<=sz/\-(2^63)<=j/\j<2^63)/\k (.tup (List.replicate j.toNat x).flatten) M:=nZ
@[simp] theorem zu {m:Bool}{x:List D}{j:Int}{M:Mem}{k:D->Mem->Prop}:af (fi m .mul (.lst x) (.int j) M) k↔(x.length*j.toNat<=sz/\-(2^63)<=j/\j<2^63)/\af (bt m (List.replicate j.toNat x).flatten M) k:=nZ
def sq {xs:List D}{a:Nat}{M:Mem}{k:D->Mem->Prop}:af (dU false (.lst xs) .non (.int a) M) k↔(xs.take a).length<=sz/\k (.lst (xs.take a)) M:=by
 have e:cut xs 0 (min a xs.length)=xs.take a:=by
  unfold cut;rcases Nat.le_total a xs.length with h|h
  ·rw[Nat.min_eq_left h];simp
  ·rw[Nat.min_eq_right h];simp[Qn h]
 show af (match aK xs.length 0 D.non,aK xs.length xs.length (.int a) with|some l,some h=>bt false (cut xs l h) M|_,_=>.bad) k↔_
 have e2:aK xs.length xs.length (.int a)=some (min a xs.length):=by
  show some _=_;rw[if_neg `a];simp
 rw[e2];show af (bt false (cut xs 0 (min a xs.length)) M) k↔_;rw[e,bF]
def Bt {xs:List D}{a:Nat}{M:Mem}{k:D->Mem->Prop}:af (dU false (.lst xs) (.int a) .non M) k↔(xs.drop a).length<=sz/\k (.lst (xs.drop a)) M:=by
 have e:cut xs (min a xs.length) xs.length=xs.drop a:=by
  unfold cut;rcases Nat.le_total a xs.length with h|h
  ·rw[Nat.min_eq_left h,Qn `s]
  ·rw[Nat.min_eq_right h];simp[List.drop_eq_nil_of_le h]
 show af (match aK xs.length 0 (.int a),aK xs.length xs.length D.non with|some l,some h=>bt false (cut xs l h) M|_,_=>.bad) k↔_
 have e2:aK xs.length 0 (.int a)=some (min a xs.length):=by
  show some _=_;rw[if_neg `a];simp
 rw[e2];show af (bt false (cut xs (min a xs.length) xs.length) M) k↔_;rw[e,bF]
def t9 {w:Nat}{ge:GE}{Z:Env}{M:Mem}{u:List D->Mem->Prop}(f:Nat->Nat)(v:w<=100)(hf:∀k,k<w->ge (some (.int (k:Int))::Z) M=.ok (nD (f k)) M)(hk:u (((List.range w).map f).map nD) M) :
 af (cQ (cU (.one 0) (cg ge) (none::Z)) (λ_=>some ((List.range w).map λ(k:Nat)=>D.int (k:Int))) [] M) u:=by
 refine lN (λd=>match d with|.int i=>nD (f i.toNat)|_=>.non) (aw `o) rfl (λd hd=>?_) ?_
 ·obtain⟨k,hk,rfl⟩:=Pp.mp hd;exact{_,rfl,hf k (QF.mp hk)}
 ·simpa[Function.comp_def] using hk
def uU {w:Nat}{f:Nat->Nat}(hf:∀k,k<w->f k<w):fe w ((List.range w).map f):={`s,λx u=>by
 obtain⟨k,hk,rfl⟩:=Pp.mp u;exact hf k (QF.mp hk)}
section
variable{P:Nat->Option Df}(h:HasP0 P){M:Mem}
include h
theorem u3 (n:Nat){p B:Nat}(hp:ay M p B):af (ag P (n+1) 30 [.cell p] M) λd M'=>d=.cell p/\ay M' p B/\aW p M M':=by
 obtain⟨c,u,a,st,e1,e2,lt,a0,y,E⟩:=hp.ex;have ne:=PH lt;have v:p<M.length:=(O1.mp e1).1;refine aC h.law_anew rfl ?_;simp[jD,e1,Ot];refine{{c,u,a,0,by simp[v],?_,lt,a0,y,`a},aW.set}
 rw[Pc (Qi ne)];exact e2
theorem tk (n:Nat){p B many:Nat}{k:D->Mem->Prop}(hp:ay M p B)(hB:B<=1000000)(h0:0<many)(h1:many<=10000000)(hk:∀(v:Nat) (M':Mem),v<many->ay M' p (B+1)->aW p M M'->k (nD v) M'):af (ag P (n+2) 31 [.cell p,nD many] M) k:=
 aD (uX h n hp hB h0 h1) λd M' ⟨v,e,E,y,u⟩=>by subst e;exact hk v M' E y u
end
def bd {B c k m:Nat}(h:B<=c)(e:c+k<=m):B+k<=m:=Pk (Nat.add_le_add_right h k) e
def w8 {B k m:Nat}(e:k<=m):B+k<=B+m:=Nat.add_le_add_left e B
def oj {xs:List D}{v:Nat}{M:Mem}(h:v<xs.length):da (.lst xs) (nD v) M=some xs[v]:=by
 show(bO xs.length (v:Int)).bind (λj=>xs[j]?)=_;rw[eI h];simp[h]
def wZ {Z:Env}{M:Mem}{j v c:Nat}(h:Z[j]?.getD none=some (nD v)):(aj (aH .lt (aa j) (gC (.int (c:Int)))):GT) Z M=.ok (decide (v<c)) M:=by
 refine aT ?_;simp only[i4,eY,bh,cV];refine{_,h,_,rfl,_,rfl,?_,trivial};simp
def jg {Z:Env}{M:Mem}{j v c:Nat}(h:Z[j]?.getD none=some (nD v)):(aj (aH .eq (aa j) (gC (.int (c:Int)))):GT) Z M=.ok ((v:Int)==(c:Int)) M:=by
 refine aT ?_;simp only[i4,eY,bh,cV];exact{_,h,_,rfl,_,rfl,rfl,trivial}
def Ek {Z:Env}{M:Mem}{j v c:Nat}(h:Z[j]?.getD none=some (nD v)):(aj (aH .gt (aa j) (gC (.int (c:Int)))):GT) Z M=.ok (decide ((c:Int)<(v:Int))) M:=by
 refine aT ?_;simp only[i4,eY,bh,cV];exact{_,h,_,rfl,_,rfl,rfl,trivial}
section
variable{Z:Env}{M:Mem}{g a:GE}{rest:GS}{kf:Fl->Mem->Prop}
section
variable{P:Nat->Option Df}(hp_:HasP0 P)(n:Nat){i j p B many:Nat}(hj:Z[j]?.getD none=some (.cell p))(hg:g Z M=.ok (nD many) M)(hp:ay M p B)(hB:B<=1000000)(h0:0<many)(h1:many<=10000000)
include hp_ hj hg hp hB h0 h1
theorem dO:af (ai 31 (ag P (n+2)) #[aa j,g] Z M) λd M'=>∃v:Nat,d=nD v/\v<many/\ay M' p (B+1)/\aW p M M':=by
 rw[aP (ae (au hj) (ae hg rfl))];exact uX hp_ n hp hB h0 h1
theorem dA (hk:∀(v:Nat) (M':Mem),v<many->ay M' p (B+1)->aW p M M'->af (rest (Z.set i (some (nD v))) M') kf):af (bg (ax (.one i) (ai 31 (ag P (n+2)) #[aa j,g])) rest Z M) kf:=by
 refine bQ (dO hp_ n hj hg hp hB h0 h1) ?_;rintro x M' ⟨v,rfl,a,b,c⟩;exact hk v M' a b c
theorem tN {xs:List D}(hl:a Z M=.ok (.lst xs) M)(hz:xs.length=many):af (aF a (ai 31 (ag P (n+2)) #[aa j,g]) Z M) λd M'=>d∈xs/\ay M' p (B+1)/\aW p M M':=by
 unfold aF;rw[hl,a8,bU,a8];refine aD (dO hp_ n hj hg hp hB h0 h1) ?_;rintro x M' ⟨v,rfl,a,b,c⟩;rw[oj `a]
 exact{Qp _,b,c}
end
end
section
variable{Z:Env}{M:Mem}{k:D->Mem->Prop}
def gJ {e:GE}{K:Fl->Mem->Prop}(h:af (e Z M) λx M=>K (.ret x) M):af (#v[aR e] Z M) K:=by
 simp only[av,bR];exact h
def zw {e:GE}{j v w:Nat}(he:e Z M=.ok (nD v) M)(hj:Z[j]?.getD none=some (nD w))(u:0<w):ah false .mod e (aa j) Z M=.ok (nD (v % w)) M:=by
 unfold ah;rw[he];show(aa j Z M).bind _=_;rw[au hj];show(if (0:Int)<(w:Int) then Res.ok (D.int ((v:Int) % (w:Int))) M else .bad)=_;rw[if_pos `a]
 rfl
def qh {e f:GE}{v w:Nat}(he:e Z M=.ok (nD v) M)(hf:f Z M=.ok (nD w) M):ah false .add e f Z M=.ok (nD (v+w)) M:=by
 unfold ah;rw[he];show(f Z M).bind _=_;rw[hf];rfl
def HQ {e:GE}{v c:Nat}(he:e Z M=.ok (nD v) M)(u:c<=v):ah false .sub e (gC (.int (c:Int))) Z M=.ok (nD (v-c)) M:=by
 unfold ah;rw[he];show Res.ok (D.int ((v:Int)-(c:Int))) M=_;rw[<- Int.ofNat_sub u]
end
section
variable{P:Nat->Option Df}(h:HasP P){M:Mem}
include h
theorem yI (n:Nat){p B w:Nat}(hp:ay M p B)(hB:B<=900000)(w2:2<=w)(w4:w<=4):af (ag P (n+3) 32 [.cell p,nD w] M) λd M'=>∃t,d=aL t/\fe w t/\ay M' p (B+7)/\aW p M M':=by
 have R:0<w:=Pu `d w2
 have X:w<=10000000:=Pk w4 (Pb rfl);refine aC h.law_tab rfl ?_;show af (iC (ag P (n+2)) [some (.cell p),some (nD w),none,none,none,none] M) _;unfold iC;refine dA h n rfl rfl hp (Pk hB `d) `d `d λkind M1 hk p1 k1=>?_
 refine dA h n rfl rfl p1 (bd hB `d) R X λu M2 W p2 k2=>?_
 refine dA h n rfl rfl p2 (bd (k:=2) hB `d) R X λE O ho Y k3=>?_
 have Q:=(k1.trans k2).trans k3;have J:∀(l:List Nat) (M':Mem),fe w l->ay M' p (B+7)->aW p M M'->(l.map nD).length<=sz/\∃t,D.tup (l.map nD)=aL t/\fe w t/\ay M' p (B+7)/\aW p M M':=λl M' hl F H=>{aw (by rw[O7,hl.1];omega),l,rfl,hl,F,H}
 have S:ay O p (B+7):=Y.mono (w8 (k:=3) `d)
 show af (bg _ _ [some (.cell p),some (nD w),some (nD kind),some (nD u),some (nD E),none] O) _;refine bP (wZ rfl) (λ_=>?_) λ_=>?_
 ·simp only[av,bR,du,bA,bS,eK,g7,bh];refine{_,rfl,_,rfl,{`a,`a},?_}
  refine comp_map (λi I M'=>∃t:List Nat,I=t.map nD/\(∀x∈t,x<w)/\ay M' p (B+3+i)/\aW p M M') (aw `o) (λ_ _ _ _=>rfl) {[],rfl,(λ_ L=>nomatch L),Y,Q} ?_ ?_
  ·rintro i d I M' hd _ ⟨t,rfl,U,F,H⟩;have hi:i<w:=by
    have:=(O1.mp hd).1;simpa using this
   refine{_,rfl,aD (dO h n rfl rfl F `a R X) ?_}
   rintro _ M4 ⟨v,rfl,hv,p4,k4⟩;refine{t++[v],by rw[PL];rfl,λx L=>?_,p4,H.trans k4}
   rcases PJ.mp L with z|z
   ·exact U x z
   ·rw[Pj.mp z];exact hv
  ·rintro I M' hl ⟨t,rfl,U,F,H⟩;simp only[O7,QH] at hl F;exact bF.mpr (J t M' ⟨hl,U⟩ (F.mono `a) H)
 refine bP (jg rfl) (λ_=>?_) λ_=>?_
 ·simp only[av,bR,du,bA,bS,eK,g7,bh];refine{_,rfl,_,rfl,{`a,`a},?_}
  exact t9 (λk=>(k+1+u) % w) `a (λk hk=>zw (qh (qh (au rfl) rfl) (au rfl)) rfl R) (bF.mpr (J _ O (uU λk _=>Nat.mod_lt _ R) S Q))
 refine bP (jg rfl) (λ_=>?_) λ_=>?_
 ·simp only[av,bR,du,bA,bS,eK,g7,bh];refine{_,rfl,_,rfl,{`a,`a},?_}
  refine t9 (λk=>if k=u then E else k) `a (λk hk=>?_) (bF.mpr (J _ O (uU λk hk=>by split<;>assumption) S Q))
  have e:(aj (aH .eq (aa 0) (aa 4)):GT) [some (.int (k:Int)),some (.cell p),some (nD w),some (nD kind),some (nD u),some (nD E),none] O=.ok ((k:Int)==(u:Int)) O:=rfl;by_cases ck:k=u
  ·rw[if_pos ck];exact iH (k:=true) (e.trans (by rw[ck,beq_self_eq_true])) (λ_=>rfl) (λz=>nomatch z)
  ·rw[if_neg ck];exact iH (k:=false) (e.trans (by rw[P7.mpr `a])) (λz=>nomatch z) (λ_=>rfl)
 refine bP (jg rfl) (λ_=>gJ ?_) λ_=>?_
 ·simp only[dg,gm,bA,bS,bh];refine{_,rfl,aw (n:=1) `d,_,rfl,JB.mpr {{aw `o,`a,`a},List.replicate w u,?_,{QK,λx L=>by rw[List.eq_of_mem_replicate L];exact W},S,Q}}
  simp[aL,nD]
 ·simp only[av,fo,GI,bh,Ib,bR,du,bA,bS,bY];simp;refine{`a,aw `a,u,eI W,E,eI ho,((List.range w).set u E).set E u,?_,{`s,λx L=>?_},S.app,Q.trans aW.app}
  ·simp[aL,nD,List.map_set]
  ·rcases List.mem_or_eq_of_mem_set L with z|rfl
   ·rcases List.mem_or_eq_of_mem_set z with y|rfl
    ·exact QF.mp y
    ·exact ho
   ·exact W
theorem Bp (n:Nat){p B w pl:Nat}(hp:ay M p B)(hB:B<=800000)(w2:2<=w)(w4:w<=4)(p1:1<=pl)(p2:pl<=2):af (ag P (n+4) 33 [.cell p,nD w,nD pl] M) λd M'=>∃e:bb,d=e.d/\cP w pl e/\ay M' p (B+40)/\aW p M M':=by
 have X:pl<=10000000:=Pk p2 (Pb rfl);refine aC h.law_deed rfl ?_;show af (gY (ag P (n+3)) [some (.cell p),some (nD w),some (nD pl),none,none,none,none] M) _;unfold gY;refine dA h (n+1) rfl rfl hp (Pk hB `d) `d `d λkind Y hk q1 k1=>?_
 refine bQ (k:=λd M'=>∃v:Nat,d=nD (1+v)/\v<3/\ay M' p (B+2)/\aW p Y M') ?_ ?_
 ·rw[dg];simp only[cV];refine aD (dO h (n+1) rfl rfl q1 (bd hB `d) `d `d) ?_
  rintro _ M2 ⟨v,rfl,J,q,kk⟩;exact d7.mpr {v,by show D.int (1+(v:Int))=D.int ((1+v:Nat):Int);rw[Int.natCast_add];rfl,J,q,kk}
 rintro _ M2 ⟨price,rfl,hc,q2,k2⟩;refine dA h (n+1) rfl rfl q2 (bd hB `d) p1 X λat_ M3 O q3 k3=>?_
 refine dA h (n+1) rfl rfl q3 (bd (k:=3) hB `d) p1 X λu F ho Q U=>?_
 have L:=((k1.trans k2).trans k3).trans U;have co:dR (1+price):={`a,`a}
 have W:ay F p (B+40):=Q.mono (w8 (k:=4) `d)
 show af (bg _ _ [some (.cell p),some (nD w),some (nD pl),some (nD kind),some (nD (1+price)),some (nD at_),some (nD u)] F) _;refine bP (wZ rfl) (λ_=>gJ ?_) λ_=>?_
 ·simp only[gm,bA,bS,cV,bh,gn];refine{_,rfl,_,rfl,_,rfl,aD (yI h n Q (bd (k:=4) hB `d) w2 w4) λd M' ⟨t,e,I,y,E⟩=>{_,rfl,aw (n:=4) `d,.turn at_ t (1+price),?_,⟨O,I,co⟩,y.mono (w8 (k:=11) `d),L.trans E}}
  subst e;rfl
 refine bP (wZ rfl) (λ_=>gJ ?_) λ_=>?_
 ·obtain⟨o,eo,R⟩:∃o:Nat,gj (aj (aH .eq (aa 3) (gI 3))) (ah false .mod (ah false .add (aa 5) (gI 1)) (aa 2)) (aa 6) [some (.cell p),some (nD w),some (nD pl),some (nD kind),some (nD (1+price)),some (nD at_),some (nD u)] F=.ok (nD o) F/\o<pl:=by
   have e:(aj (aH .eq (aa 3) (gI 3)):GT) [some (.cell p),some (nD w),some (nD pl),some (nD kind),some (nD (1+price)),some (nD at_),some (nD u)] F=.ok ((kind:Int)==3) F:=jg rfl;cases q:(kind:Int)==3 with
   |true=>rw[q] at e;exact{(at_+1) % pl,iH e (λ_=>zw (qh (au rfl) rfl) rfl p1) (λz=>nomatch z),Nat.mod_lt _ p1}
   |false=>rw[q] at e;exact{u,iH e (λz=>nomatch z) (λ_=>au rfl),ho}
  simp only[gm,bA,bS,cV,bh];refine{_,rfl,?_};rw[eo,bU];exact{_,rfl,aw (n:=4) `d,.move at_ o (1+price),rfl,⟨O,R,co⟩,W,L}
 refine bP (jg rfl) (λ_=>gJ ?_) λ_=>?_
 ·simp only[gm,bA,bS,cV];show af (ag P (n+3) 31 [.cell p,nD w] F) _;refine tk h (n+1) Q (bd (k:=4) hB `d) (Pu `d w2) (Pk w4 (Pb rfl)) λv M5 J q5 k5=>?_
  exact{aw (n:=4) `d,.put at_ v (1+price),rfl,⟨O,J,co⟩,q5.mono (w8 (k:=5) `d),L.trans k5}
 ·simp only[av,bR,gm,bA,bS,cV,du,eK,g7,bh];refine{_,rfl,_,rfl,_,rfl,_,rfl,{`a,`a},?_}
  refine comp_map (λi H M'=>∃t:List (List Nat),H=t.map aL/\(∀x∈t,fe w x)/\ay M' p (B+4+i*7)/\aW p M M') (aw `o) (λ_ _ _ _=>rfl) {[],rfl,(λ_ S=>nomatch S),Q,L} ?_ ?_
  ·rintro i d H M' hd _ ⟨t,rfl,I,y,E⟩;have hi:i<w:=by
    have:=(O1.mp hd).1;simpa using this
   refine{_,rfl,?_};rw[aP (ae (au rfl) (ae (au rfl) rfl))];refine aD (yI h n y `a w2 w4) ?_
   rintro _ F ⟨v,rfl,J,p4,U⟩;refine{t++[v],by rw[PL];rfl,λx S=>?_,p4.mono `a,E.trans U}
   rcases PJ.mp S with z|z
   ·exact I x z
   ·rw[Pj.mp z];exact J
  ·rintro H M' hl ⟨t,rfl,I,y,E⟩;simp only[O7,QH] at hl y;exact bF.mpr {aw (by rw[O7];omega),_,rfl,aw (n:=5) `d,.join at_ u t (1+price),rfl,{O,ho,⟨hl,I⟩,co},y.mono `a,E}
theorem wy (n:Nat){p B W Pl mo:Nat}(hp:ay M p B)(hB:B<=700000)(W2:2<=W)(W4:W<=4)(P1:1<=Pl)(P2:Pl<=2)(m1:1<=mo)(m6:mo<=6):af (ag P (n+5) 34 [.cell p,nD W,nD Pl,nD mo] M) λd M'=>∃m:bf,d=m.d/\aO m/\m.words<=W/\m.places<=Pl/\m.deeds.length<=mo/\ay M' p (B+300)/\aW p M M':=by
 refine aC h.law_machine rfl ?_;show af (fc (ag P (n+4)) [some (.cell p),some (nD W),some (nD Pl),some (nD mo),none,none,none,none] M) _;unfold fc;have plus:∀{Z:Env}{M:Mem}{g:GE}{B c many:Nat}{rest:GS}{K:Fl->Mem->Prop}{i:Nat},Z[0]?.getD none=some (.cell p)->g Z M=.ok (nD many) M->ay M p B->B<=1000000->0<many->many<=10000000->(∀(v:Nat) (M':Mem),v<many->ay M' p (B+1)->aW p M M'->af (rest (Z.set i (some (nD (c+v)))) M') K)->af (bg (ax (.one i) (ah false .add (gC (.int (c:Int))) (ai 31 (ag P (n+4)) #[aa 0,g]))) rest Z M) K:=by
  intro Z M g B c many rest K i e0 eg hp hB h0 h1 hk;refine bQ (k:=λd M'=>∃v:Nat,d=nD (c+v)/\v<many/\ay M' p (B+1)/\aW p M M') ?_ ?_
  ·rw[dg];simp only[cV];refine aD (dO h (n+2) e0 eg hp hB h0 h1) ?_;rintro _ M2 ⟨v,rfl,hv,q,kk⟩;exact d7.mpr {v,by show D.int ((c:Int)+(v:Int))=D.int ((c+v:Nat):Int);rw[Int.natCast_add],hv,q,kk}
  ·rintro _ M' ⟨v,rfl,a,b,c⟩;exact hk v M' a b c
 refine plus rfl (HQ (c:=1) (au rfl) `a) hp (Pk hB `d) `a `a λw M1 hw q1 k1=>?_
 refine plus rfl (au rfl) q1 (bd hB `d) P1 (Pk P2 (Pb rfl)) λpl M2 hpl q2 k2=>?_
 have pl2:=q2.lt;have K2:=k1.trans k2;have ML:=K2.len;have w2:2<=2+w:=Q7 _ _;have w4:2+w<=4:=`a
 have l1:1<=1+pl:=Q7 _ _;have l2:1+pl<=2:=`a
 generalize hW:2+w=w' at w2 w4;generalize hP:1+pl=p' at l1 l2;refine bQ (k:=λd M'=>d=.cell M2.length/\M'=M2++[[]]) ?_ ?_
 ·simp only[oA,bS];exact vf.mpr {Q1 _,rfl,rfl}
 rintro _ _ ⟨rfl,rfl⟩;show af (bg _ _ [some (.cell p),some (nD w'),some (nD p'),some (nD mo),some (.cell M2.length),none,none,none] (M2++[[]])) _;simp only[av,fX,g7,dg,cV];refine aD (dO h (n+2) rfl rfl q2.app (bd (k:=2) hB `d) m1 (Pk m6 (Pb rfl))) ?_
 rintro _ M3 ⟨many,rfl,hmany,q3,k3⟩;have e3:=k3.get (List.getElem?_concat_length) `a
 have K3:=K2.trans (aW.app.trans k3);generalize hq:M2.length=q at *;refine d7.mpr {_,rfl,{`a,`a},?_}
 rw[show(1+(many:Int)).toNat=1+many by omega]
 refine gP (λi Z M'=>∃ds:List bb,M'[q]?=some (ds.map bb.d)/\ds.length=i/\(∀d∈ds,cP w' p' d)/\ay M' p (B+3+i*45)/\aW p M M'/\∃a b c,Z=[some (.cell p),some (nD w'),some (nD p'),some (nD mo),some (.cell q),a,b,c])
  (λ_ _ _ _=>rfl) {[],e3,rfl,(λ_ hd=>nomatch hd),q3,K3,none,none,none,rfl} ?_ ?_
 ·rintro i d Z M' hd ⟨ds,e4,hl,hds,q4,K4,a,b,c,rfl⟩;have hi:i<1+many:=by
   have:=(O1.mp hd).1;simpa using this
  have hi6:i<=5:=`a
  have hB4:B+3+i*45<=700228:=`a
  have hqM:=ML;have hpq:=pl2;refine{_,rfl,?_};refine dA h (n+2) rfl rfl q4 (Pk hB4 `d) `d `d λagain M5 ha q5 k5=>?_
  have e5:=k5.get e4 (Qg hpq);refine bQ (k:=λd M'=>∃e:bb,d=e.d/\cP w' p' e/\ay M' p (B+3+i*45+41)/\aW p M5 M') ?_ ?_
  ·rw[aP (ae (au rfl) (ae (au rfl) (ae (au rfl) rfl)))];exact aD (Bp h n q5 (bd hB4 `d) w2 w4 l1 l2) (by rintro d M' ⟨e,a,b,c,d⟩;exact⟨e,a,b,c,d⟩)
  rintro _ M6 ⟨e,rfl,he,q6,k6⟩;have e6:=k6.get e5 (Qg hpq);have K6:=(K4.trans k5).trans k6;have hsm:(ds.map bb.d).length<sz:=Nat.lt_of_le_of_lt (show(ds.map bb.d).length<=50 by rw[O7,hl];omega) `d
  have fin:∀(e:bb) (M'':Mem) (x5 x6:Option D),cP w' p' e->M''[q]?=some (ds.map bb.d)->ay M'' p (B+3+(i+1)*45)->aW p M M''->
   af (#v[km (aa 4) (aa 7)] [some (.cell p),some (nD w'),some (nD p'),some (nD mo),some (.cell q),x5,x6,some e.d] M'') λfl M'=>∃ρ',fl=.next ρ'/\∃ds:List bb,M'[q]?=some (ds.map bb.d)/\ds.length=i+1/\(∀d∈ds,cP w' p' d)/\ay M' p (B+3+(i+1)*45)/\aW p M M'/\∃a b c,ρ'=[some (.cell p),some (nD w'),some (nD p'),some (nD mo),some (.cell q),a,b,c]:=by
   intro e M'' x5 x6 he e7 q7 K7;simp only[av,Ig,bh];refine{_,rfl,_,rfl,q,ds.map bb.d,rfl,e7,hsm,_,rfl,ds++[e],?_,by rw[Pt,hl];rfl,λd hd=>?_,q7.setq hpq,K7.setq hqM,_,_,_,rfl}
   ·rw[PK (O1.mp e7).1,PL];rfl
   ·rcases PJ.mp hd with z|z
    ·exact hds d z
    ·rw[Pj.mp z];exact he
  show af (bg _ _ [some (.cell p),some (nD w'),some (nD p'),some (nD mo),some (.cell q),some d,some (nD again),some e.d] M6) _;have en:(aj (aH .ne (aa 4) (aA false ba)):GT) [some (.cell p),some (nD w'),some (nD p'),some (nD mo),some (.cell q),some d,some (nD again),some e.d] M6=.ok (!ds.isEmpty) M6:=by
   refine bq ?_;unfold aH;show(bV M6 (bp .ne (.cell q) (.lst []) M6)).bind _=_;rw[ne_nil e6];rfl
  refine bP (j0 (jg rfl) en) (λcc=>?_) λ_=>fin e M6 _ _ he e6 (q6.mono `a) K6
  have hpos:0<ds.length:=by
   rw[O2] at cc;cases ds with
   |nil=>exact absurd cc.2 `d
   |cons _ _=>exact Nat.succ_pos _
  simp only[av,fo,dg,gX,ji,gm,bA,bS,rS,cV];have el:aX .len #[aa 4] [some (.cell p),some (nD w'),some (nD p'),some (nD mo),some (.cell q),some d,some (nD again),some e.d] M6=.ok (nD ds.length) M6:=by
   refine ak ?_;simp only[du,bA,bS,bh];exact{_,rfl,tu.mpr {_,e6,by rw[O7],rfl}}
  show af (ai 31 (ag P (n+4)) #[aa 0,aX .len #[aa 4]] [some (.cell p),some (nD w'),some (nD p'),some (nD mo),some (.cell q),some d,some (nD again),some e.d] M6) _;refine aD (dO h (n+2) rfl el q6 (bd hB4 `d) hpos `a) ?_
  rintro _ M7 ⟨v,rfl,hv,q7,k7⟩;have e7:=k7.get e6 (Qg hpq);refine{(ds.getD v e).d,?_,1,rfl,rfl,rfl,?_}
  ·show(M7[q]?).bind (λds=>(bO ds.length (v:Int)).bind λj=>ds[j]?)=_;rw[e7];show(bO (ds.map bb.d).length (v:Int)).bind (λj=>(ds.map bb.d)[j]?)=_;rw[eI (by rw[O7];exact hv)]
   simp[Qk,hv]
  ·refine aD (CG ?_) λx1 M3 hx=>{1,rfl,nD e.cost,qN,aw (n:=1) `d,hx}
   exact fin _ M7 _ _ (AJ (hds _ (getD_mem hv)) (vY he)) e7 (q7.mono `a) (K6.trans k7)
 ·rintro Z M' ⟨ds,e4,hl,hds,q4,K4,a,b,c,rfl⟩;simp only[O7,QH] at hl q4;refine gJ ?_;simp only[gm,bA,bS,du,bh];refine{_,rfl,_,rfl,_,rfl,wx.mpr {_,e4,aw (n:=3) `d,⟨w',p',ds⟩,rfl,{w2,w4,l1,l2,?_,?_,hds},?_,?_,?_,q4.mono `a,K4}}
  ·show 1<=ds.length;omega
  ·show ds.length<=6;omega
  ·show w'<=W;omega
  ·show p'<=Pl;omega
  ·show ds.length<=mo;omega
omit h in
theorem Gk {g:GE}{Z:Env}{l:List bb}(e:g Z M=.ok (.tup (l.map bb.d)) M):aX .len #[g] Z M=.ok (nD l.length) M:=by
 refine ak ?_;simp only[du];rw[ae e rfl,bU];exact{congrArg (λ(n:Nat)=>D.int n) (O7 _),rfl}
theorem uZ (h35:P 35=some {3,6,gu})(n:Nat){p B mo:Nat}{m:bf}(hm:aO m)(hp:ay M p B)(hB:B<=700000)(O:mo<=40):af (ag P (n+3) 35 [.cell p,m.d,nD mo] M) λd M'=>∃r:List Nat,d=.lst (r.map nD)/\xK m r/\r.length<=mo/\ay M' p (B+50)/\aW p M M':=by
 refine aC h35 rfl ?_;show af (gu (ag P (n+2)) [some (.cell p),some m.d,some (nD mo),none,none,none] M) _;unfold gu;refine dA h n rfl rfl hp `a `d `d λkind J _ Y k1=>?_
 refine bQ (k:=λd M'=>∃v:Nat,d=nD v/\v<=mo/\ay M' p (B+2)/\aW p M M') ?_ ?_
 ·show af (gj _ _ _ [some (.cell p),some m.d,some (nD mo),some (nD kind),none,none] J) _;have t0:(aj (aH .eq (aa 3) (gI 0)):GT) [some (.cell p),some m.d,some (nD mo),some (nD kind),none,none] J=.ok ((kind:Int)==((0:Nat):Int)) J:=jg rfl;rw[Mf,t0,bU];split
  ·exact{mo,rfl,O4 _,Y.mono `a,k1}
  ·refine aD (dO h n (many:=mo+1) rfl rfl Y `a (Nat.succ_pos _) `a) (by rintro d M' ⟨v,e,Q,a,b⟩;exact{v,e,Nat.le_of_lt_succ Q,a,k1.trans b})
 intro x M2 R;show af (bg _ _ [some (.cell p),some m.d,some (nD mo),some (nD kind),some x,none] M2) _;obtain⟨many,ex,F,q2,k2⟩:=R;rw[ex];clear ex;simp only[av,fo,eK,g7,bh];have S:=Pk F O;refine{_,rfl,_,rfl,{Int.le_trans `d (Int.natCast_nonneg _),Int.lt_of_le_of_lt (Int.ofNat_le.mpr S) `d},?_}
 rw[QM];refine comp_map (λi y M'=>∃t:List Nat,y=t.map nD/\(∀x∈t,x<m.deeds.length)/\ay M' p (B+2+i)/\aW p M M') (aw (by rw[O7,QH];omega)) (λ_ _ _ _=>rfl) {[],rfl,(λ_ z=>nomatch z),q2,k2} ?_ ?_
 ·rintro i d y M' hd _ ⟨t,rfl,I,u,E⟩;have W:i<many:=by
   have:=(O1.mp hd).1
   rwa [O7,QH] at this
  refine{_,rfl,?_};refine aD (dO h n rfl (Gk (b8 (au rfl) rfl md2)) u `a hm.d1 (by have:=hm.d6;omega)) ?_
  rintro _ U ⟨v,rfl,Q,p4,k4⟩;refine{t++[v],by rw[PL];rfl,λx R=>?_,p4,E.trans k4}
  rcases PJ.mp R with z|z
  ·exact I x z
  ·rw[Pj.mp z];exact Q
 ·rintro y M' hl ⟨t,rfl,I,u,E⟩;rw[O7,O7,QH] at hl;rw[O7,QH] at u;have q3:=u.mono (show B+2+many<=B+50 by omega)
  have X:=E;have hl:=Nat.le_of_eq hl;refine bF.mpr {aw (by rw[O7];omega),?_}
  show af (bg _ _ [some (.cell p),some m.d,some (nD mo),some (nD kind),some (nD many),some (.lst (t.map nD))] M') _;refine bP (jg rfl) (λ_=>?_) λ_=>bC (au rfl) {t,rfl,{`a,I},`a,q3,X}
  refine bQ (k:=λd U=>U=M'/\d=.lst ((((List.replicate many (t.take 2)).flatten).take many).map nD)) ?_ ?_
  ·have l2:((t.map nD).take 2).length<=2:=by rw[Qf];exact Nat.min_le_left _ _
   simp only[gX,dg,bh,cV];refine{_,rfl,rfl,rfl,(sq (a:=2)).mpr {aw `a,_,rfl,zu.mpr {{?_,`a,`a},bF.mpr {?_,?_}}}}
   ·exact Pk (Nat.mul_le_mul l2 (show many<=40 by omega)) `d
   ·rw[QM,List.length_flatten,List.map_replicate,List.sum_replicate_nat];exact Pk (Nat.mul_le_mul (show many<=40 by omega) l2) `d
   ·refine{_,rfl,rfl,rfl,sq.mpr {aw (by rw[Qf];exact Pk (Nat.min_le_left _ _) `a),rfl,?_}}
    rw[QM,List.map_take,List.map_flatten,List.map_replicate,List.map_take]
  rintro _ _ ⟨rfl,rfl⟩;have lm:(((List.replicate many (t.take 2)).flatten).take many).length<=many:=by rw[Qf];exact Nat.min_le_left _ _
  refine la.mpr (bY.mpr (bC (au rfl) {_,rfl,{`a,λi W=>?_},`a,q3,X}))
  obtain⟨l,L,H⟩:=List.mem_flatten.mp (Qs W);rw[(List.mem_replicate.mp L).2] at H;exact I i (Qs H)
end
def Fp {a b:Nat}:af (dU false (.frz xs) (.int a) (.int b) M) k↔(cut xs (min a xs.length) (min b xs.length)).length<=sz/\k (.lst (cut xs (min a xs.length) (min b xs.length))) M:=by
 show af (match aK xs.length 0 (.int a),aK xs.length xs.length (.int b) with|some l,some h=>bt false (cut xs l h) M|_,_=>.bad) k↔_
 have e1:aK xs.length 0 (.int a)=some (min a xs.length):=by
  show some _=_;rw[if_neg `a];simp
 have e2:aK xs.length xs.length (.int b)=some (min b xs.length):=by
  show some _=_;rw[if_neg `a];simp
 rw[e1,e2];exact bF
def Bs {b:Nat}:af (dU false (.frz xs) .non (.int b) M) k↔(cut xs 0 (min b xs.length)).length<=sz/\k (.lst (cut xs 0 (min b xs.length))) M:=by
 show af (match aK xs.length 0 D.non,aK xs.length xs.length (.int b) with|some l,some h=>bt false (cut xs l h) M|_,_=>.bad) k↔_
 have e2:aK xs.length xs.length (.int b)=some (min b xs.length):=by
  show some _=_;rw[if_neg `a];simp
 rw[e2];exact bF
def vX {j u:Type}(f:j->u)(l:List j)(a b:Nat):cut (l.map f) a b=(cut l a b).map f:=by simp[cut,List.map_take,List.map_drop]
def pW {j:Type}(l:List j)(a b:Nat):(cut l a b).length<=l.length:=by simp[cut];omega
section
variable{P:Nat->Option Df}(h:HasP0 P){M:Mem}
include h
theorem Fj (n:Nat){ns:List Int}(hn:ns.length<=63):af (ag P (n+1) 29 [.frz (ns.map D.int)] []) λd M'=>d=.cell 1/\ay M' 1 0:=by
 refine aC h.law_open rfl ?_;simp[jC,b7];refine(Bs).mpr {?_,?_}
 ·exact aw (Pk (pW _ _ _) `o)
 simp only[tq,vf];refine{aw (Pk (pW _ _ _) `o),(Fp).mpr {aw (Pk (pW _ _ _) `o),rfl,?_}}
 rw[vX,vX];simp only[O7,List.length_nil,Rg];have j:min 63 ns.length=ns.length:=`a
 rw[j];refine gP (λi v M'=>∃l:List Int,M'=[l.map D.int]/\l.length=min 12 ns.length/\∃a b,v=[some (.frz (ns.map D.int)),some (.cell 0),a,b]) (λ_ _ _ _=>rfl) {cut ns 0 (min 12 ns.length),rfl,by simp[cut],none,none,rfl} ?_ ?_
 ·rintro i d v M' hd ⟨l,rfl,hl,a,b,rfl⟩;rw[jh,PZ] at hd;cases e:(cut ns (min 12 ns.length) ns.length)[i]? with
  |none=>rw[e] at hd;cases hd
  | some x=>
    rw[e] at hd;have hd:=Ph hd;subst hd;have E:=(O1.mp e).1;have F:12<ns.length:=by
     by_cases c:12<ns.length
     ·exact c
     ·have:min 12 ns.length=ns.length:=`a
      rw[this] at E;simp[cut] at E
    have u:l.length=12:=`a
    have r1:=QZ (i:Int) (show(12:Int)≠0 by decide)
    have r2:=QU (i:Int) (show(0:Int)<12 by decide)
    obtain⟨y,B⟩:=pK r1 (by rw[u];exact r2)
    obtain⟨k,ek⟩:∃k:Nat,(i:Int) % 12=(k:Int):={((i:Int) % 12).toNat,`a}
    refine{_,rfl,?_};simp;rw[ek] at B ⊢;have hk:k<l.length:=`a
    refine{_,B,?_};refine{l.map D.int,rfl,k,?_,l.set k (y+x),?_,by simp[hl]}
    ·simpa using eI hk
    ·simp[List.map_set]
 ·rintro v M' ⟨l,rfl,hl,a,b,rfl⟩;simp;exact{`d,{0,l,0,0,rfl,rfl,`d,`d,`d,`d}}
end
abbrev bW:=List (List Nat)
def bD (b:bW):D:=.tup (b.map aL)
def bw (m:bf)(i:Nat)(b:bW):bW:=b.map (cu (di m i))
def cst (m:bf)(i:Nat):Nat:=(di m i).cost
inductive gz (m:bf):Nat->bW->Prop
 |start:gz m 0 (b9 m)
 |step {q:Nat}{b:bW}{i:Nat}:gz m q b->i<m.deeds.length->gz m (q+cst m i) (bw m i b)
def cM (m:bf)(q:Nat)(b:bW):Prop:=gz m q b/\∀q'<q,¬ gz m q' b
section
variable{m:bf}{q q' p:Nat}{b:bW}
def jZ (hm:aO m)(hi:i<m.deeds.length):1<=cst m i/\cst m i<=3:=vY (nI hm hi)
def u7 (h:gz m q b):(q=0/\b=b9 m)\/∃i j,i<m.deeds.length/\cst m i<=q/\gz m (q-cst m i) j/\b=bw m i j:=by
 cases h with
 |start=>exact .inl ⟨rfl,rfl⟩
 | @step q b i h u=>exact .inr {i,b,u,Nat.le_add_left _ _,by rw[Nat.add_sub_cancel];exact h,rfl}
def yU (hm:aO m)(h:gz m q b):b.length=(b9 m).length/\∀s∈b,gy m s:=by
 induction h with
 |start=>exact⟨rfl,v7⟩
 | step _ u j=>
   refine{by unfold bw;rw[O7];exact j.1,λs hs=>?_}
   obtain⟨t,v,rfl⟩:=Pp.mp hs;exact Ae (nI hm u) (j.2 t v)
def lC:∀{q:Nat},gz m q b->∃q',q'<=q/\cM m q' b:=by
 intro q;induction q using Nat.strongRecOn with
 | ind q j=>
   intro h;by_cases z:∃q',q'<q/\gz m q' b
   ·obtain⟨q',h1,h2⟩:=z;obtain⟨r,h3,h4⟩:=j q' h1 h2;exact{r,Pk h3 (Rf h1),h4}
   ·exact{q,O4 _,h,λq' h1 h2=>z ⟨q',h1,h2⟩}
def w5 (h:cM m q b)(j:cM m q' b):q=q':=by
 rcases Nat.lt_trichotomy q q' with z|z|z
 ·exact absurd h.1 (j.2 q z)
 ·exact z
 ·exact absurd j.1 (h.2 q' z)
def ky (hm:aO m):cM m 0 b↔b=b9 m:=by
 constructor
 ·intro h;rcases u7 h.1 with⟨_,e⟩|⟨i,u,j,v,_⟩
  ·exact e
  ·have:=(jZ hm j).1;omega
 ·rintro rfl;exact{.start,λq' h=>absurd h (Nat.not_lt_zero _)}
def kz (hm:aO m)(E:0<p):cM m p b↔(∃i j,i<m.deeds.length/\cst m i<=p/\cM m (p-cst m i) j/\b=bw m i j)/\∀q<p,¬ cM m q b:=by
 constructor
 ·intro h;refine{?_,λq y z=>h.2 q y z.1};rcases u7 h.1 with⟨e,_⟩|⟨i,j,u,v,h1,rfl⟩
  ·omega
  ·refine{i,j,u,v,?_,rfl};obtain⟨r,hr,hl⟩:=lC h1;have h2:¬ r+cst m i<p:=λz=>h.2 _ z (.step hl.1 u);have e:r=p-cst m i:=`a
   rw[<- e];exact hl
 ·rintro⟨⟨i,j,u,v,h1,rfl⟩,h2⟩;refine{by have:=gz.step h1.1 u;rwa [Nat.sub_add_cancel v] at this,λq' B z=>?_}
  obtain⟨r,hr,hl⟩:=lC z;exact h2 r `a hl
def w6 (hm:aO m)(B:0<p)(h:∀q,q<p->p<=q+3->∀b,¬ cM m q b):∀q,p<=q->∀b,¬ cM m q b:=by
 intro q;induction q using Nat.strongRecOn with
 | ind q v=>
   intro E b hl;obtain⟨⟨i,j,u,y,h1,_⟩,_⟩:=(kz hm `a).mp hl
   have c:=jZ hm u;by_cases z:p<=q-cst m i
   ·exact v _ `a z j h1
   ·exact h _ `a `a j h1
theorem len_sub {v:Type}[DecidableEq v]:∀{l l':List v},l.Nodup->(∀x∈l,x∈l')->l.length<=l'.length
 |[],_,_,_=>Q1 _
 | a::l,l',h,s=>by
   have j:=s a Pn;have h1:=len_sub (Qy.mp h).2 λx u=>by
    have ne:x≠a:=λe=>(Qy.mp h).1 (by rw[<- e];exact u)
    exact(List.mem_erase_of_ne ne).mpr (s x (Pa _ u))
   rw[List.length_erase_of_mem j] at h1;have h2:=List.length_pos_of_mem j;rw[Q9];omega
structure oW (m:bf) (p:Nat) (l:List (bW×Nat)):Prop where
 nd:(l.map (·.1)).Nodup
 sound:∀x∈l,cM m x.2 x.1/\x.2<p
 all:∀q b,q<p->cM m q b->(b,q)∈l
end
noncomputable def As:∀l:List Nat,dz (l.map nD) (l.map nD)=true
 |[]=>rfl
 | i::l=>by
   show(bH (nD i) (nD i)&&dz (l.map nD) (l.map nD))=true;rw[As l];simp[nD,rW]
def Hb (l:List Nat):bH (aL l) (aL l)=true:=As l
def Ar {f:uI}{s:GA}{Z:Env}{M:Mem}{ds:List D}(es:s Z M=.ok ds M):aX f s Z M=fM f ds M:=by
 unfold aX;rw[es];rfl
@[simp] theorem B5:af (fM (.list m) [.tup ds] M) k↔af (bt m ds M) k:=Qo
def mq (e:oy (.str x) (.str y)=some b)(M:Mem):bp .eq (.str x) (.str y) M=some b:=by
 show lL M (.str x) (.str y)=some b;unfold lL;rw[show oy (view M (.str x)) (view M (.str y))=some b from e]
section
variable{Z:Env}{M:Mem}{a b d:GE}{k:D->Mem->Prop}{kw:Walk->Mem->Prop}{kf:Fl->Mem->Prop}
def bM {f:Nat}{c:Call}{s:GA}{Z:Env}{M:Mem}{xs:List D}(e:s Z M=.ok xs M):bL f c s Z M=c f xs M:=by unfold bL;rw[e]
@[simp] theorem Me:af (pO m a Z M) k↔af (a Z M) λx M=>af (wD m x M) k:=by simp[pO]
@[simp] theorem OT:af (wD m (.lst xs) M) k↔af (bt m xs.reverse M) k:=Qo
@[simp] theorem Fx:af (wD m (.tup xs) M) k↔k (.tup xs.reverse) M:=Qo
def Gu (I:Nat->Env->Mem->Prop)(R:D->Mem->Prop)(E:∀i Z M,I i Z M->w M=some ds)(v:∀d M,R d M->w M=some ds)(B:I 0 Z M)
 (hs:∀i d Z M,ds[i]?=some d->I i Z M->∃ρ1,b4 t d Z=some ρ1/\af (gb ρ1 M) λfl M=>(∃ρ',fl=.next ρ'/\I (i+1) ρ' M)\/∃d,fl=.ret d/\R d M) (hk:∀Z M,I ds.length Z M->kf (.next Z) M) (hr:∀d M,R d M->kf (.ret d) M) :
 af (cQ (fy t gb) w (.next Z) M) kf:=by
 refine dS (λi fl M=>(∃Z,fl=.next Z/\I i Z M)\/∃d,fl=.ret d/\R d M) (λi fl M h=>h.elim ((by rintro⟨Z,_,h⟩;exact E i Z M h)) (by rintro⟨d,_,h⟩;exact v d M h)) (.inl ⟨Z,rfl,B⟩) ?_ ?_
 ·rintro i d fl M hd (⟨Z,rfl,j⟩|⟨y,rfl,u⟩)
  ·obtain⟨ρ1,e,h⟩:=hs i d Z M hd j;simp only[fy,a8,f6,e];exact⟨ρ1,rfl,h⟩
  ·exact .inr ⟨y,rfl,u⟩
 ·rintro fl M (⟨Z,rfl,j⟩|⟨d,rfl,u⟩)
  ·exact hk Z M j
  ·exact hr d M u
end
def KO (i j:Nat):bH (nD i) (nD j)=decide (i=j):=by
 show((i:Int)==(j:Int))=_;rw[QA];simp;omega
noncomputable def Av:∀l r:List Nat,dz (l.map nD) (r.map nD)=decide (l=r)
 |[],[]=>rfl
 |[],_::_=>rfl
 |_::_,[]=>rfl
 | i::l,j::r=>by
   show(bH (nD i) (nD j)&&dz (l.map nD) (r.map nD))=_;rw[KO,Av l r,QA];simp
def uo (l r:List Nat):bH (aL l) (aL r)=decide (l=r):=Av l r
noncomputable def Au:∀l r:List (List Nat),dz (l.map aL) (r.map aL)=decide (l=r)
 |[],[]=>rfl
 |[],_::_=>rfl
 |_::_,[]=>rfl
 | i::l,j::r=>by
   show(bH (aL i) (aL j)&&dz (l.map aL) (r.map aL))=_;rw[uo,Au l r,QA];simp
def ends (m:bf)(r:List Nat):List (List Nat):=(b9 m).map (tX m r)
noncomputable def nh:∀s:List Nat,intsOf (s.map nD)=some (s.map λ(n:Nat)=>(n:Int))
 |[]=>rfl
 |a::s=>by show(intsOf (s.map nD)).map _=_;rw[nh s];rfl
def vD (s:List Nat):isKey 77 (aL s)=true:=by
 show(intsOf (s.map nD)).isSome=true;rw[nh];rfl
noncomputable def zL:∀b:bW,ja (b.map aL)=some (b.map λs=>s.map λ(n:Nat)=>(n:Int))
 |[]=>rfl
 | s::b=>by
   show((intsOf (s.map nD)).bind λk=>(ja (b.map aL)).map (k::·))=_;rw[nh,zL b];rfl
def rL (b:bW):isKey 78 (bD b)=true:=by
 show(ja (b.map aL)).isSome=true;rw[zL];rfl
def MJ (a b:bW):bH (bD a) (bD b)=decide (a=b):=Au a b
section
variable{Z:Env}{M:Mem}{a b:GE}{k:D->Mem->Prop}
def oE {c:Int}(e:M[j]?=some (.int c::es))(h:c=77\/c=78):cN M (a9 j)=some (c,es):=by
 unfold cN;rw[if_pos (show 5000<=a9 j from Q7 _ _),show a9 j-5000=j from Qc _ _,e];exact if_pos h
def mZ {h:Type}(f g:h->D)(l:List h)(x:D):c9 (l.map λy=>.tup [f y,g y]) x=(l.find? λy=>bH (f y) x).map g:=by
 unfold c9;rw[List.find?_map,Option.map_map];rfl
def zZ {x:D}{o:Nat}{y d:D}(h:a Z M=.ok (.fn o) M)(u:b Z M=.ok y M)(e:getD M o y=some d):je a b Z M=.ok d M:=by
 unfold je;rw[h];show(b Z M).bind _=_;rw[u];show bV M (getD M o y)=_;rw[e];rfl
end
def fC (m:bf)(d:bb):List D:=.int 77::(b9 m).map λs=>.tup [aL s,aL (cu d s)]
section
variable{P:Nat->Option Df}{M:Mem}{m:bf}{d:bb}{j:Nat}
def m7 (e:M[j]?=some (fC m d))(hm:aO m)(hs:gy m s):getD M (a9 j) (aL s)=some (aL (cu d s)):=by
 unfold getD;rw[oE e (.inl rfl)];show(if isKey 77 (aL s)=true then c9 ((b9 m).map λs=>.tup [aL s,aL (cu d s)]) (aL s) else none)=_;rw[if_pos (vD s),mZ aL λs=>aL (cu d s)];have e2:((b9 m).find? λy=>bH (aL y) (aL s))=some s:=by
  cases h:(b9 m).find? λy=>bH (aL y) (aL s) with
  |none=>exact absurd (Hb s) (List.find?_eq_none.mp h s (CQ hm hs))
  | some y=>
    have:=List.find?_some h;rw[uo] at this;rw[of_decide_eq_true this]
 rw[e2];rfl
def HR (h152:P 152=some {2,2,eL})(n:Nat)(e:M[j]?=some (fC m d))(hm:aO m)(hl:b.length<=16)(h:∀s∈b,gy m s):ag P (n+1) 152 [.fn (a9 j),bD b] M=.ok (bD (b.map (cu d))) M:=by
 refine ak (aC h152 rfl ?_);simp only[eL,av,bR,du,bA,eK,bS,gU,bh];refine{_,rfl,rfl,?_};refine lN (λx=>(getD M (a9 j) x).getD .non) (aw `o) rfl ?_ ?_
 ·intro x u;obtain⟨s,hs,rfl⟩:=Pp.mp u;refine{_,rfl,?_};rw[m7 e hm (h s hs)];exact zZ (x:=.non) rfl rfl (m7 e hm (h s hs))
 ·have e2:(b.map aL).map (λx=>(getD M (a9 j) x).getD .non)=(b.map (cu d)).map aL:=by
   rw[QG,QG];refine Q4 λs hs=>?_;show(getD M (a9 j) (aL s)).getD .non=_;rw[m7 e hm (h s hs)];rfl
  rw[e2];exact bF.mpr {aw `o,rfl,rfl}
end
theorem vn {u F:Type}{f:u->List F}:∀{l:List u},l.Nodup->(∀a,(f a).Nodup)->(∀a b x,a≠b->x∈f a->x∉f b)->(l.flatMap f).Nodup
 |[],_,_,_=>`s
 | a::l,h,h1,h2=>by
   rw[List.flatMap_cons,List.nodup_append];rw[Qy] at h;refine{h1 a,vn h.2 h1 h2,λx B y E e=>?_};subst e;obtain⟨b,v,j⟩:=List.mem_flatMap.mp E;exact h2 a b x (λz=>h.1 (z ▸ v)) B j
noncomputable def vm (s:List Nat):∀{l:List Nat},l.Nodup->(l.map λx=>s++[x]).Nodup
 |[],_=>`s
 | a::l,h=>by
   rw[Qy] at h;rw[Qt,Qy];refine{λz=>?_,vm s h.2};obtain⟨b,j,e⟩:=Pp.mp z;have e:b=a:=by simpa using e
   exact h.1 (e ▸ j)
noncomputable def uu (w:Nat):∀p,(cY w p).Nodup
 |0=>by unfold cY;simp
 | p+1=>by
   unfold cY pT;refine vn (uu w p) (λs=>vm s List.nodup_range) λa b x h u v=>?_;obtain⟨i,_,rfl⟩:=Pp.mp u;obtain⟨j,_,e⟩:=Pp.mp v;exact h (List.append_inj_left' e rfl).symm
def LV {v:Type}{l:List v}(h:l.Nodup){i j:Nat}{x:v}(u:i<j)(hi:l[i]?=some x)(y:l[j]?=some x):False:=by
 obtain⟨h1,e1⟩:=O1.mp hi;obtain⟨h2,e2⟩:=O1.mp y;exact List.pairwise_iff_getElem.mp h i j h1 h2 u (e1.trans e2.symm)
section
variable{Z:Env}{M:Mem}{k:D->Mem->Prop}{kl:List D->Mem->Prop}
def GJ {c:Int}(h:af (w Z M) λw M=>af (cQ (cU tg g (List.replicate n none++Z)) w [.fn (a9 M.length)] (M++[[.int c]])) λacc M=>∃d,acc=[d]/\k d M):af (jX c n tg w g Z M) k:=by
 refine a8.mpr (aD h λw M h=>a8.mpr (aD h ?_));rintro _ M ⟨d,rfl,h⟩;exact h
def Kb (h1:gk Z M=.ok x M)(h2:gv Z M=.ok y M)(e:cN M o=some q)(hk:isKey q.1 x=true)(hl:q.2.length<1000000)(h:kl [.fn o] (M.set (o-5000) (.int q.1::putD q.2 x y))):af (jf gk gv Z [.fn o] M) kl:=by
 unfold jf;rw[h1];show af ((gv Z M).bind _) kl;rw[h2];show af (match cN M o with|some q=>if isKey q.1 x=true/\q.2.length<1000000 then Res.ok [D.fn o] (M.set (o-5000) (.int q.1::putD q.2 x y)) else .bad|none=>.bad) kl
 rw[e];show af (if isKey q.1 x=true/\q.2.length<1000000 then Res.ok [D.fn o] (M.set (o-5000) (.int q.1::putD q.2 x y)) else .bad) kl;rw[if_pos ⟨hk,hl⟩];exact h
end
def u9 (h:c9 es x=none):putD es x y=es++[.tup [x,y]]:=by
 unfold putD;rw[h];rfl
section
variable{P:Nat->Option Df}{M:Mem}{m:bf}{d:bb}
def Bv (h:j=M.length):(M++[x]).set j y=M++[y]:=by
 subst h;rw[List.set_append_right _ _ (O4 _),Nat.sub_self];rfl
def zB {n:Nat}(B:∀s M,gy m s->ag P (n+2) 24 [d.d,aL s] M=.ok (aL (cu d s)) M)(hm:aO m)(hk:k (.fn (a9 M.length)) (M++[fC m d])) :
 af (jX 77 1 (.one 0) (dv (aa 2)) (jf (aa 0) (ai 24 (ag P (n+2)) #[aa 1,aa 0])) [some d.d,y,some (.lst ((b9 m).map aL))] M) k:=by
 refine GJ ?_;simp only[gU,bh];refine{_,rfl,rfl,?_};have bl:=uq hm;have nd:=uu m.words m.places;refine dS (λi h v=>h=[.fn (a9 M.length)]/\v=M++[.int 77::((b9 m).take i).map λs=>.tup [aL s,aL (cu d s)]]) (λ_ _ _ _=>rfl) {rfl,`s} ?_ ?_
 ·rintro i x h v hd ⟨rfl,rfl⟩;rw[PZ] at hd;cases e:(b9 m)[i]? with
  |none=>rw[e] at hd;cases hd
  | some s=>
    rw[e] at hd;have hd:=Ph hd;subst hd;have hs:=v7 s (PF e);simp only[cU,a8,f6];refine{_,rfl,?_};have F:(M++[.int 77::((b9 m).take i).map λs=>D.tup [aL s,aL (cu d s)]])[M.length]?=some (.int 77::((b9 m).take i).map λs=>D.tup [aL s,aL (cu d s)]):=`s
    refine Kb rfl ((aP (ae rfl (ae rfl rfl))).trans (B s _ hs)) (oE F (.inl rfl)) (vD s) `o {rfl,?_}
    have none:c9 (((b9 m).take i).map λs=>.tup [aL s,aL (cu d s)]) (aL s)=Option.none:=by
     rw[mZ aL λs=>aL (cu d s)];rw[List.find?_eq_none.mpr];rfl;intro t H;rw[uo];intro z;have z:=of_decide_eq_true z;subst z;obtain⟨j,E⟩:=List.getElem?_of_mem H;have u:j<i:=by
      have:=(O1.mp E).1;simp at this;omega
     rw[List.getElem?_take_of_lt u] at E;exact LV nd u E e
    rw[u9 none];rw[show a9 M.length-5000=M.length from Qc _ _,Bv rfl,Rj,e];simp
 ·rintro h v ⟨rfl,rfl⟩;rw[O7,Qn (O4 _)];exact{_,rfl,hk}
end
section
variable{Z:Env}{M:Mem}
def He (e:a Z M=.ok x M):fz (.one i) a Z M=.ok (.next (Z.set i (some x))) M:=by
 unfold fz;rw[e];rfl
def nt (e:s Z M=.ok xs M):bL f c s Z M=c f xs M:=by
 unfold bL;rw[e]
end
noncomputable def d4 (m:bf)(L:Nat):D:=.lst ((List.range m.deeds.length).map λi=>.tup [nD (cst m i),.fn (a9 (L+i))])
def vU (e:m.deeds[i]?=some d):di m i=d:=by
 unfold di;rw[Qk,e];rfl
section
variable{P:Nat->Option Df}{M:Mem}{m:bf}
def Bl (u:HasB0 P)(hr:kQ P)(h15:P 15=some {1,6,dP})(h151:P 151=some {1,2,eZ})(n:Nat)(hm:aO m)(v:∀d∈m.deeds,∃a t c,d=.turn a t c):ag P (n+10) 151 [m.d] M=.ok (d4 m M.length) (M++m.deeds.map (fC m)):=by
 refine ak (aC h151 rfl ?_);refine aY (He ((nt (ae rfl rfl)).trans (u2 u h15 n hm))) ?_;simp only[av,bR,eK,gU,ji,bh,cV];refine{_,rfl,_,rfl,rfl,?_};have d6:=hm.d6;refine comp_map (λi h j=>h=(List.range i).map (λi=>.tup [nD (cst m i),.fn (a9 (M.length+i))])/\j=M++(m.deeds.take i).map (fC m)) (aw `o) (λ_ _ _ _=>rfl) {rfl,`s} ?_ ?_
 ·rintro i x h j hd _ ⟨rfl,rfl⟩;rw[PZ] at hd;cases e:m.deeds[i]? with
  |none=>rw[e] at hd;cases hd
  | some d=>
    rw[e] at hd;have hd:=Ph hd;subst hd;have y:=(O1.mp e).1;have hok:=hm.ok d (PF e);refine{_,rfl,?_};simp only[gm,bA,ji,bh,rS,cV,bS];refine{_,rfl,_,rfl,nD d.cost,qN,?_};refine zB (λs M hs=>Fn hr (n+7) (v d (PF e)) hm hok hs) hm {aw (n:=2) `d,?_,?_}
    ·have l:(M++(m.deeds.take i).map (fC m)).length=M.length+i:=by simp;omega
     rw[l,List.range_succ,PL];have c:cst m i=d.cost:=by unfold cst;rw[vU e]
     rw[<- c];rfl
    ·rw[Rj,e];simp
 ·rintro h j _ ⟨rfl,rfl⟩;rw[O7,Qn (O4 _)];exact bF.mpr {aw `o,rfl,rfl}
end
section
variable{Z ρ':Env}{M M':Mem}{a b d:GE}{t rest:GS}{kf:Fl->Mem->Prop}
def mM (e:t Z M=.ok (.next ρ') M')(h:af (rest ρ' M') kf):af (bg t rest Z M) kf:=by
 rw[av,e];exact h
def Ks (h:a Z M=.ok x M)(j:b Z M=.ok (.fn o) M)(e:inD M o x=some r):lH n a b Z M=.ok (.bl (n != r)) M:=by
 unfold lH;rw[h];show(b Z M).bind _=_;rw[j];show(match inD M o x with|some r=>Res.ok (D.bl (n != r)) M|none=>.bad)=_
 rw[e]
def GV (h:a Z M=.ok (.fn o) M)(e:cN M o=some q):mi a Z M=.ok (nD q.2.length) M:=by
 unfold mi;rw[h];show(match cN M o with|some q=>Res.ok (D.int q.2.length) M|none=>.bad)=_
 rw[e]
def KS (h:a Z M=.ok (.cell j) M)(hd:d Z M=.ok z M)(e:M[j]?=some ds)(hl:ds.length<sz):km a d Z M=.ok (.next Z) (M.set j (ds++[z])):=by
 unfold km;rw[h];show(d Z M).bind _=_;rw[hd];show(match M[j]? with|some ds=>if ds.length<sz then Res.ok (Fl.next Z) (M.set j (ds++[z])) else .bad|none=>.bad)=_
 rw[e];exact if_pos hl
def HL (e:s Z M=.ok xs M)(hl:xs.length<=100):aU s Z M=.ok (.tup xs) M:=by
 unfold aU;rw[e];exact if_pos (aw `a)
def J1 {i j:Int}(h1:a Z M=.ok (.int i) M)(h2:b Z M=.ok (.int j) M):aj (aH .gt a b) Z M=.ok (decide (j<i)) M:=by
 refine aT (i4.mpr (eY.mpr ?_));rw[h1,bU,h2,bU];exact{_,rfl,_,rfl,rfl,rfl}
def Md {i:Int}(ha:a Z M=.ok (.int i) M)(h1:z.length<=1000)(h2:y.length<=1000)(h3:i.natAbs<2^64):oq z y a Z M=.ok (.str (z++(toString i:Str)++y)) M:=by
 unfold oq;rw[ha];exact if_pos ⟨h1,h2,h3⟩
end
abbrev ri:=List (bW×Nat×List Nat)
set_option tactic.hygienic true in
def vM (I:Nat->Env->Mem->Prop)(X:Fl->Mem->Prop)(B:∀fl M,X fl M->∀Z,fl≠.next Z)(E:∀i Z M,I i Z M->w M=some ds)(v:∀fl M,X fl M->w M=some ds)(y:I 0 Z M)
 (hs:∀i d Z M,ds[i]?=some d->I i Z M->∃ρ1,b4 t d Z=some ρ1/\af (gb ρ1 M) λfl M=>(∃ρ',fl=.next ρ'/\I (i+1) ρ' M)\/X fl M) (hk:∀Z M,I ds.length Z M->kf (.next Z) M) (F:∀fl M,X fl M->kf fl M) :
 af (cQ (fy t gb) w (.next Z) M) kf:=by
 refine dS (λi fl M=>(∃Z,fl=.next Z/\I i Z M)\/X fl M) (λi fl M h=>h.elim ((by rintro⟨Z,_,h⟩;exact E i Z M h)) λh=>v fl M h) (.inl ⟨Z,rfl,y⟩) ?_ ?_
 ·rintro i d fl M hd (⟨Z,rfl,u⟩|j)
  ·obtain⟨ρ1,e,h⟩:=hs i d Z M hd u;simp only[fy,a8,f6,e];exact⟨ρ1,rfl,h⟩
  ·cases fl with
   |next Z=>exact absurd rfl (B _ _ j Z)
   |ret d=>exact .inr j
   |exc x Z=>exact .inr j
 ·rintro fl M (⟨Z,rfl,u⟩|j)
  ·exact hk Z M u
  ·exact F fl M j
structure NW (p:Nat) (E0:ri) (S:bW->Prop) (N:ri):Prop where
 nd:((E0++N).map (·.1)).Nodup
 fr:∀x∈N,S x.1/\x.2.1=p/\x.2.2.length<=p
 al:∀b,S b->b∈(E0++N).map (·.1)
def uE (p:Nat)(E0:ri)(S:bW->Prop):Prop:=∃N:ri,((E0++N).map (·.1)).Nodup/\(∀x∈N,S x.1/\x.2.1=p)/\255<(E0++N).length
def uE.mono (h:uE p E0 S)(hs:∀b,S b->S' b):uE p E0 S':=let⟨N,h1,h2,h3⟩:=h;{N,h1,λx j=>{hs _ (h2 x j).1,(h2 x j).2},h3}
def NW.old (h:NW p E0 S N)(hs:∀x,S' x↔S x\/x=b)(u:∃e∈E0++N,e.1=b):NW p E0 S' N:=
 {h.nd,λx j=>{(hs _).mpr (.inl (h.fr x j).1),(h.fr x j).2},λc v=>by
  rcases(hs c).mp v with z|z
  ·exact h.al c z
  ·obtain⟨e,he,y⟩:=u;rw[z,<- y];exact Qq he}
def NW.new (h:NW p E0 S N)(hs:∀x,S' x↔S x\/x=b)(v:∀e∈E0++N,e.1≠b)(hr:r.length<=p):NW p E0 S' (N++[(b,p,r)]):=by
 refine{?_,λx j=>?_,λc B=>?_}
 ·rw[<- Qv,PL,List.nodup_append];refine{h.nd,`s,λx j y u e=>?_}
  obtain⟨z,E,rfl⟩:=Pp.mp j;have u:y=b:=by simpa using u
  exact v z E (e.trans u)
 ·rcases PJ.mp j with z|z
  ·exact{(hs _).mpr (.inl (h.fr x z).1),(h.fr x z).2}
  ·obtain rfl:=Pj.mp z;exact{(hs _).mpr (.inr rfl),rfl,hr}
 ·rw[<- Qv,PL];rcases(hs c).mp B with z|z
  ·exact Qm _ (h.al c z)
  ·exact PR _ (by rw[z];exact Pj.mpr rfl)
def uF (M:Mem)(fk:Nat)(x:D)(A:List bW):Prop:=x=.lst (A.map bD)\/∃c,x=.cell c/\c≠fk/\M[c]?=some (A.map bD)
def GG:∀{k i:Nat}{d:D},(dX k ds)[i]?=some d->∃x,ds[i]?=some x/\d=.tup [nD (k+i),x]:=by
 induction ds with
 |nil=>intro k i d h;simp[dX] at h
 | cons a ds j=>
   intro k i d h;cases i with
   |zero=>cases h;exact⟨a,rfl,rfl⟩
   | succ i=>
     obtain⟨x,h1,h2⟩:=j h;exact{x,h1,by rw[h2,Rt,Nat.add_comm 1 i]}
noncomputable def nk:∀{ds:List D}{k:Nat},(dX k ds).length=ds.length
 |[],_=>rfl
 |_::ds,k=>by show(dX (k+1) ds).length+1=ds.length+1;rw[nk]
def iF (m:bf)(p:Nat)(Ls:Nat->List bW)(i:Nat):List bW:=if cst m i<=p then Ls (p-cst m i) else []
def jH (m:bf)(p:Nat)(Ls:Nat->List bW)(i:Nat)(b:bW):Prop:=∃h,h<i/\b∈(iF m p Ls h).map (bw m h)
noncomputable def pr (e:bW×Nat×List Nat):bW×Nat:=(e.1,e.2.1)
section
variable{m:bf}{p:Nat}{E0 N:ri}{Ls:Nat->List bW}
def pw (E:ri):(E.map pr).map (·.1)=E.map (·.1):=by rw[QG];rfl
set_option tactic.hygienic true in
def ue (hm:aO m)(u:∀q,q<p->∀b,b∈Ls q↔cM m q b)(b:bW):jH m p Ls m.deeds.length b↔∃i j,i<m.deeds.length/\cst m i<=p/\cM m (p-cst m i) j/\b=bw m i j:=by
 constructor
 ·rintro⟨i,v,h⟩;have c:=jZ hm v;obtain⟨j,y,rfl⟩:=Pp.mp h;unfold iF at y;split at y
  ·next B=>exact{i,j,v,B,(u _ `a j).mp y,rfl}
  ·exact nomatch y
 ·rintro⟨i,j,v,B,hl,rfl⟩;have c:=jZ hm v;refine{i,v,Qq ?_};unfold iF;rw[if_pos B];exact(u _ `a j).mpr hl
def uM (hm:aO m)(v:0<p)(h:∀q,q<p->∀b,b∈Ls q↔cM m q b)(j:oW m p (E0.map pr))(nd:((E0++N).map (·.1)).Nodup)(B:x∈N)(u:jH m p Ls m.deeds.length x.1):cM m p x.1:=by
 refine(kz hm v).mpr {(ue hm h _).mp u,λq y hl=>?_};have z:=j.all q x.1 y hl;have E:x.1∈E0.map (·.1):=by rw[<- pw];exact Qq z
 rw[PL,List.nodup_append] at nd;exact nd.2.2 _ E _ (Qq B) rfl
def Gh (hm:aO m)(E:0<p)(v:∀q,q<p->∀b,b∈Ls q↔cM m q b)(B:oW m p (E0.map pr))(u:NW p E0 (jH m p Ls m.deeds.length) N):oW m (p+1) ((E0++N).map pr)/\∀b,b∈N.map (·.1)↔cM m p b:=by
 have fl:=λx j=>uM hm E v B u.nd j (u.fr x j).1;have back:∀b,cM m p b->∃x∈N,x.1=b:=λb hl=>by
  have F:=(ue hm v b).mpr ((kz hm E).mp hl).1;obtain⟨x,j,e⟩:=Pp.mp (u.al b F);rcases PJ.mp j with z|z
  ·have s:=B.sound (pr x) (Qq z);have s1:=e ▸ s.1;have:=w5 s1 hl;omega
  ·exact⟨x,z,e⟩
 refine{{by rw[pw];exact u.nd,λy H=>?_,λq b I hl=>?_},λb=>{λh=>?_,λh=>?_}}
 ·obtain⟨x,j,rfl⟩:=Pp.mp H;rcases PJ.mp j with z|z
  ·have s:=B.sound (pr x) (Qq z);exact{s.1,Nat.lt_succ_of_lt s.2}
  ·have e:x.2.1=p:=(u.fr x z).2.1;exact{by show cM m x.2.1 x.1;rw[e];exact fl x z,by show x.2.1<p+1;omega}
 ·rcases Nat.lt_or_ge q p with z|z
  ·rw[PL];exact Qm _ (B.all q b z hl)
  ·have:q=p:=`a
   subst this;obtain⟨x,j,rfl⟩:=back b hl;rw[PL];refine PR _ (Pp.mpr {x,j,?_});show(x.1,x.2.1)=_;rw[(u.fr x j).2.1]
 ·obtain⟨x,j,rfl⟩:=Pp.mp h;exact fl x j
 ·obtain⟨x,j,rfl⟩:=back b h;exact Qq j
end
noncomputable def lsN (Ls:Nat->List bW)(p:Nat)(A:List bW):Nat->List bW:=λq=>if q=p then A else Ls q
set_option tactic.hygienic true in
def xX {c:GT}{b:GS}{y:Fl->Mem->Prop}(I:Nat->Env->Mem->Prop)
 (hs:∀k Z M,I k Z M->af (c Z M) λv M1=>(v=false->y (.next Z) M1)/\(v=true->∃k',k=k'+1/\af (b Z M1) λfl j=>(∃ρ',fl=.next ρ'/\I k' ρ' j)\/((∀ρ',fl≠.next ρ')/\y fl j))) :
 ∀(n k:Nat) (Z:Env) (M:Mem),k<n->I k Z M->af (jI c b n Z M) y:=by
 intro n;induction n with
 |zero=>intro k Z M h;exact absurd h (Nat.not_lt_zero _)
 | succ n F=>
   intro k Z M h E;unfold jI;refine a8.mpr (aD (hs k Z M E) λv M1 ⟨h1,h2⟩=>?_);cases v with
   |false=>exact h1 rfl
   | true=>
     obtain⟨k',rfl,h3⟩:=h2 rfl;rw[if_pos rfl];refine a8.mpr (aD h3 λfl j h4=>?_);rcases h4 with⟨ρ',rfl,u⟩|⟨u,B⟩
     ·exact F k' ρ' j `a u
     ·cases fl with
      |next ρ'=>exact absurd rfl (u ρ')
      |ret d=>exact B
      |exc x ρ'=>exact B
def By {c:GT}{b:GS}{Z:Env}{M:Mem}{j:Fl->Mem->Prop}(I:Nat->Env->Mem->Prop)
 (hs:∀k Z M,I k Z M->af (c Z M) λv M1=>(v=false->j (.next Z) M1)/\(v=true->∃k',k=k'+1/\af (b Z M1) λfl u=>(∃ρ',fl=.next ρ'/\I k' ρ' u)\/((∀ρ',fl≠.next ρ')/\j fl u))) {k:Nat} (hk:k<100000) (h:I k Z M):af (lg c b Z M) j:=xX I hs 100000 k Z M hk h
section
variable{M:Mem}{m:bf}{L0 lv fk p:Nat}{E0:ri}{lvs:List D}{Ls:Nat->List bW}{Z:Env}
def JI {x:D}{A:List bW}(h:uF M fk x A):mK M x=some (!A.isEmpty):=by
 rcases h with rfl|⟨c,rfl,_,e⟩
 ·show some (!(A.map bD).isEmpty)=_;rw[List.isEmpty_map]
 ·show(M[c]?).map (λxs=>!xs.isEmpty)=_;rw[e];show some (!(A.map bD).isEmpty)=_;rw[List.isEmpty_map]
theorem uQ {M:Mem}{g:Nat->Bool}:∀{l:List D}{k:Nat},(∀i x,l[i]?=some x->mK M x=some (g (k+i)))->i1 M l=some ((List.range l.length).map λi=>g (k+i))
 |[],_,_=>rfl
 | a::l,k,h=>by
   show(mK M a).bind (λb=>(i1 M l).map (b::·))=_;have j:=h 0 a rfl;have h1:=uQ (l:=l) (k:=k+1) (M:=M) (g:=g) λi x u=>by
    have:=h (i+1) x u;rw[this,Rt,Nat.add_comm 1 i]
   rw[j,h1,Q9,List.range_succ_eq_map,Qt,QG];show some (g (k+0)::_)=_
   congr 2
   refine Q4 λi _=>?_;show g (k+1+i)=g (k+(i+1));rw[Rt,Nat.add_comm 1 i]
end
section
variable{Z:Env}{M M':Mem}{kf:Fl->Mem->Prop}
def Hd (e:a Z M=.ok x M'):fz (.one i) a Z M=.ok (.next (Z.set i (some x))) M':=by
 unfold fz;rw[e];rfl
def Az (e:a Z M=.ok x M'):ax (.one i) a Z M=.ok (.next (Z.set i (some x))) M':=by
 unfold ax;rw[e];rfl
def Hf (u:a Z M=.ok (.cell j) M)(h:dG (d Z M) (λz M1=>∃ds,M1[j]?=some ds/\ds.length<sz/\kf (.next Z) (M1.set j (ds++[z]))) (λx M1=>kf (.exc x Z) M1)):af (lW a d Z M) kf:=by
 unfold lW;rw[u];show af (rY (λz M=>match M[j]? with|some ds=>if ds.length<sz then Res.ok (Fl.next Z) (M.set j (ds++[z])) else .bad|none=>.bad) Z (d Z M)) kf
 cases e:d Z M with
 |bad=>rw[e] at h;exact h.elim
 |err x M1=>rw[e] at h;exact h
 | ok z M1=>
   rw[e] at h;obtain⟨ds,e1,hl,h⟩:=h;show af (match M1[j]? with|some ds=>if ds.length<sz then Res.ok (Fl.next Z) (M1.set j (ds++[z])) else .bad|none=>.bad) kf
   rw[e1];show af (if ds.length<sz then Res.ok (Fl.next Z) (M1.set j (ds++[z])) else .bad) kf
   rw[if_pos hl];exact h
end
noncomputable def nr {α:Type}(k:α->bW)(v:α->D)(E:List α):List D:=.int 78::E.map λe=>.tup [bD (k e),v e]
section
variable{α:Type}{k:α->bW}{v:α->D}{E:List α}{M:Mem}{j:Nat}{b:bW}{x:α}
def pU:c9 (E.map λe=>.tup [bD (k e),v e]) (bD b)=(E.find? λe=>decide (k e=b)).map v:=by
 refine(mZ (λe=>bD (k e)) v E (bD b)).trans ?_
 congr 2
 funext x
 exact MJ _ b
def oC (e:M[j]?=some (nr k v E)):cN M (a9 j)=some (78,E.map λe=>.tup [bD (k e),v e]):=oE e (.inr rfl)
def Ml (e:M[j]?=some (nr k v E)):inD M (a9 j) (bD b)=some (E.any λe=>decide (k e=b)):=by
 unfold inD;rw[oC e];show(if isKey 78 (bD b)=true then some (c9 _ (bD b)).isSome else none)=_;rw[if_pos (rL b),pU,Rh]
 congr 1
 rw[QA,List.find?_isSome,Rn]
def Kq (hn:∀e∈E,k e≠b):putD (E.map λe=>.tup [bD (k e),v e]) (bD b) z=(E.map λe=>.tup [bD (k e),v e])++[.tup [bD b,z]]:=by
 refine u9 ?_;rw[pU,List.find?_eq_none.mpr];rfl;exact λx h e=>hn x h (of_decide_eq_true e)
theorem vR:∀{E:List α},(E.map k).Nodup->∀{x:α},x∈E->(E.find? λe=>decide (k e=k x))=some x
 |[],_,_,h=>nomatch h
 | a::E,nd,x,h=>by
   rw[Qt,Qy] at nd;rw[List.find?_cons];by_cases e:k a=k x
   ·rw[decide_eq_true e];rcases Pr.mp h with z|z
    ·rw[z]
    ·exact absurd (by rw[e];exact Qq z) nd.1
   ·rw[decide_eq_false e];rcases Pr.mp h with z|z
    ·exact absurd (by rw[z]) e
    ·exact vR nd.2 z
def Kr (e:M[j]?=some (nr k v E))(nd:(E.map k).Nodup)(h:x∈E):getD M (a9 j) (bD (k x))=some (v x):=by
 unfold getD;rw[oC e];show(if isKey 78 (bD (k x))=true then c9 _ (bD (k x)) else none)=_;rw[if_pos (rL _),pU,vR nd h];rfl
def GQ {a b d:GE}{x z:D}(hd:d Z M=.ok z M1)(h:a Z M1=.ok (.fn o) M1)(u:b Z M1=.ok x M1)(e:cN M1 o=some q)(hk:isKey q.1 x=true)(hl:q.2.length<1000000):kj a b d Z M=.ok (.next Z) (M1.set (o-5000) (.int q.1::putD q.2 x z)):=by
 unfold kj;rw[hd];show(a Z M1).bind _=_;rw[h];show(b Z M1).bind _=_;rw[u];show(match cN M1 o with|some q=>if isKey q.1 x=true/\q.2.length<1000000 then Res.ok (Fl.next Z) (M1.set (o-5000) (.int q.1::putD q.2 x z)) else .bad|none=>.bad)=_
 rw[e];exact if_pos ⟨hk,hl⟩
def CC {M1:Mem}{a b d:GE}(hd:d Z M=.ok (v x) M1)(h:a Z M1=.ok (.fn (a9 j)) M1)(u:b Z M1=.ok (bD (k x)) M1)(e:M1[j]?=some (nr k v E))(hl:E.length<1000000)(hn:∀e∈E,k e≠k x):kj a b d Z M=.ok (.next Z) (M1.set j (nr k v (E++[x]))):=by
 rw[GQ hd h u (oC e) (rL _) (by rw[O7];exact hl),show a9 j-5000=j from Qc _ _,Kq hn]
 unfold nr;rw[PL];rfl
def KU (h:(true != E.any λe=>decide (k e=b))=true):∀e∈E,k e≠b:=λe he z=>by
 rw[show(E.any λe=>decide (k e=b))=true from List.any_eq_true.mpr {e,he,decide_eq_true z}] at h;cases h
def Hg (h:(true != E.any λe=>decide (k e=b))=false):∃e∈E,k e=b:=by
 cases z:(E.any λe=>decide (k e=b)) with
 | true=>
   obtain⟨e,he,y⟩:=Rn.mp z;exact{e,he,of_decide_eq_true y}
 |false=>rw[z] at h;cases h
end
def gZ (m:bf)(r:List Nat)(b:bW)(q:Nat):Prop:=(∀i∈r,i<m.deeds.length)/\ends m r=b/\xA m r=q
section
variable{m:bf}{r:List Nat}{b:bW}{q i:Nat}
def gZ.nil:gZ m [] (b9 m) 0:={(λ_ h=>nomatch h),List.map_id _,rfl}
def gZ.snoc (h:gZ m r b q)(hi:i<m.deeds.length):gZ m (r++[i]) (bw m i b) (q+cst m i):=by
 refine{λk hk=>?_,?_,?_}
 ·rcases PJ.mp hk with z|z
  ·exact h.1 k z
  ·rw[Pj.mp z];exact hi
 ·rw[<- h.2.1];unfold ends bw;rw[QG];exact Q4 λs _=>tW r [i] s
 ·rw[<- h.2.2];show((r++[i]).map _).sum=_;rw[PL,List.sum_append];rfl
noncomputable def t8 (hm:aO m):∀r:List Nat,(∀i∈r,i<m.deeds.length)->r.length<=xA m r
 |[],_=>Q1 _
 | a::r,h=>by
   have c:=(jZ hm (h a Pn)).1;have t:=t8 hm r λi u=>h i (Pa _ u);show r.length+1<=cst m a+xA m r;omega
def gZ.len (hm:aO m)(h:gZ m r b q):r.length<=q:=h.2.2 ▸ t8 hm r h.1
end
abbrev F3:=List (bW×Nat×Nat)
noncomputable def vC (e:bW×Nat×Nat):D:=.tup [nD e.2.1,.cell e.2.2]
def pR (E:F3):List D:=nr (·.1) vC E
def un (E:F3):ri:=E.map λe=>(e.1,e.2.1,[])
def oY (E:F3):(un E).map (·.1)=E.map (·.1):=by unfold un;rw[QG];rfl
def kY (E N:F3):un (E++N)=un E++un N:=PL
def Hx (E:F3):(un E).length=E.length:=O7 _
def yc:(∃e∈un E,e.1=b)↔∃e∈E,e.1=b:=by
 constructor
 ·rintro⟨x,h,rfl⟩;obtain⟨e,he,rfl⟩:=Pp.mp h;exact⟨e,he,rfl⟩
 ·rintro⟨e,he,rfl⟩;exact{_,Qq he,rfl}
structure jF (B0:Nat) (M0 M:Mem) (m:bf) (lv fk:Nat) (E:F3) (L:List bW):Prop where
 f:M[fk]?=some (pR E)
 fl:fk<M0.length
 ll:lv<M0.length
 lo:B0<=M0.length
 l:M[M0.length]?=some (L.map bD)
 r:∀e∈E,(∃r,M[e.2.2]?=some (r.map nD)/\gZ m r e.1 e.2.1)/\e.2.2≠fk/\e.2.2≠M0.length/\e.2.2≠lv/\B0<=e.2.2
 k:aW fk M0 M
 nd:(E.map (·.1)).Nodup
def sV (c:Call):GS:=#v[ax (.one 10) (ai 152 c #[aa 7,aa 9]),aV (aj (lH true (aa 10) (aa 2))) #v[kj (aa 2) (aa 10) (aU #[aa 3,ah true .add (aF (je (aa 2) (aa 9)) (gI 1)) (aA false #[aa 5])]),km (aa 4) (aa 10),aV (aj (aH .gt (mi (aa 2)) (gI 255))) #v[eE 8 #[oq "rows have more than " " behaviours" (gI 255)]] aJ] aJ]
def f9 {M:Mem}(e:M[k]?=some x):k<M.length:=(O1.mp e).1
def kG (ea:a Z M=.ok x M1)(es:s Z M1=.ok xs M2):aM a s Z M=.ok (x::xs) M2:=by
 unfold aM;rw[ea];show(s Z M1).bind _=_;rw[es];rfl
def iL (h:a Z M=.ok x M)(j:b Z M=.ok y M):ah k o a b Z M=fi k o x y M:=by
 unfold ah;rw[h];show(b Z M).bind _=_;rw[j];rfl
def r6 (e:s Z M=.ok xs M1)(hl:xs.length<=100):aU s Z M=.ok (.tup xs) M1:=by
 unfold aU;rw[e];exact if_pos (aw `a)
section
variable{P:Nat->Option Df}{M0 M:Mem}{m:bf}{lk lv fk p i B0:Nat}{E:F3}{L:List bW}{b:bW}{x0 x1 x6 x8 x10:Option D}
def KI (h152:P 152=some {2,2,eL})(n:Nat)(hm:aO m)(hE:E.length<=255)(s:jF B0 M0 M m lv fk E L)(hL:L.length<=255)(ek:M[lk]?=some (fC m (di m i)))(hp:p<=900)(hi:i<m.deeds.length)
 (hl:b.length<=16) (hb:∀s∈b,gy m s) (O:∃e∈E,e.1=b/\e.2.1+cst m i=p) :
 af (sV (ag P (n+1)) [x0,x1,some (.fn (a9 fk)),some (nD p),some (.cell M0.length),some (nD i),x6,some (.fn (a9 lk)),x8,some (bD b),x10] M) λfl M'=>
  ((∃e∈E,e.1=bw m i b)/\M'=M/\fl=.next [x0,x1,some (.fn (a9 fk)),some (nD p),some (.cell M0.length),some (nD i),x6,some (.fn (a9 lk)),x8,some (bD b),some (bD (bw m i b))])\/
  ((∀ e ∈ E,e.1 ≠ bw m i b) /\ ∃ c,jF B0 M0 M' m lv fk (E++[(bw m i b,p,c)]) (L++[bw m i b]) /\
    ((E.length < 255 /\ fl = .next [x0,x1,some (.fn (a9 fk)),some (nD p),some (.cell M0.length),some (nD i),x6,some (.fn (a9 lk)),x8,some (bD b),some (bD (bw m i b))]) \/
     (E.length=255/\∃Z,fl=.exc (.exc 8 none) Z))):=by
 refine aY (bI (x:=bD (bw m i b)) ((aP (ae rfl (ae rfl rfl))).trans (HR h152 n ek hm hl hb))) ?_;refine bP (bq (Ks rfl rfl (Ml s.f))) (λI=>?_) λI=>.inl {Hg I,rfl,rfl};have B:=KU I;obtain⟨e,he,S,Y⟩:=O;obtain⟨⟨r,er,ro⟩,_⟩:=s.r e he;have hr:=ro.len hm;have u:=f9 s.l;have U:=Kr s.f s.nd he;rw[S] at U;have e1:(M++[(r++[i]).map nD])[fk]?=some (pR E):=by rw[O9 (f9 s.f)];exact s.f
 have ev:aU #[aa 3,ah true .add (aF (je (aa 2) (aa 9)) (gI 1)) (aA false #[aa 5])] [x0,x1,some (.fn (a9 fk)),some (nD p),some (.cell M0.length),some (nD i),x6,some (.fn (a9 lk)),x8,some (bD b),some (bD (bw m i b))] M=.ok (vC (bw m i b,p,M.length)) (M++[(r++[i]).map nD]):=by
  refine r6 (kG rfl (kG ?_ rfl)) (Pb rfl);refine(iL (b8 (zZ (x:=.non) rfl rfl U) rfl rfl) (ft (ae rfl rfl) (Pb rfl))).trans ?_;show(match M[e.2.2]?,(some [nD i]:Option (List D)) with|some x,some y=>bt true (x++y) M|_,_=>.bad)=_
  rw[er];show(if (r.map nD++[nD i]).length<=sz then _ else _)=_;rw[if_pos (aw `o),PL];rfl
 refine mM (M':=(M++[(r++[i]).map nD]).set fk (pR (E++[(bw m i b,p,M.length)]))) (CC ev rfl rfl e1 `a B) ?_
 have W:=PH s.fl;have F:((M++[(r++[i]).map nD]).set fk (pR (E++[(bw m i b,p,M.length)])))[M0.length]?=some (L.map bD):=by rw[Pc W,O9 u];exact s.l
 refine mM (KS rfl rfl F (by rw[O7];exact Nat.lt_of_le_of_lt hL `d)) ?_
 generalize v:((M++[(r++[i]).map nD]).set fk (pR (E++[(bw m i b,p,M.length)]))).set M0.length (L.map bD++[bD (bw m i b)])=M';have old:∀{j:Nat}{x:List D},j≠fk->j≠M0.length->M[j]?=some x->M'[j]?=some x:=λ{j x} h1 h2 e=>by
  rw[<- v,Pc (Qi h2),Pc (Qi h1),O9 (f9 e)];exact e
 have s2:jF B0 M0 M' m lv fk (E++[(bw m i b,p,M.length)]) (L++[bw m i b]):=by
  refine{?_,s.fl,s.ll,s.lo,?_,λX J=>?_,{?_,λj hj n=>?_},?_}
  ·rw[<- v,Pc (Qi W),PK (by simp;exact Nat.lt_succ_of_lt (f9 s.f))]
  ·rw[<- v,PK `o,PL];rfl
  ·rcases PJ.mp J with z|z
   ·obtain⟨⟨r',H,R⟩,k1,k2,k3⟩:=s.r X z;exact{{r',old k1 k2 H,R},k1,k2,k3}
   ·obtain rfl:=Pj.mp z;refine{{r++[i],?_,?_},Qg (f9 s.f),Qg u,Qg (Nat.lt_trans s.ll u),Pk s.lo (Rf u)}
    ·rw[<- v,Pc (PH u),Pc (PH (f9 s.f))];simp
    ·have:=ro.snoc hi;rw[Y,S] at this;exact this
  ·rw[<- v];have:=s.k.len;simp;omega
  ·rw[<- v,Pc `a,Pc (Qi n),O9 `a];exact s.k.at' j hj n
  ·rw[PL,List.nodup_append];exact{s.nd,`s,λx hx y Q z=>by
    obtain⟨w,hw,rfl⟩:=Pp.mp hx;have Q:y=bw m i b:=by simpa using Q
    exact B w hw (z.trans Q)}
 refine bP (J1 (GV rfl (oC s2.f)) rfl) (λh=>?_) λh=>?_
 ·have h:=of_decide_eq_true h;simp only[av,Bz];refine bA.mpr ?_;rw[Md rfl `d `d `d,bU]
  refine{aw `d,.inr {B,_,s2,.inr {?_,_,rfl}}}
  simp at h;omega
 ·have h:=of_decide_eq_false h;refine .inr {B,_,s2,.inl {?_,rfl}};simp at h;omega
end
section
variable{P:Nat->Option Df}{M0 M:Mem}{m:bf}{lk lv fk p i B0:Nat}{E0:F3}{A:List bW}{x8:D}{S:bW->Prop}{x0 x1 x6 x9 x10:Option D}
def vA (h:uF M0 fk x8 A)(k:aW fk M0 M):cE M x8=some (A.map bD):=by
 rcases h with rfl|⟨c,rfl,j,e⟩
 ·rfl
 ·exact k.get e j
def Gr (h152:P 152=some {2,2,eL})(n:Nat)(hm:aO m)(hi:i<m.deeds.length)(ek:M0[lk]?=some (fC m (di m i)))(hk:lk≠fk)(R:uF M0 fk x8 A)(U:∀b∈A,∃e∈E0,e.1=b/\e.2.1+cst m i=p)(hok:∀b∈A,b.length<=16/\∀s∈b,gy m s)(hp:p<=900)
 (s:jF B0 M0 M m lv fk (E0++N) (N.map (·.1))) (h:NW p (un E0) S (un N)) (hl:(E0++N).length<=255)
 (k1:∀M' u J v,jF B0 M0 M' m lv fk (E0++u) (u.map (·.1))->NW p (un E0) (λb=>S b\/b∈A.map (bw m i)) (un u)->(E0++u).length<=255->kf (.next [x0,x1,some (.fn (a9 fk)),some (nD p),some (.cell M0.length),some (nD i),x6,some (.fn (a9 lk)),some x8,J,v]) M')
 (k2:∀Z M',aW fk M0 M'->uE p (un E0) (λb=>S b\/b∈A.map (bw m i))->kf (.exc (.exc 8 none) Z) M') :
 af (d8 (.one 9) (dv (aa 8)) (sV (ag P (n+1))) [x0,x1,some (.fn (a9 fk)),some (nD p),some (.cell M0.length),some (nD i),x6,some (.fn (a9 lk)),some x8,x9,x10] M) kf:=by
 simp only[fX,gU,bh];refine{_,rfl,by rcases R with rfl|⟨c,rfl,_⟩<;>rfl,?_}
 refine vM (ds:=A.map bD) (λj Z M'=>∃u J v,jF B0 M0 M' m lv fk (E0++u) (u.map (·.1))/\NW p (un E0) (λb=>S b\/b∈(A.take j).map (bw m i)) (un u)/\(E0++u).length<=255/\Z=[x0,x1,some (.fn (a9 fk)),some (nD p),some (.cell M0.length),some (nD i),x6,some (.fn (a9 lk)),some x8,J,v])
  (λfl M'=>(∃Z,fl=.exc (.exc 8 none) Z)/\aW fk M0 M'/\uE p (un E0) (λb=>S b\/b∈A.map (bw m i))) ?_ ?_ ?_ {N,x9,x10,s,?_,hl,rfl} ?_ ?_ ?_
 ·rintro fl M' ⟨⟨Z,rfl⟩,_⟩ ρ' z;cases z
 ·rintro j Z M' ⟨u,_,_,I,_⟩;exact vA R I.k
 ·rintro fl M' ⟨_,k,_⟩;exact vA R k
 ·exact{h.nd,λx F=>{.inl (h.fr x F).1,(h.fr x F).2},λb L=>L.elim (h.al b) λz=>by simp at z}
 ·rintro j x Z M' hd ⟨u,J,v,I,Q,B,rfl⟩;rw[PZ] at hd;cases e:A[j]? with
  |none=>rw[e] at hd;cases hd
  | some b=>
    rw[e] at hd;have hd:=Ph hd;subst hd;have L:=PF e;refine{_,rfl,?_};obtain⟨e0,W,eb,ep⟩:=U b L;have H:∀x,(S x\/x∈(A.take (j+1)).map (bw m i))↔((S x\/x∈(A.take j).map (bw m i))\/x=bw m i b):=λx=>by
     rw[Rj,e];simp[or_assoc]
    have O:∀x,(S x\/x∈(A.take (j+1)).map (bw m i))->(S x\/x∈A.map (bw m i)):=λx F=>F.imp id λz=>by
     obtain⟨y,hy,rfl⟩:=Pp.mp z;exact Qq (Qs hy)
    refine aD (KI h152 n hm B I (by rw[O7];simp at B;omega) (I.k.get ek hk) hp hi (hok b L).1 (hok b L).2 {e0,Qm _ W,eb,ep}) ?_
    rintro fl M' (⟨hin,rfl,rfl⟩|⟨hno,c,s2,hh⟩)
    ·exact .inl {_,rfl,u,_,_,I,Q.old H (by rw[<- kY];exact yc.mpr hin),B,rfl}
    ·have E:=Q.new H (r:=[]) (λx F z=>by
      rw[<- kY] at F;obtain⟨e2,X,z2⟩:=yc.mp ⟨x,F,z⟩;exact hno e2 X z2) (Q1 _)
     rw[show un u++[(bw m i b,p,[])]=un (u++[(bw m i b,p,c)]) from(kY u [(bw m i b,p,c)]).symm] at E;rw[Qv,show u.map (·.1)++[bw m i b]=(u++[(bw m i b,p,c)]).map (·.1) from by rw[PL];rfl] at s2
     rcases hh with⟨hlt,rfl⟩|⟨Y,Z,rfl⟩
     ·exact .inl {_,rfl,_,_,_,s2,E,by simp at hlt ⊢;omega,rfl}
     ·exact .inr {{_,rfl},s2.k,_,E.nd,λx F=>{O _ (E.fr x F).1,(E.fr x F).2.1},by rw[<- kY,Hx];simp at Y ⊢;omega}
 ·rintro Z M' ⟨u,J,v,I,Q,B,rfl⟩;rw[O7,Qn (O4 _)] at Q;exact k1 M' u J v I Q B
 ·rintro fl M' ⟨⟨Z,rfl⟩,k,ov⟩;exact k2 Z M' k ov
end
structure kM (B0:Nat) (M:Mem) (m:bf) (L0 lv fk:Nat) (E:F3) (lvs:List D) (p:Nat) (Ls:Nat->List bW):Prop where
 f:M[fk]?=some (pR E)
 l:M[lv]?=some lvs
 ne:lv≠fk
 len:lvs.length=p
 lvl:∀q x,lvs[q]?=some x->uF M fk x (Ls q)
 led:∀i,i<m.deeds.length->M[L0+i]?=some (fC m (di m i))/\L0+i≠fk/\L0+i≠lv
 lvn:∀(q c:Nat),lvs[q]?=some (D.cell c)->c≠lv
 row:∀e∈E,(∃r,M[e.2.2]?=some (r.map nD)/\gZ m r e.1 e.2.1)/\e.2.2≠fk/\e.2.2≠lv/\B0<=e.2.2
 lo:B0<=fk
 lss:∀q,q<p->∀b,b∈Ls q↔cM m q b
 all:oW m p ((un E).map pr)
 few:E.length<=255
def DH (c:Call):GS:=#v[ax (.one 8) (gj (aj (aH .le (aa 6) (aa 3))) (aF (aa 1) (ah false .sub (aa 3) (aa 6))) (aA false ba)),d8 (.one 9) (dv (aa 8)) (sV c)]
section
variable{P:Nat->Option Df}{M:Mem}{m:bf}{L0 lv fk p B0:Nat}{E0:F3}{lvs:List D}{Ls:Nat->List bW}
set_option tactic.hygienic true in
def Bj (hbn:∀c,bn c=#v[ax (.one 3) (aX .len #[aa 1]),ax (.one 4) (aA true ba),d8 (.two 5 [6,7]) (iw (aa 0)) (DH c),aR (aa 4)])(h152:P 152=some {2,2,eL})(hnx:P nx=some {3,11,bn})(n:Nat)(hm:aO m)(hp:p<=900)(s:kM B0 M m L0 lv fk E0 lvs p Ls) :
 dG (ag P (n+2) nx [d4 m L0,.cell lv,.fn (a9 fk)] M) (λd M'=>d=.cell M.length/\∃N,jF B0 M M' m lv fk (E0++N) (N.map (·.1))/\NW p (un E0) (jH m p Ls m.deeds.length) (un N)/\(E0++N).length<=255)
  (λx M'=>x=.exc 8 none/\uE p (un E0) (jH m p Ls m.deeds.length)/\aW fk M M'):=by
 refine cq hnx rfl ?_;show af (bn (ag P (n+1)) [some (d4 m L0),some (.cell lv),some (.fn (a9 fk)),none,none,none,none,none,none,none,none] M) _;rw[hbn];have hf:=f9 s.f;have hlv:=f9 s.l;have W:(E0.map (·.1)).Nodup:=by have:=s.all.nd;rw[pw,oY] at this;exact this
 have el:aX .len #[aa 1] [some (d4 m L0),some (.cell lv),some (.fn (a9 fk)),none,none,none,none,none,none,none,none] M=.ok (nD p) M:=by
  refine ak (du.mpr ?_);rw[ae rfl rfl,bU];show af (match M[lv]? with|some xs=>Res.ok (D.int xs.length) M|none=>.bad) _
  rw[s.l];exact{by show D.int (lvs.length:Int)=_;rw[s.len],rfl}
 refine aY (bI el) ?_;refine mM rfl ?_;rw[av];simp only[fX,ya,bh];refine{_,rfl,rfl,?_};have start:jF B0 M (M++[[]]) m lv fk (E0++[]) []:=by
  rw[Qz];refine{by rw[O9 hf];exact s.f,hf,hlv,Pk s.lo (Rf hf),`s,λe he=>?_,aW.app,W}
  obtain⟨⟨r,er,ro⟩,h1,h2⟩:=s.row e he;have:=f9 er;exact{{r,by rw[O9 this];exact er,ro},h1,PH this,h2}
 have F:∀q,q<p->∀b∈Ls q,(∃e∈E0,e.1=b/\e.2.1=q)/\b.length<=16/\∀s∈b,gy m s:=λq Q b u=>by
  have lb:=(s.lss q Q b).mp u;have ok:=yU hm lb.1;refine{?_,by rw[ok.1];exact uq hm,ok.2}
  have:=s.all.all q b Q lb;unfold un at this;rw[QG] at this;obtain⟨e,he,z⟩:=Pp.mp this;cases z;exact⟨e,he,rfl,rfl⟩
 refine vM (λi H M'=>∃N y5 y6 y7 X Y B,jF B0 M M' m lv fk (E0++N) (N.map (·.1))/\NW p (un E0) (jH m p Ls i) (un N)/\(E0++N).length<=255/\H=[some (d4 m L0),some (.cell lv),some (.fn (a9 fk)),some (nD p),some (.cell M.length),y5,y6,y7,X,Y,B])
  (λfl M'=>(∃H,fl=.exc (.exc 8 none) H)/\aW fk M M'/\uE p (un E0) (jH m p Ls m.deeds.length)) ?_ (λ_ _ _ _=>rfl) (λ_ _ _=>rfl) {[],none,none,none,none,none,none,start,?_,?_,rfl} ?_ ?_ ?_
 ·rintro fl M' ⟨⟨H,rfl⟩,_⟩ ρ' z;cases z
 ·exact{by rw[show un []=[] from rfl,Qz,oY];exact W,(λx I=>nomatch I),(by rintro b ⟨i,O,_⟩;exact absurd O (Nat.not_lt_zero _))}
 ·rw[Qz];exact s.few
 ·rintro i x H M' I ⟨N,y5,y6,y7,X,Y,B,s',nw,hl,rfl⟩;obtain⟨x2,J,rfl⟩:=GG I;rw[PZ] at J;have O:i<m.deeds.length:=by
   have:=(O1.mp I).1;rw[nk] at this;simpa using this
  rw[Rp O] at J;cases J;rw[Nat.zero_add];refine{_,rfl,?_};obtain⟨hk1,hk2,_⟩:=s.led i O;have cok:=jZ hm O;have v:∀b,(jH m p Ls i b\/b∈(iF m p Ls i).map (bw m i))↔jH m p Ls (i+1) b:=λb=>by
   constructor
   ·rintro(⟨j,hj,h⟩|h)
    ·exact{j,Nat.lt_succ_of_lt hj,h}
    ·exact{i,Nat.lt_succ_self _,h}
   ·rintro⟨j,hj,h⟩;rcases Nat.lt_or_ge j i with z|z
    ·exact .inl ⟨j,z,h⟩
    ·have:j=i:=`a
     subst this;exact .inr h
  have hx8:∃x8,gj (aj (aH .le (aa 6) (aa 3))) (aF (aa 1) (ah false .sub (aa 3) (aa 6))) (aA false ba) [some (d4 m L0),some (.cell lv),some (.fn (a9 fk)),some (nD p),some (.cell M.length),some (nD i),some (nD (cst m i)),some (.fn (a9 (L0+i))),X,Y,B] M'=.ok x8 M'/\uF M fk x8 (iF m p Ls i):=by
   have U:aj (aH .le (aa 6) (aa 3)) [some (d4 m L0),some (.cell lv),some (.fn (a9 fk)),some (nD p),some (.cell M.length),some (nD i),some (nD (cst m i)),some (.fn (a9 (L0+i))),X,Y,B] M'=.ok (decide ((cst m i:Int)<=(p:Int))) M':=by
    exact aT (i4.mpr (eY.mpr (bh.mpr {_,rfl,bh.mpr {_,rfl,_,rfl,_,rfl,rfl,rfl}})))
   by_cases L:cst m i<=p
   ·have Q:p-cst m i<lvs.length:=by rw[s.len];omega
    refine{lvs[p-cst m i],iH U (λ_=>?_) (λz=>absurd `a (of_decide_eq_false z)),?_}
    ·refine b8 (y:=nD (p-cst m i)) rfl ?_ ?_
     ·refine ak (dg.mpr (bh.mpr {_,rfl,bh.mpr {_,rfl,yE.mpr {?_,rfl}}}))
      congr 1;omega
     ·show(M'[lv]?).bind _=_;rw[s'.k.get s.l s.ne];show((bO lvs.length ((p-cst m i:Nat):Int)).bind λj=>lvs[j]?)=_;rw[eI Q];exact PB Q
    ·have:=s.lvl _ _ (PB Q);unfold iF;rw[if_pos L];exact this
   ·refine{.lst [],iH U (λz=>absurd (of_decide_eq_true z) `a) (λ_=>ft rfl `d),?_}
    unfold iF;rw[if_neg L];exact .inl rfl
  obtain⟨x8,e8,l8⟩:=hx8;refine aY (bI e8) ?_;rw[av];have R:∀b∈iF m p Ls i,cst m i<=p/\b∈Ls (p-cst m i):=λb u=>by
   unfold iF at u;split at u
   ·next L=>exact⟨L,u⟩
   ·exact nomatch u
  refine Gr h152 n hm O hk1 hk2 l8 (λb u=>?_) (λb u=>?_) hp s' nw hl (λM2 N' z9 z10 s2 E hl'=>?_) λH M2 k2 ov=>?_
  ·obtain⟨L,h2⟩:=R b u;obtain⟨e,he,eb,eq⟩:=(F _ `a b h2).1
   exact{e,he,eb,`a}
  ·obtain⟨L,h2⟩:=R b u;exact(F _ `a b h2).2
  ·refine .inl {_,rfl,N',_,_,_,_,_,_,s2,?_,hl',rfl};exact{E.nd,λx I=>{(v _).mp (E.fr x I).1,(E.fr x I).2},λb u=>E.al b ((v b).mpr u)}
  ·refine .inr {{_,rfl},k2,ov.mono λb u=>?_};obtain⟨j,hj,h⟩:=(v b).mp u;exact{j,`a,h}
 ·rintro H M' ⟨N,y5,y6,y7,X,Y,B,s',nw,hl,rfl⟩;rw[nk,O7,QH] at nw;exact bY.mpr (bC rfl ⟨rfl,N,s',nw,hl⟩)
 ·rintro fl M' ⟨⟨H,rfl⟩,k,ov⟩;exact⟨rfl,ov,k⟩
end
section
variable{M M':Mem}{m:bf}{L0 lv fk p B0:Nat}{E0 N:F3}{lvs:List D}{Ls:Nat->List bW}{Z:Env}
set_option tactic.hygienic true in
def kM.next (hm:aO m)(H:0<p)(s:kM B0 M m L0 lv fk E0 lvs p Ls)(h:jF B0 M M' m lv fk (E0++N) (N.map (·.1)))(L:NW p (un E0) (jH m p Ls m.deeds.length) (un N))(hl:(E0++N).length<=255) :
 kM B0 (M'.set lv (lvs++[.cell M.length])) m L0 lv fk (E0++N) (lvs++[.cell M.length]) (p+1) (lsN Ls p (N.map (·.1))):=by
 obtain⟨h1,h2⟩:=Gh hm H s.lss s.all L;rw[oY] at h2;rw[<- kY] at h1;have I:=Pu h.ll h.k.len;have old:∀{c:Nat}{x:List D},c≠fk->c≠lv->M[c]?=some x->(M'.set lv (lvs++[.cell M.length]))[c]?=some x:=λn1 n2 e=>by
  rw[Pc (Qi n2)];exact h.k.get e n1
 refine{?_,PK I,s.ne,by simp[s.len],λq x j=>?_,λi F=>?_,λq c u=>?_,λe he=>?_,s.lo,λq v b=>?_,h1,hl}
 ·rw[Pc s.ne];exact h.f
 ·rcases Nat.lt_or_ge q p with z|z
  ·rw[O9 (by rw[s.len];exact z)] at j
   unfold lsN;rw[if_neg `a]
   rcases s.lvl q x j with y|⟨c,y,n1,e⟩
   ·exact .inl y
   ·exact .inr {c,y,n1,old n1 (s.lvn q c (y ▸ j)) e}
  ·have v:q=p:=by
    have:=(O1.mp j).1;simp[s.len] at this;omega
   subst v;rw[Py (by rw[s.len];exact O4 _),s.len,Nat.sub_self] at j
   cases j;unfold lsN;rw[if_pos rfl];refine .inr {_,rfl,Qg h.fl,?_};rw[Pc (PH h.ll)];exact h.l
 ·obtain⟨e1,e2,B⟩:=s.led i F;exact{old e2 B e1,e2,B}
 ·rcases Nat.lt_or_ge q p with z|z
  ·rw[O9 (by rw[s.len];exact z)] at u
   exact s.lvn q c u
  ·have v:q=p:=by
    have:=(O1.mp u).1;simp[s.len] at this;omega
   subst v;rw[Py (by rw[s.len];exact O4 _),s.len,Nat.sub_self] at u
   cases u;exact Qg h.ll
 ·obtain⟨⟨r,er,ro⟩,n1,_,E,J⟩:=h.r e he;exact{{r,by rw[Pc (Qi E)];exact er,ro},n1,E,J}
 ·unfold lsN;split
  ·next z=>rw[z];exact h2 b
  ·next z=>exact s.lss q `a b
def AA (s:kM B0 M m L0 lv fk E0 lvs p Ls)(F:p<=900)(hi:Z[i]?.getD none=some (.cell lv)):∃b:Bool,aj (pP (bZ false true false (aa i) (dw (gI 3)) gN)) Z M=.ok b M/\(b=false->∀q,q<p->p<=q+3->Ls q=[])/\(b=true->∃q,q<p/\p<=q+3/\Ls q≠[]):=by
 have y:bZ false true false (aa i) (dw (gI 3)) gN Z M=.ok (.lst (lvs.drop (p-3))) M:=by
  refine ak (gX.mpr (bh.mpr {_,hi,rS.mpr (cV.mpr {3,rfl,cV.mpr {rfl,rfl,?_}})}));show af (match M[lv]? with|some xs=>(match aK xs.length 0 (.int (-3)),aK xs.length xs.length .non with|some l,some h=>bt false (cut xs l h) M|_,_=>.bad)|none=>.bad) _
  rw[s.l];show af (bt false (cut lvs (-3+(lvs.length:Int)).toNat lvs.length) M) _;have hl:=s.len;have e1:(-3+(lvs.length:Int)).toNat=p-3:=`a
  have e2:cut lvs (p-3) lvs.length=lvs.drop (p-3):=by
   exact Qn `s
  rw[e1,e2];exact bF.mpr {aw `o,rfl,rfl}
 refine{((List.range (lvs.drop (p-3)).length).map λj=>!(Ls (p-3+j)).isEmpty).any id,?_,λh q H E=>?_,λh=>?_}
 ·refine bq ?_;unfold pP;rw[y];show(match i1 M (lvs.drop (p-3)) with|some bs=>Res.ok (D.bl (bs.any id)) M|none=>.bad)=_
  rw[uQ (g:=λq=>!(Ls q).isEmpty) λj x u=>?_];rw[List.getElem?_drop] at u;exact JI (s.lvl _ x u)
 ·have z:=List.any_eq_false.mp h;have h1:=z (!(Ls q).isEmpty) (Pp.mpr {q-(p-3),?_,?_})
  ·cases e:(Ls q) with
   |nil=>rfl
   |cons a l=>rw[e] at h1;exact absurd rfl h1
  ·rw[QF,QL,s.len];omega
  ·rw[show p-3+(q-(p-3))=q by omega]
 ·obtain⟨x,u,v⟩:=Rn.mp h;obtain⟨j,B,rfl⟩:=Pp.mp u;rw[QF,QL,s.len] at B;refine{p-3+j,`a,`a,λz=>?_}
  rw[z] at v;cases v
def MG {c:Int}(h:c=77\/c=78)(h1:gk Z (M++[[D.int c]])=.ok x (M++[[D.int c]]))(h2:gv Z (M++[[D.int c]])=.ok y (M++[D.int c]::X))(hk:isKey c x=true):vK c gk gv Z M=.ok (.fn (a9 M.length)) (M++[D.int c,D.tup [x,y]]::X):=by
 unfold vK;rw[h1];show(gv Z (M++[[D.int c]])).bind _=_;rw[h2];have e:cN (M++[D.int c]::X) (a9 M.length)=some (c,[]):=oE `s h
 show(match cN (M++[D.int c]::X) (a9 M.length) with|some q=>if isKey q.1 x=true/\q.2.length<1000000 then Res.ok (D.fn (a9 M.length)) ((M++[D.int c]::X).set (a9 M.length-5000) (.int q.1::putD q.2 x y)) else .bad|none=>.bad)=_
 rw[e];show(if isKey c x=true/\0<1000000 then Res.ok (D.fn (a9 M.length)) ((M++[D.int c]::X).set (a9 M.length-5000) (.int c::putD [] x y)) else .bad)=_;rw[if_pos {hk,`d},show a9 M.length-5000=M.length from Qc _ _,List.set_append_right _ _ (O4 _),Nat.sub_self]
 rfl
end
def AllIn (m:bf)(A:List (bW×Nat)):Prop:=∃p,oW m p A/\∀q,p<=q->∀b,¬ cM m q b
section
variable{P:Nat->Option Df}{M:Mem}{m:bf}
set_option tactic.hygienic true in
def yL (Y:∀c,bn c=#v[ax (.one 3) (aX .len #[aa 1]),ax (.one 4) (aA true ba),d8 (.two 5 [6,7]) (iw (aa 0)) (DH c),aR (aa 4)])
 (hbr:∀c,br c=#v[fz (.one 2) (bL 151 c #[aa 0]),ax (.one 3) (aX .tuple #[ai 15 c #[aa 0]]),ax (.one 4) (vK 78 (aa 3) (aU #[gI 0,aA true ba])),ax (.one 5) (aA true #[aA false #[aa 3]]),lg (dM (aj (pP (bZ false true false (aa 5) (dw (gI 3)) gN))) (cT (aj (aH .isN (aa 1) gN)) (aj (aH .le (aX .len #[aa 5]) (aa 1))))) #v[lW (aa 5) (bL nx c #[aa 2,aa 5,aa 4])],c6])
 (hb:HasB0 P) (hr:kQ P) (h15:P 15=some {1,6,dP}) (h151:P 151=some {1,2,eZ}) (h152:P 152=some {2,2,eL}) (hnx:P nx=some {3,11,bn}) (hrc:P rc=some {2,6,br}) (n:Nat) (hm:aO m) (ht:∀d∈m.deeds,∃a t c,d=.turn a t c) (O:∀A,AllIn m A->255<A.length) :
 dG (ag P (n+11) rc [m.d,.non] M) (λ_ _=>False) (λx M'=>x=.exc 8 none/\Sub M M'):=by
 refine cq hrc rfl ?_;show af (br (ag P (n+10)) [some m.d,some D.non,none,none,none,none] M) _;rw[hbr];refine mM (Hd ((nt (ae rfl rfl)).trans (Bl hb hr h15 h151 n hm ht))) ?_;have et:aX .tuple #[ai 15 (ag P (n+10)) #[aa 0]] [some m.d,some D.non,some (d4 m M.length),none,none,none] (M++m.deeds.map (fC m))=.ok (bD (b9 m)) (M++m.deeds.map (fC m)):=by
  refine ak (du.mpr ?_);rw[ae ((aP (ae rfl rfl)).trans (u2 hb h15 (n+1) hm)) rfl,bU];exact⟨rfl,rfl⟩
 refine mM (Az et) ?_;generalize F:M++m.deeds.map (fC m)=h;have ev:aU #[gI 0,aA true ba] [some m.d,some D.non,some (d4 m M.length),some (bD (b9 m)),none,none] (h++[[D.int 78]])=.ok (.tup [.int 0,.cell (h.length+1)]) (h++[D.int 78]::[[]]):=by
  refine r6 (kG rfl (kG ?_ rfl)) (Pb rfl);show Res.ok (D.cell (h++[[D.int 78]]).length) ((h++[[D.int 78]])++[[]])=_;rw[Pt,Qv];rfl
 refine mM (Az (MG (.inr rfl) rfl ev (rL _))) ?_;generalize u:h++[D.int 78,D.tup [bD (b9 m),D.tup [D.int 0,D.cell (h.length+1)]]]::[[]]=y;refine mM rfl ?_;have l1:h.length=M.length+m.deeds.length:=by rw[<- F];simp
 have l2:y.length=h.length+2:=by rw[<- u];simp
 have s1:Sub M (y++[[.lst [bD (b9 m)]]]):=by rw[<- u,<- F,Qv,Qv];exact Sub.app
 have start:kM M.length (y++[[.lst [bD (b9 m)]]]) m M.length y.length h.length [(b9 m,0,h.length+1)] [.lst [bD (b9 m)]] 1 (λ_=>[b9 m]):=by
  refine{?_,`s,`a,rfl,λq x J=>?_,λi hi=>?_,λq c hc=>?_,?_,`a,λq hq b=>?_,{by simp[un],λx J=>?_,λq b hq hl=>?_},Pb rfl}
  ·rw[O9 `a,<- u,Py (O4 _),Nat.sub_self];rfl
  ·cases q with
   |zero=>cases J;exact .inl rfl
   |succ q=>simp at J
  ·refine{?_,`a,`a}
   rw[O9 `a,<- u,O9 `a,<- F,Py `a]
   rw[Qc,PZ,PB hi];rw[<- vU (PB hi)];rfl
  ·cases q with
   |zero=>cases hc
   |succ q=>simp at hc
  ·intro e he;obtain rfl:=Pj.mp he;refine{{[],?_,gZ.nil},by show h.length+1≠h.length;omega,by show h.length+1≠y.length;omega,by show M.length<=h.length+1;omega}
   rw[O9 (by show h.length+1<y.length;omega),<- u,Py (by show h.length<=h.length+1;omega)]
   rw[Qc];rfl
  ·have:q=0:=`a
   subst this;rw[ky hm];exact Pj
  ·have J:=Pj.mp J;subst J;exact{(ky hm).mpr rfl,Nat.zero_lt_one}
  ·have:q=0:=`a
   subst this;rw[(ky hm).mp hl];exact Pj.mpr rfl
 rw[av];refine By (λk Z M'=>∃p E I W g,k=900-p/\1<=p/\g<=3/\p+2<=3*E.length+g/\(∀q,q<p->p<=q+g->W q=[])/\kM M.length M' m M.length y.length h.length E I p W/\Sub M M'/\Z=[some m.d,some D.non,some (d4 m M.length),some (bD (b9 m)),some (.fn (a9 h.length)),some (.cell y.length)]) ?_ `a {1,_,_,_,0,rfl,`a,`a,Pb rfl,λq h1 h2=>`a,start,s1,rfl}
 rintro k Z M' ⟨p,E,I,W,g,rfl,R,hg,hpg,Q,s,v,rfl⟩;have few:=s.few;have hp:p<=800:=`a
 obtain⟨b,e1,B,H⟩:=AA s `a (Z:=[some m.d,some D.non,some (d4 m M.length),some (bD (b9 m)),some (.fn (a9 h.length)),some (.cell y.length)]) (i:=5) rfl
 rw[j0 e1 (lY (t:=aj (aH .isN (aa 1) gN)) rfl),bU];refine{λU=>?_,λU=>?_}
 ·rw[Bool.and_true] at U;have:=O _ {p,s.all,w6 hm R λq' h1 h2 c hl=>by
   have:=(s.lss q' h1 c).mpr hl;rw[B U q' h1 h2] at this;exact nomatch this}
  simp[un] at this;omega
 ·have X:=(Q3.mp U).1;have hg2:g<=2:=by
   obtain⟨q,h1,h2,h3⟩:=H X;rcases Nat.lt_or_ge g 3 with z|z
   ·omega
   ·exact absurd (Q q h1 `a) h3
  refine{900-(p+1),`a,?_}
  rw[av];have L:=Bj Y h152 hnx (n+8) hm `a s
  refine Hf rfl ?_;rw[nt (ae rfl (ae rfl (ae rfl rfl)))];have sN:∀{S:Mem},aW h.length M' S->Sub M S:=λk=>{Pk v.len k.len,λj hj=>(k.at' j (Pu hj v.len) `a).trans (v.at' j hj)}
  cases e:ag P (n+8+2) nx [d4 m M.length,.cell y.length,.fn (a9 h.length)] M' with
  |bad=>rw[e] at L;exact L.elim
  | err x S=>
    rw[e] at L;obtain⟨rfl,ov,kk⟩:=L;exact .inr {(λ_ z=>nomatch z),rfl,sN kk}
  | ok d S=>
    rw[e] at L;obtain⟨rfl,N,s',nw,hl⟩:=L;refine{I,s'.k.get s.l s.ne,by rw[s.len];exact Nat.lt_of_le_of_lt hp `d,?_}
    have sx:=s.next hm R s' nw hl
    refine .inl {_,rfl,p+1,E++N,_,_,if N=[] then g+1 else 0,rfl,`a,?_,?_,λq h1 h2=>?_,sx,(sN s'.k).setq `a,rfl}
    ·split<;>omega
    ·cases N with
     |nil=>rw[if_pos rfl,Qz];omega
     |cons a N=>rw[if_neg `s,Pt,Q9];omega
    ·unfold lsN;split
     ·next z=>
      cases N with
      |nil=>rfl
      |cons a N=>rw[if_neg `s] at h2;omega
     ·next z=>
      cases N with
      |nil=>rw[if_pos rfl] at h2;exact Q q `a `a
      |cons a N=>rw[if_neg `s] at h2;omega
end
noncomputable def Ds (t:List Nat)(b:bW):bW:=b.map λs=>[t.getD (s.getD 0 0) 0]
structure mz (T:List (List Nat)) (m:bf):Prop where
 p:m.places=1
 ex:∀t∈T,∃c,.turn 0 t c∈m.deeds
section
variable{m:bf}{T:List (List Nat)}
def Fg (hs:∀s∈b,s.length=1)(e:di m i=.turn 0 t c):bw m i b=Ds t b:=by
 unfold bw Ds;rw[e];refine Q4 λs h=>?_
 match s,hs s h with
 |[x],_=>rfl
def Fy (hm:aO m)(h:mz T m)(r:gz m q b):∀s∈b,s.length=1:=λs hs=>((yU hm r).2 s hs).1.trans h.p
def Iq (hm:aO m)(h:mz T m)(r:gz m q b)(y:t∈T):∃q,gz m q (Ds t b):=by
 obtain⟨c,v⟩:=h.ex t y;obtain⟨i,j,e⟩:=List.getElem_of_mem v;have u:di m i=.turn 0 t c:=by unfold di;rw[Qk,PB j,e];rfl
 exact{_,by rw[<- Fg (Fy hm h r) u];exact .step r j}
end
noncomputable def jA (c:Nat):bW:=[[c % 4],[c / 4 % 4],[c / 16 % 4],[c / 64 % 4]]
noncomputable def J8:bW->Nat
 |[[a],[b],[c],[d]]=>a+4*b+16*c+64*d
 |_=>0
noncomputable def stC (t:List Nat)(c:Nat):Nat:=t.getD (c % 4) 0+4*t.getD (c / 4 % 4) 0+16*t.getD (c / 16 % 4) 0+64*t.getD (c / 64 % 4) 0
def GH (h:c<256):J8 (jA c)=c:=by show c % 4+4*(c / 4 % 4)+16*(c / 16 % 4)+64*(c / 64 % 4)=c;omega
def mf {t:List Nat}(h:∀x∈t,x<4)(i:Nat):t.getD i 0<4:=by
 rw[Qk];cases e:t[i]? with
 |none=>decide
 |some x=>exact h x (PF e)
def Kw (h:∀x∈t,x<4)(c:Nat):Ds t (jA c)=jA (stC t c):=by
 have a:=mf h (c % 4);have b:=mf h (c / 4 % 4);have d:=mf h (c / 16 % 4);have e:=mf h (c / 64 % 4);show [[t.getD (c % 4) 0],[t.getD (c / 4 % 4) 0],[t.getD (c / 16 % 4) 0],[t.getD (c / 64 % 4) 0]]=jA (stC t c);unfold stC;generalize t.getD (c % 4) 0=w at *;generalize t.getD (c / 4 % 4) 0=x at *;generalize t.getD (c / 16 % 4) 0=y at *;generalize t.getD (c / 64 % 4) 0=z at *;show _=[[(w+4*x+16*y+64*z) % 4],[(w+4*x+16*y+64*z) / 4 % 4],[(w+4*x+16*y+64*z) / 16 % 4],[(w+4*x+16*y+64*z) / 64 % 4]];rw[show(w+4*x+16*y+64*z) % 4=w by omega,show(w+4*x+16*y+64*z) / 4 % 4=x by omega,show(w+4*x+16*y+64*z) / 16 % 4=y by omega,show(w+4*x+16*y+64*z) / 64 % 4=z by omega]
noncomputable def lF (x:Nat):List Nat->Bool
 |[]=>false
 |y::r=>Nat.beq x y||lF x r
noncomputable def tO:∀{l:List Nat},lF x l=true->x∈l
 |[],h=>nomatch h
 | y::r,h=>by
   unfold lF at h;rw[QN] at h;rcases h with h|h
   ·rw[Nat.eq_of_beq_eq_true h];exact .head _
   ·exact .tail _ (tO h)
noncomputable def rQ (T:List (List Nat)):Nat->List Nat->List Nat->List Nat
 |0,_,S=>S
 |_+1,[],S=>S
 |n+1,c::Q,S=>rQ T n (Q++(T.map λt=>stC t c).filter λx=>!lF x S) (S++(T.map λt=>stC t c).filter λx=>!lF x S)
section
variable{m:bf}{T:List (List Nat)}
theorem tP (hm:aO m)(h:mz T m)(ht:∀t∈T,∀x∈t,x<4):∀(n:Nat) (Q S:List Nat),(∀c∈Q,∃q,gz m q (jA c))->(∀c∈S,∃q,gz m q (jA c))->∀c∈rQ T n Q S,∃q,gz m q (jA c)
 |0,_,_,_,hS=>hS
 |_+1,[],_,_,hS=>hS
 | n+1,c::Q,S,hQ,hS=>by
   have new:∀x∈(T.map λt=>stC t c).filter λx=>!lF x S,∃q,gz m q (jA x):=λx hx=>by
    obtain⟨t,h1,rfl⟩:=Pp.mp (QY.mp hx).1;obtain⟨q,r⟩:=hQ c (.head _);rw[<- Kw (ht t h1)];exact Iq hm h r h1
   exact tP hm h ht n _ _ (λx hx=>(PJ.mp hx).elim (λz=>hQ x (.tail _ z)) (new x)) λx hx=>(PJ.mp hx).elim (hS x) (new x)
def wq (hm:aO m)(h:mz T m)(B:∀t∈T,∀x∈t,x<4)(v:b9 m=jA 228)(g:((List.range 256).all λc=>lF c (rQ T 400 [228] [228]))=true)(u:AllIn m A):255<A.length:=by
 obtain⟨p,al,E⟩:=u;have st:∀c∈[228],∃q,gz m q (jA c):=λc j=>by
  rw[Pj.mp j,<- v];exact{0,.start}
 have:=len_sub (l:=List.range 256) (l':=A.map λx=>J8 x.1) List.nodup_range λc j=>by
  obtain⟨q,r⟩:=tP hm h B 400 _ _ st st c (tO (Pm.mp g c j));obtain⟨q,_,l⟩:=lC r;have y:q<p:=Nat.lt_of_not_le λz=>E q z _ l;exact Pp.mpr {_,al.all q _ y l,GH (QF.mp j)}
 rw[O7,QH] at this;omega
end
def qT (f:D->Bool)(g:D->D)(hz:ds.length<=sz)(y:w M=some ds)
 (hs:∀d∈ds,∃ρ1,b4 tg d ρ0=some ρ1/\gc ρ1 M=.ok (f d) M/\(f d=true->ge ρ1 M=.ok (g d) M)) (hk:kl ((ds.filter f).map g) M):af (cQ (cU tg (oo gc (cg ge)) ρ0) w [] M) kl:=by
 refine dS (λi j u=>u=M/\j=((ds.take i).filter f).map g) (λi j u h=>by rw[h.1];exact y) ⟨rfl,rfl⟩ ?_ ?_
 ·rintro i d j u hd ⟨rfl,rfl⟩;obtain⟨ρ1,e1,e2,v⟩:=hs d (PF hd);have B:i<ds.length:=(O1.mp hd).1;simp only[cU,e1,BQ,Res.bind_ok,oo,e2];rw[Rj,hd];cases q:f d with
  | false=>
    simp[q]
  | true=>
    rw[if_pos rfl];have len:(((ds.take i).filter f).map g).length<=i:=by
     rw[O7];exact Pk (List.length_filter_le _ _) `o
    simp only[cg,v q,Res.bind_ok];rw[if_pos `a]
    simp[q]
 ·rintro j u ⟨rfl,rfl⟩;simpa using hk
structure uG (P:Nat->Option Df):Prop where
 whole:P 67=some {1,1,js}
 is_in:P 68=some {3,3,lP}
 numbers:P 69=some {4,4,gR}
 is_deed:P 70=some {3,3,dj}
 is_machine:P 71=some {1,1,fj}
noncomputable def nE:D->Bool
 |.int _=>true
 |_=>false
def eq_empty (j:l.all (aq 63)=true):bp .eq (.lst l) (.lst []) M=some l.isEmpty:=by
 refine qc j rfl ?_;cases l<;>rfl
noncomputable def ot (f:D->Bool):∀ds:List D,((ds.filter λd=>!f d).map λ_=>D.int 1).isEmpty=ds.all f
 |[]=>rfl
 | d::r=>by
   have j:=ot f r;cases q:f d with
   |true=>simpa[q] using j
   |false=>simp[q]
def pC (f:D->Bool)(j:af (w Z M) λwk M'=>M'=M/\wk M=some ds)(hz:ds.length<=sz)(he:∀d∈ds,gc (some d::Z) M=.ok (!f d) M)(hk:k (.bl (ds.all f)) M) :
 af (aH .eq (cn false 1 (.one 0) w (oo gc (cg (gI 1)))) (aA false ba) Z M) k:=by
 simp only[eY,eK,oA,bS,bF];refine aD j ?_;rintro wk M' ⟨e1,e2⟩;subst e1;refine qT (λd=>!f d) (λ_=>.int 1) hz e2 (λd hd=>{some d::Z,rfl,he d hd,λ_=>rfl}) ?_;refine{Pk (by rw[O7];exact List.length_filter_le _ _) hz,aw `d,_,eq_empty ?_,?_}
 ·rw[Pm];intro x u;obtain⟨_,_,rfl⟩:=Pp.mp u;rfl
 ·rw[ot];exact hk
section
variable{P:Nat->Option Df}(h:uG P){M:Mem}{k L:Nat}{d:D}
include h
theorem k9 (n:Nat)(hd:Th k L d):ag P (n+1) 67 [d] M=.ok (.bl (nE d)) M:=by
 refine ak (aC h.whole rfl ?_);cases d with
 |fn j=>cases k<;>exact hd.elim
 |exc y p=>cases k<;>exact hd.elim
 |_=>exact cy rfl
theorem iN (n:Nat)(hd:Th k L d)(lo hi:Int):ag P (n+2) 68 [d,.int lo,.int hi] M=.ok (.bl (aZ lo hi d)) M:=by
 refine ak (aC h.is_in rfl ?_);have e:ai 67 (ag P (n+1)) #[aa 0] [some d,some (.int lo),some (.int hi)] M=.ok (.bl (nE d)) M:=oO rfl (k9 h n hd);cases d with
 |fn j=>cases k<;>exact hd.elim
 |exc y p=>cases k<;>exact hd.elim
 |int i=>exact bC (gx e λ_=>ub rfl rfl rfl) ⟨rfl,rfl⟩
 |_=>exact bC (gx (y:=false) e λz=>by cases z) ⟨rfl,rfl⟩
noncomputable def pB (many:Nat)(lo hi:Int):D->Bool
 |.tup j=>j.length==many&&j.all (aZ lo hi)
 |_=>false
theorem pa (n:Nat)(hd:Th k L d)(F:L<=100)(lo hi:Int):ag P (n+3) 69 [d,nD many,.int lo,.int hi] M=.ok (.bl (pB many lo hi d)) M:=by
 refine ak (aC h.numbers rfl ?_);cases d with
 |fn j=>cases k<;>exact hd.elim
 |exc y p=>cases k<;>exact hd.elim
 | tup u=>
   have E:=hd.tup;simp only[gR,av,la,bR,bY,Bb,hG,Lh,i4,NJ,cV,bh,Ac,Qt,List.map_nil,List.cons_append,Rg,P9,Qa,Qj,Qr,exists_eq_left'];refine{true,rfl,true,rfl,?_};rw[if_neg `d]
   refine eY.mpr (du.mpr (bA.mpr (bh.mpr {_,rfl,bS.mpr (Gi.mpr (bh.mpr {_,rfl,_,MH,_,rfl,?_}))})));by_cases B:u.length=many
   ·have v:(!((u.length:Int)==(many:Int)))=false:=by simp[B]
    rw[v,if_neg `d]
    refine pC (aZ lo hi) (by simp;exact⟨rfl,rfl⟩) (aw `a) (λd hd=>aT (by simp[iN h n (E.2 d hd)])) ?_
    exact{by simp[pB,B],rfl}
   ·have v:(!((u.length:Int)==(many:Int)))=true:=by simp;omega
    rw[v,if_pos `d]
    exact{by simp[pB,B],rfl}
 |_=>exact cy rfl
end
noncomputable abbrev cD:List D:=[.str "turn",.str "join",.str "move",.str "put"]
def zq (j:Th k L x)(hk:k<=60):bp .notin x (.tup cD) M=some (!(cD.any λy=>bH y x)):=by
 have u:aq 64 x=true:=(j.mono `a (O4 L)).pure
 have e:bp .notin x (.tup cD) M=((cE M (.tup cD)).bind (jd (view M x))).map (!·):=by cases x<;>rfl
 rw[e,j.view];show Option.map _ (jd x cD)=_;unfold jd;rw[u,show cD.all (aq 63)=true by decide +kernel]
 rfl
section
variable{P:Nat->Option Df}(h:uG P){M:Mem}{k L:Nat}{d:D}
include h
theorem zE (n:Nat)(hl:xs.length≠4/\xs.length≠5):ag P (n+4) 70 [.tup xs,nD w,nD p] M=.ok (.bl false) M:=by
 refine ak (aC h.is_deed rfl ?_);refine bB (aT ?_) rfl ⟨rfl,rfl⟩;have e:bp .notin (.int xs.length) (.tup [.int 4,.int 5]) M=some true:=by
  have e1:bH (.int 4) (.int xs.length)=false:=by simp[rW];omega
  have e2:bH (.int 5) (.int xs.length)=false:=by simp[rW];omega
  show(some ([D.int 4,D.int 5].any λy=>bH y (.int xs.length))).map (!·)=_;simp[e1,e2]
 simp[cj,e];exact aw `d
theorem xb (n:Nat)(j:Th k L x)(hk:k<=60)(hl:xs.length=3\/xs.length=4)(hn:(cD.any λy=>bH y x)=false):ag P (n+4) 70 [.tup (x::xs),nD w,nD p] M=.ok (.bl false) M:=by
 refine ak (aC h.is_deed rfl ?_);have e:bp .notin (.int (x::xs).length) (.tup [.int 4,.int 5]) M=some false:=by
  show(some ([D.int 4,D.int 5].any λy=>bH y (.int (x::xs).length))).map (!·)=_;rcases hl with e|e<;>simp[rW,e]
 have e2:=zq (M:=M) j hk;rw[hn] at e2;refine az (aT ?_) (bB (aT ?_) rfl ⟨rfl,rfl⟩)
 ·simp at e;simp[cj,e];exact aw `d
 ·simp[bO,e2];exact aw `d
theorem Ep (n:Nat)(j:L+1<=100)(y:da (.tup xs) (.int 1) M=some a)(il:da (.tup xs) (.int (-1)) M=some c)(u:Th k L a)(v:Th k L c) :
 (cT (bG (aj (ai 69 (ag P (n+3)) #[aU #[aF (aa 0) (gI 1)],gI 1,gI 0,ah false .sub (aa 2) (gI 1)]))) (bG (aj (ai 68 (ag P (n+3)) #[aF (aa 0) (dw (gI 1)),gI 1,gI 3]))):GT) [some (.tup xs),some (nD w),some (nD p)] M=.ok (!(aZ 0 ((p:Int)-1) a&&aZ 1 3 c)) M:=by
 have B:ag P (n+3) 69 [.tup [a],.int 1,.int 0,.int ((p:Int)-1)] M=.ok (.bl (pB 1 0 ((p:Int)-1) (.tup [a]))) M:=pa h n (d:=.tup [a]) (k:=k+1) ({`s,λd hd=>by rw[Pj.mp hd];exact u.mono (O4 k) (Rx L)}) j 0 _
 have E:=iN h (n+1) (M:=M) v 1 3;have F:1<=sz:=aw `d
 refine aT ?_;simp[-pM,y,il,B,E,F,pB];cases aZ 0 ((p:Int)-1) a<;>cases aZ 1 3 c<;>simp
end
def F5:bp .notin (.str "turn") (.tup cD) M=some false:=by
 show(jd (.str "turn") cD).map (!·)=_;decide +kernel
def F7:bp .notin (.str "join") (.tup cD) M=some false:=by
 show(jd (.str "join") cD).map (!·)=_;decide +kernel
def F6:bp .notin (.str "move") (.tup cD) M=some false:=by
 show(jd (.str "move") cD).map (!·)=_;decide +kernel
def Jq:bp .notin (.str "put") (.tup cD) M=some false:=by
 show(jd (.str "put") cD).map (!·)=_;decide +kernel
def DG:bp .ne (.bl x) (.bl y) M=some (x != y):=by cases x<;>cases y<;>rfl
def J0:bp .notin (.int 4) (.tup [.int 4,.int 5]) M=some false/\bp .notin (.int 5) (.tup [.int 4,.int 5]) M=some false:=⟨rfl,rfl⟩
section
variable{P:Nat->Option Df}(h:uG P){M:Mem}{k L:Nat}{d:D}
include h
theorem w9 (n:Nat)(u:L+1<=100)(y:Th k L a)(B:Th k L b)(E:Th k L c):ag P (n+4) 70 [.tup [.str "turn",a,b,c],nD w,nD p] M=.ok (.bl (i0 w p [a,b,c])) M:=by
 refine ak (aC h.is_deed rfl ?_);show af (dj _ [some (.tup [.str "turn",a,b,c]),some (nD w),some (nD p)] M) _;refine az (by kernel_rfl) (az (by kernel_rfl) ?_)
 have j:=Ep h n (w:=w) (p:=p) (M:=M) (xs:=[.str "turn",a,b,c]) u rfl rfl y E;cases A:(aZ 0 ((p:Int)-1) a&&aZ 1 3 c) with
 | false=>
   rw[A] at j;refine bB j rfl {?_,rfl};simp only[i0];rcases QW.mp A with q|q<;>simp[q]
 | true=>
   rw[A] at j;simp only[O2] at A;refine az j ?_;have q:=pa h n (M:=M) (many:=w) B `a 0 ((w:Int)-1)
   refine bB (v:=.bl (hZ w b)) (by kernel_rfl) (ak (by simp[bO,q];cases b<;>rfl)) {?_,rfl}
   simp[i0,A.1,A.2]
theorem zC (n:Nat)(u:L+1<=100)(y:Th k L a)(B:Th k L b)(E:Th k L c):ag P (n+4) 70 [.tup [.str "put",a,b,c],nD w,nD p] M=.ok (.bl (lq w p [a,b,c])) M:=by
 refine ak (aC h.is_deed rfl ?_);show af (dj _ [some (.tup [.str "put",a,b,c]),some (nD w),some (nD p)] M) _;refine az (by kernel_rfl) (az (by kernel_rfl) ?_)
 have j:=Ep h n (w:=w) (p:=p) (M:=M) (xs:=[.str "put",a,b,c]) u rfl rfl y E;cases A:(aZ 0 ((p:Int)-1) a&&aZ 1 3 c) with
 | false=>
   rw[A] at j;refine bB j rfl {?_,rfl};simp only[lq];rcases QW.mp A with q|q<;>simp[q]
 | true=>
   rw[A] at j;simp only[O2] at A;refine az j ?_;have q:=iN h (n+1) (M:=M) B 0 ((w:Int)-1);refine az (by kernel_rfl) (bB (v:=.bl (aZ 0 ((w:Int)-1) b)) (by kernel_rfl) (ak (by simp[bO,q])) {?_,rfl})
   simp[lq,A.1,A.2]
theorem xg (n:Nat)(u:L+1<=100)(v:Th k L a)(y:Th k L b)(E:Th k L c):ag P (n+4) 70 [.tup [.str "move",a,b,c],nD w,nD p] M=.ok (.bl (iq w p [a,b,c])) M:=by
 refine ak (aC h.is_deed rfl ?_);show af (dj _ [some (.tup [.str "move",a,b,c]),some (nD w),some (nD p)] M) _;refine az (by kernel_rfl) (az (by kernel_rfl) ?_)
 have j:=Ep h n (w:=w) (p:=p) (M:=M) (xs:=[.str "move",a,b,c]) u rfl rfl v E;cases A:(aZ 0 ((p:Int)-1) a&&aZ 1 3 c) with
 | false=>
   rw[A] at j;refine bB j rfl {?_,rfl};simp only[iq];rcases QW.mp A with q|q<;>simp[q]
 | true=>
   rw[A] at j;simp only[O2] at A;refine az j ?_;have q:=iN h (n+1) (M:=M) y 0 ((p:Int)-1);refine az (by kernel_rfl) (az (by kernel_rfl) ?_)
   cases B:aZ 0 ((p:Int)-1) b with
   | false=>
     rw[B] at q;exact bB (aT (by simp[bO,q])) rfl {by simp[iq,B],rfl}
   | true=>
     rw[B] at q;refine az (aT (by simp[bO,q])) (bB (by kernel_rfl) rfl {?_,rfl})
     simp[iq,A.1,A.2,B]
theorem xh (n:Nat)(H:L+1<=100)(I:Th k L a)(J:Th k L b)(he:Th k L e)(O:Th k L c):ag P (n+4) 70 [.tup [.str "join",a,b,e,c],nD w,nD p] M=.ok (.bl (gW w p [a,b,e,c])) M:=by
 refine ak (aC h.is_deed rfl ?_);show af (dj _ [some (.tup [.str "join",a,b,e,c]),some (nD w),some (nD p)] M) _;refine az (by kernel_rfl) (az (by kernel_rfl) ?_)
 have u:=Ep h n (w:=w) (p:=p) (M:=M) (xs:=[.str "join",a,b,e,c]) H rfl rfl I O;cases A:(aZ 0 ((p:Int)-1) a&&aZ 1 3 c) with
 | false=>
   rw[A] at u;refine bB u rfl {?_,rfl};simp only[gW];rcases QW.mp A with q|q<;>simp[q]
 | true=>
   rw[A] at u;simp only[O2] at A;refine az u ?_;have q:=iN h (n+1) (M:=M) J 0 ((p:Int)-1);refine az (by kernel_rfl) (az (by kernel_rfl) ?_)
   cases B:aZ 0 ((p:Int)-1) b with
   | false=>
     rw[B] at q;exact bB (aT (by simp[bO,q])) rfl {by simp[gW,B],rfl}
   | true=>
     rw[B] at q;refine az (aT (by simp[bO,q])) (az (by kernel_rfl) ?_)
     have F:gW w p [a,b,e,c]=jj w e:=by simp[gW,A.1,A.2,B]
     rw[F];cases e with
     |fn j=>exact absurd he (by cases k<;>exact id)
     |exc y p=>exact absurd he (by cases k<;>exact id)
     | tup E=>
       have Q:=he.tup;by_cases v:E.length=w
       ·refine az (aT (by simp[bO,cj,v])) ?_
        simp only[av,bR];refine pC (hZ w) (by simp[bO];exact⟨rfl,rfl⟩) (aw `a) (λd hd=>aT (by
         have q:=pa h n (M:=M) (many:=w) (Q.2 d hd) `a 0 ((w:Int)-1)
         have:pB w 0 ((w:Int)-1) d=hZ w d:=by cases d<;>rfl
         rw[this] at q;simp[q])) ?_
        exact{by simp[jj,v],rfl}
       ·have:¬ ((E.length:Int)=(w:Int)):=`a
        exact bB (aT (by simp[bO,cj,this])) rfl {by simp[jj,v],rfl}
     |_=>exact bB rfl rfl ⟨rfl,rfl⟩
omit h in
theorem zd (hl:ds.length≠3/\ds.length≠4):cf w p s ds=false:=by
 have t:i0 w p ds=false:=by
  match ds,hl with
  |[],_=>rfl
  |[_],_=>rfl
  |[_,_],_=>rfl
  |[_,_,_],hl=>simp at hl
  |_::_::_::_::_,_=>rfl
 have j:gW w p ds=false:=by
  match ds,hl with
  |[],_=>rfl
  |[_],_=>rfl
  |[_,_],_=>rfl
  |[_,_,_],_=>rfl
  |[_,_,_,_],hl=>simp at hl
  |_::_::_::_::_::_,_=>rfl
 have m:iq w p ds=false:=by
  match ds,hl with
  |[],_=>rfl
  |[_],_=>rfl
  |[_,_],_=>rfl
  |[_,_,_],hl=>simp at hl
  |_::_::_::_::_,_=>rfl
 have u:lq w p ds=false:=by
  match ds,hl with
  |[],_=>rfl
  |[_],_=>rfl
  |[_,_],_=>rfl
  |[_,_,_],hl=>simp at hl
  |_::_::_::_::_,_=>rfl
 unfold cf;rw[t,j,m,u];split<;>first|rfl|(split<;>first|rfl|(split<;>first|rfl|(split<;>rfl)))
theorem i9 (n:Nat)(hs:bp .notin (.str s) (.tup cD) M=some false)(j:bp .eq (.str s) (.str "join") M=some bj)(hl:xs.length=3/\bj=true\/xs.length=4/\bj=false):ag P (n+4) 70 [.tup (.str s::xs),nD w,nD p] M=.ok (.bl false) M:=by
 refine ak (aC h.is_deed rfl ?_);have u:2<=sz:=aw `d
 have v:4<=sz:=aw `d
 rcases hl with⟨e,rfl⟩|⟨e,rfl⟩
 ·refine az (aT (by simp[cj,e,J0.1,u])) (bB (aT ?_) rfl ⟨rfl,rfl⟩)
  simp[bO,hs,v,j,DG,e]
 ·refine az (aT (by simp[cj,e,J0.2,u])) (bB (aT ?_) rfl ⟨rfl,rfl⟩)
  simp[bO,hs,v,j,DG,e]
theorem zD (n:Nat)(hi:cj .tuple d=some false):ag P (n+4) 70 [d,nD w,nD p] M=.ok (.bl false) M:=by
 refine ak (aC h.is_deed rfl ?_);exact bB (aT (by simp[hi])) rfl ⟨rfl,rfl⟩
theorem yM (n:Nat)(hd:Th k L d)(hk:k<=60)(E:L+1<=100):ag P (n+4) 70 [d,nD w,nD p] M=.ok (.bl (gp w p d)) M:=by
 cases d with
 |fn j=>exact absurd hd (by cases k<;>exact id)
 |exc y p=>exact absurd hd (by cases k<;>exact id)
 | tup xs=>
   have H:=hd.tup;by_cases hl:xs.length≠4/\xs.length≠5
   ·rw[zE h n hl];cases xs with
    |nil=>rfl
    | cons x v=>
      simp at hl;cases x with
      |str s=>show _=Res.ok (D.bl (cf w p s v)) M;rw[zd {`a,`a}]
      |_=>rfl
   ·have hl:xs.length=4\/xs.length=5:=`a
    cases xs with
    |nil=>simp at hl
    | cons x v=>
      have F:=H.2 x Pn;have u:=λd hd=>H.2 d (Pa _ hd);have hl:v.length=3\/v.length=4:=by simp at hl;omega
      by_cases hn:(cD.any λy=>bH y x)=false
      ·rw[xb h n F hk hl hn];cases x with
       | str s=>
         show _=Res.ok (D.bl (cf w p s v)) M;have q:∀z:Str,D.str z∈cD->¬ s=z:=λz B e=>by
          subst e;rw[List.any_eq_false] at hn;exact hn _ B (by simp[Ey])
         rw[ze (q _ `s) (q _ `s) (q _ `s) (q _ `s)]
       |_=>rfl
      ·have hn:(cD.any λy=>bH y x)=true:=(Bool.not_eq_false _).mp hn;obtain⟨z,B,e⟩:=Rn.mp hn;have F:∃s:Str,x=.str s/\D.str s∈cD:=by
        simp only[cD,Pr,P8,or_false] at B;cases x with
        |str s=>rcases B with rfl|rfl|rfl|rfl<;>(rw[Ey,beq_iff_eq] at e;subst e;exact{_,rfl,`s})
        |_=>rcases B with rfl|rfl|rfl|rfl<;>cases e
       obtain⟨s,rfl,hs⟩:=F;show _=Res.ok (D.bl (cf w p s v)) M;simp only[cD,Pr,P8,or_false,D.str.injEq] at hs
       match v,u,hl with
       | [a,b,c],u,_=>
         simp only[Pr,P8,or_false,forall_eq_or_imp,forall_eq] at u;rcases hs with rfl|rfl|rfl|rfl
         ·rw[nV];exact w9 h n E u.1 u.2.1 u.2.2
         ·rw[nU];exact i9 h n F7 (mq `k M) (.inl ⟨rfl,rfl⟩)
         ·rw[nS];exact xg h n E u.1 u.2.1 u.2.2
         ·rw[nR];exact zC h n E u.1 u.2.1 u.2.2
       | [a,b,e,c],u,_=>
         simp only[Pr,P8,or_false,forall_eq_or_imp,forall_eq] at u;rcases hs with rfl|rfl|rfl|rfl
         ·rw[nV];exact i9 h n F5 (mq `k M) (.inr ⟨rfl,rfl⟩)
         ·rw[nU];exact xh h n E u.1 u.2.1 u.2.2.1 u.2.2.2
         ·rw[nS];exact i9 h n F6 (mq `k M) (.inr ⟨rfl,rfl⟩)
         ·rw[nR];exact i9 h n Jq (mq `k M) (.inr ⟨rfl,rfl⟩)
       |[],_,hl=>simp at hl
       |[_],_,hl=>simp at hl
       |[_,_],_,hl=>simp at hl
       |_::_::_::_::_::_,_,hl=>simp at hl
 |_=>exact zD h n rfl
theorem qv (n:Nat)(hd:Th k L d)(hk:k<=60)(Q:L+1<=100):ag P (n+5) 71 [d] M=.ok (.bl (eX d)) M:=by
 refine ak (aC h.is_machine rfl ?_);show af (fj _ [some d] M) _;by_cases hn:eD 3 d=false
 ·rw[tf hn];cases d with
  |fn j=>exact absurd hd (by cases k<;>exact id)
  |exc y p=>exact absurd hd (by cases k<;>exact id)
  | tup xs=>
    have I:((xs.length:Int)==3)=false:=P7.mpr λz=>ne_of_beq_false hn (Int.ofNat.inj z);exact d5 (fA (bu (b:=true) rfl) (lY (bq (vZ (iu rfl) rfl (show some (!((xs.length:Int)==3))=some true by rw[I];rfl))))) (bC rfl ⟨rfl,rfl⟩)
  |_=>exact bB rfl rfl ⟨rfl,rfl⟩
 ·match d,hd,hn with
  | .tup [a,b,c],hd,_=>
    have E:=hd.tup.2;have v:=E c (Pa _ (Pa _ Pn));have b1:=iN h (n+2) (M:=M) (E a Pn) 2 4;have b2:=iN h (n+2) (M:=M) (E b (Pa _ Pn)) 1 2;show af _ (ia λx H=>x=.bl (aZ 2 4 a&&(aZ 1 2 b&&(h9 c&&(tJ c).all (gp (eJ a) (eJ b)))))/\H=M);refine bP (fA (bu (b:=true) rfl) (fA (bq (b:=false) rfl) (bu (bq ((aP (ae (b8 rfl rfl rfl) (ae rfl (ae rfl rfl)))).trans b1))))) (λz=>?_) (λz=>?_)
    ·rw[Js z];exact bC rfl ⟨rfl,rfl⟩
    have F:=Jt z;rw[F];have t2:bG (aj (ai 68 (ag P (n+4)) #[aF (aa 0) (gI 1),gI 1,gI 2])) [some (.tup [a,b,c])] M=.ok (!aZ 1 2 b) M:=bu (bq ((aP (ae (b8 rfl rfl rfl) (ae rfl (ae rfl rfl)))).trans b2));cases B:aZ 1 2 b with
    | false=>
      rw[B] at t2;exact d5 (lY t2) (bC rfl ⟨rfl,rfl⟩)
    | true=>
      rw[B] at t2;obtain⟨ea,_,_⟩:=mx F `d
      obtain⟨J,_,_⟩:=mx B `d
      by_cases u:∃ds,c=.tup ds
      ·obtain⟨ds,rfl⟩:=u;have R:=v.tup;have O:(decide ((1:Int)<=(ds.length:Int))&&decide ((ds.length:Int)<=6))=h9 (.tup ds):=by
        show _=(decide (1<=ds.length)&&decide (ds.length<=6));rw[decide_eq_decide.mpr (show(1:Int)<=(ds.length:Int)↔1<=ds.length by omega),decide_eq_decide.mpr (show(ds.length:Int)<=6↔ds.length<=6 by omega)]
       have S:bG (aj (iU .le .le (gI 1) (aX .len #[aF (aa 0) (gI 2)]) (gI 6))) [some (.tup [a,b,.tup ds])] M=.ok (!h9 (.tup ds)) M:=by
        rw[<- O];exact bu (bq (ub (i:=(ds.length:Int)) rfl rfl rfl))
       refine bP (fA t2 (fA (bu (b:=true) rfl) S)) (λz=>?_) (λz=>?_)
       ·rw[Js z];exact bC rfl ⟨rfl,rfl⟩
       ·rw[Jt z,av,bR];refine pC (gp (eJ a) (eJ b)) (ds:=ds) ?_ (aw `a) (λd hd=>?_) ⟨rfl,rfl⟩
        ·rw[gU,b8 (d:=.tup ds) rfl rfl rfl,bU];exact⟨rfl,rfl,rfl⟩
        ·have q:=yM h n (w:=eJ a) (p:=eJ b) (M:=M) (R.2 d hd) hk Q;rw[<- ea,<- J] at q;exact bu (bq ((aP (ae rfl (ae (b8 rfl rfl rfl) (ae (b8 rfl rfl rfl) rfl)))).trans q))
      ·have e1:h9 c=false:=by cases c<;>first|rfl|exact absurd {_,rfl} u
       have e2:=ni v (.inr ⟨u,rfl⟩);rw[e1];exact d5 (fA t2 (lY (bu (b:=false) (bq (pL (b8 rfl rfl rfl) e2))))) (bC rfl ⟨rfl,rfl⟩)
  |.tup [],_,hn=>exact absurd rfl hn
  |.tup [_],_,hn=>exact absurd rfl hn
  |.tup [_,_],_,hn=>exact absurd rfl hn
  |.tup (_::_::_::_::r),_,hn=>exact absurd (by simp[eD]) hn
  |.non,_,hn=>exact absurd rfl hn
  |.bl _,_,hn=>exact absurd rfl hn
  |.int _,_,hn=>exact absurd rfl hn
  |.str _,_,hn=>exact absurd rfl hn
  |.lst _,_,hn=>exact absurd rfl hn
  |.frz _,_,hn=>exact absurd rfl hn
  |.cell _,_,hn=>exact absurd rfl hn
  |.fn _,_,hn=>exact absurd rfl hn
  |.exc _ _,_,hn=>exact absurd rfl hn
end
structure HasT0 (P:Nat->Option Df):Prop where
 but:P 64=some {2,4,eA}
 any:P 65=some {1,1,eB}
structure HasT (P:Nat->Option Df):Prop extends HasT0 P where
 signed:P 66=some {2,3,fF}
 bent:P 72=some {3,9,mH}
instance coeHasT {P:Nat->Option Df}:Coe (HasT P) (HasT0 P):=⟨HasT.toHasT0⟩
section
variable{Z:Env}{M:Mem}{a b lo hi:GE}{k:D->Mem->Prop}{kw:Walk->Mem->Prop}
@[simp] theorem Ht:af (om a Z M) kw↔af (a Z M) λx M=>∃z,x=.str z/\kw (λ_=>some (signs z)) M:=by
 simp only[om,a8];refine iff_of_eq ?_;congr 1;funext x M;cases x<;>simp
set_option tactic.hygienic true in
def Ka:af (mh hl hh a lo hi Z M) k↔af (a Z M) λx M=>af (lo Z M) λl M=>af (hi Z M) λh M=>b7 hl l=true/\b7 hh h=true/\∃z i j,x=.str z/\z.cps.size<=sz/\aK z.cps.size 0 l=some i/\aK z.cps.size z.cps.size h=some j/\k (.str (ib z i j)) M:=by
 simp only[mh,a8];refine iff_of_eq ?_
 congr 1;funext x M;congr 1;funext l M;congr 1;funext h M
 cases b7 hl l<;>cases b7 hh h<;>simp;cases x<;>simp;rename_i z;by_cases u:z.cps.size<=sz
 ·simp[u];cases aK z.cps.size 0 l<;>cases aK z.cps.size z.cps.size h<;>simp
 ·simp[u]
end
def fG (L:Nat)(z:Str):Prop:=z.cps.size<=L/\z.cps.all (· < 0x110000)=true
def fG.th (h:fG L z):Th n L (.str z):=by cases n<;>exact h
def Aj (h:fG L z):fG (j-i) (ib z i j)/\(ib z i j).cps.size<=z.cps.size-i:=by
 refine{{?_,?_},?_}
 ·simp[ib,cut];omega
 ·have h2:=h.2;rw[<- Array.all_toList,Pm] at h2;rw[List.all_toArray,Pm];intro x u;exact h2 x (Rk (Qs u))
 ·simp[ib,cut];omega
def add_str (h:x.cps.size+y.cps.size<=sz):af (fi m .add (.str x) (.str y) M) k↔k (.str {x.cps++y.cps}) M:=by
 show af (if x.cps.size+y.cps.size<=sz then Res.ok (D.str {x.cps++y.cps}) M else .bad) k↔_;rw[if_pos h];exact Qo
noncomputable abbrev Nb:Str:=" !\"#$&'()*+,-./0123456789:;<=>?@ABCDEFGHIJKLMNOPQRSTUVWXYZ[\\]^_`"
noncomputable abbrev Na:Str:="abcdefghijklmnopqrstuvwxyz{|}~\t\n"
def allSigns:Str:={Nb.cps++Na.cps}
def Hi:af (fi false .add (.str Nb) (.str Na) M) k↔k (.str allSigns) M:=add_str (Pk `k (aw (n:=200) `d))
def g9:(0<(signs allSigns).length/\(signs allSigns).length<=200)/\allSigns.cps.size<=200/\((signs allSigns).all λd=>match d with|.str z=>!kZ z ""&&z.cps.size==1&&z.cps.all (· < 0x110000)|_=>false)=true:=`k
def sign_is (h:d∈signs allSigns):∃z:Str,d=.str z/\kZ z ""=false/\fG 1 z:=by
 have q:=Pm.mp g9.2.2 d h;cases d with
 | str z=>
   simp only[O2,Q2,beq_iff_eq] at q;exact{z,rfl,q.1.1,by rw[q.1.2];exact O4 1,q.2}
 |_=>cases q
section
variable{P:Nat->Option Df}(hp_:HasP0 P)(ht_:HasT0 P){M:Mem}
include hp_ ht_
theorem HS (n:Nat)(F:ay M p B)(H:B<=900000):af (ag P (n+4) 65 [.cell p] M) λd M'=>∃z:Str,d=.str z/\fG 1 z/\ay M' p (B+1)/\aW p M M':=by
 refine aC ht_.any rfl ?_;show af (eB _ [some (.cell p)] M) _;simp only[eB,av,bR,gn,bA,bS,bh,cV,P9,Qj,Qr,exists_eq_left'];refine aC ht_.but rfl ?_;show af (eA _ [some (.cell p),some (.str ""),none,none] M) _;simp only[eA,av,la,fo,bY,bR,cV,dg,bh,P9,Qa,Qj,Qr,exists_eq_left',List.set_cons_zero,List.set_cons_succ];refine Hi.mpr ?_;simp only[eK,Ht,bh,P9,Qa,Qj,Qr,exists_eq_left',D.str.injEq];refine qT (λ_=>true) (λd=>d) (ds:=signs allSigns) (aw (by have:=g9.1.2;omega)) rfl (λd hd=>?_) ?_
 ·obtain⟨z,rfl,u,_⟩:=sign_is hd;refine{_,rfl,aT ?_,λ_=>rfl};simp;show some (!kZ z "")=_;rw[u];rfl
 have E:(List.filter (λ_=>true) (signs allSigns)).map (λd=>d)=signs allSigns:=`s
 rw[E];refine bF.mpr {aw (by have:=g9.1.2;omega),?_}
 simp only[bY,av,bR,ji,gn,bA,bS,du,bh,P9,Qa,Qj,Qr,exists_eq_left',List.set_cons_zero,List.set_cons_succ,Gj];refine tk hp_ n F `a g9.1.1 (by have:=g9.1.2;omega) λv M' h q kk=>?_
 obtain⟨z,e,_,u⟩:=sign_is (Qp h);refine{.str z,?_,z,rfl,u,q,kk};show(bO (signs allSigns).length (v:Int)).bind (λj=>(signs allSigns)[j]?)=_;rw[eI h];simp[h,e]
end
section
variable{P:Nat->Option Df}(hp_:HasP P)(ht_:HasT P){M:Mem}
include hp_ ht_
omit hp_ ht_ in
theorem Ap (h:fG A x)(j:fG B y):fG (x.cps.size+y.cps.size) {x.cps++y.cps}:=by
 refine{`s,?_}
 have h1:=h.2;have h2:=j.2;simp only[Array.all_append,h1,h2,Bool.and_self]
theorem yK (n:Nat)(hz:fG L z)(hL:L<=100)(S:ay M p B)(hB:B<=800000):af (ag P (n+5) 66 [.cell p,.str z] M) λd M'=>∃I:Str,d=.str I/\fG (L+1) I/\ay M' p (B+3)/\aW p M M':=by
 refine aC ht_.signed rfl ?_;show af (fF _ [some (.cell p),some (.str z),none] M) _;have zl:=hz.1;have h:z.cps.size<=sz:=aw `a
 simp only[fF,av,la,fo,bY,bR,gn,bA,bS,cV,dg,bh,du,Ka,P9,Qa,Qj,Qr,exists_eq_left',List.set_cons_zero,List.set_cons_succ];have Q:∀{k:D->Mem->Prop},k (.int z.cps.size) M->af (fM .len [.str z] M) k:=λhk=>by
  show af (if z.cps.size<=sz then Res.ok (D.int z.cps.size) M else .bad) _;rw[if_pos h];exact hk
 refine Q ?_;rw[d7];rw[show((z.cps.size:Int)+1)=((z.cps.size+1:Nat):Int) by omega]
 refine tk hp_ (n+2) S `a `a `a λat_ M1 R W k1=>?_
 refine{rfl,rfl,z,0,at_,rfl,h,rfl,?_,?_}
 ·show some (if (at_:Int)<0 then _ else min (at_:Int).toNat z.cps.size)=_;rw[if_neg `a]
  congr 1
  simp;omega
 refine aD (HS hp_ ht_ (M:=M1) (B:=B+1) (p:=p) n W `a) ?_;rintro d M2 ⟨y,O,H,X,k2⟩
 subst O;have F:=Aj (i:=0) (j:=at_) hz;have u:=Ap F.1 H;have s1:=F.1.1;have s2:=H.1;have w1:(ib z 0 at_).cps.size+y.cps.size<=sz:=aw `a
 refine(add_str w1).mpr ?_;refine tk hp_ (n+2) (many:=2) X `a `d `d λv M3 hv Y U=>?_
 rw[d7];rw[show((at_:Int)+(v:Int))=((at_+v:Nat):Int) by omega]
 refine{rfl,rfl,z,min (at_+v) z.cps.size,z.cps.size,rfl,h,?_,rfl,?_}
 ·show some (if ((at_+v:Nat):Int)<0 then _ else min ((at_+v:Nat):Int).toNat z.cps.size)=_;rw[if_neg `a]
  congr 1
 have J:=Aj (i:=min (at_+v) z.cps.size) (j:=z.cps.size) hz;have E:=Ap u J.1;have s4:=u.1;have w2:((ib z 0 at_).cps++y.cps).size+(ib z (min (at_+v) z.cps.size) z.cps.size).cps.size<=sz:=aw (by simp only[Array.size_append] at s4 ⊢;omega)
 refine(add_str w2).mpr ?_;refine{_,rfl,{?_,E.2},Y,(k1.trans k2).trans U};have:=E.1;omega
end
noncomputable def fh:List D:=[.non,.bl true,.bl false,.str "",.str "turn",.str "join",.str "move",.str "put",.str "Turn",.tup [],.lst [],.int (10^20),.int (-1),.int 0,.int 1,.int 4,.tup [.int 0],.lst [.int 0],.str "0",.int 7]
def zj (h:x∈fh):Th 1 4 x:=by
 have st:∀z:Str,(z.cps.size<=4&&z.cps.all (· < 0x110000))=true->Th 1 4 (.str z):=λz j=>by
  simp only[O2,decide_eq_true_eq] at j;exact j
 simp only[fh,Pr,P8,or_false] at h;rcases h with rfl|rfl|rfl|rfl|rfl|rfl|rfl|rfl|rfl|rfl|rfl|rfl|rfl|rfl|rfl|rfl|rfl|rfl|rfl|rfl
 all_goals first
  |trivial
  |exact st _ `k
  |exact{`d,λd hd=>absurd hd P8}
  |exact{`d,λd hd=>by rw[Pj.mp hd];trivial}
def u4 (h1:b7 hl lo=true)(h2:b7 hh hi=true)(hk:∀i j,k (.tup (cut xs i j)) M):af (dU false (.tup xs) lo hi M) k:=by
 have q:∀{n d:Nat}{b:Bool}{x:D},b7 b x=true->∃i,aK n d x=some i:=λ{n d b x} h=>by
  cases b<;>cases x<;>first|exact{_,rfl}|cases h
 obtain⟨i,e1⟩:=q (n:=xs.length) (d:=0) h1;obtain⟨j,e2⟩:=q (n:=xs.length) (d:=xs.length) h2;show af (match aK xs.length 0 lo,aK xs.length xs.length hi with|some l,some h=>Res.ok (D.tup (cut xs l h)) M|_,_=>.bad) k
 rw[e1,e2];exact hk i j
def iK:(cut xs i j).length<=xs.length/\(cut xs i j).length<=j/\∀d∈cut xs i j,d∈xs:=by
 refine{?_,?_,λd hd=>Rk (Qs hd)}
 ·unfold cut;rw[Qf,QL];omega
 ·unfold cut;rw[Qf];omega
def Lq (hk:∀ys:List D,ys.length<=1->(∀d∈ys,d∈xs)->k (.tup ys) M):af (dU false (.tup xs) .non (.int 1) M) k:=by
 show af (Res.ok (D.tup (cut xs 0 (min 1 xs.length))) M) k;exact hk _ (Pk iK.2.1 `a) iK.2.2
def HU (h:a<xs.length)(hk:k (.tup (xs.take a)) M):af (dU false (.tup xs) .non (nD a) M) k:=by
 show af (Res.ok (D.tup (cut xs 0 (if (a:Int)<0 then _ else min (a:Int).toNat xs.length))) M) k;rw[if_neg `a]
 have:cut xs 0 (min (a:Int).toNat xs.length)=xs.take a:=by
  unfold cut;rw[show min (a:Int).toNat xs.length-0=a by simp;omega,List.drop_zero]
 rw[this];exact hk
def Br {a:Nat}(h:a<xs.length)(hk:k (.tup (xs.drop (a+1))) M):af (dU false (.tup xs) (.int ((a:Int)+1)) .non M) k:=by
 show af (Res.ok (D.tup (cut xs (if (a:Int)+1<0 then _ else min ((a:Int)+1).toNat xs.length) xs.length)) M) k;rw[if_neg `a]
 have:cut xs (min ((a:Int)+1).toNat xs.length) xs.length=xs.drop (a+1):=by
  unfold cut;rw[show min ((a:Int)+1).toNat xs.length=a+1 by omega,Qn `s]
 rw[this];exact hk
def Th.tup_of (hl:xs.length<=L)(h:∀d∈xs,Th k L d):Th (k+1) L (.tup xs):=⟨hl,h⟩
def Th.lst_of (hl:xs.length<=L)(h:∀d∈xs,Th k L d):Th (k+1) L (.lst xs):=⟨hl,h⟩
def nu (c:Call):GS:=#v[aV (dM (aj (cw .str (aa 1))) (aj (aH .lt (aa 3) (gI 3)))) #v[aR (ai 66 c #[aa 0,aa 1])] aJ,aR (aF (aa 7) (aa 4))]
section
variable{Z:Env}{M M1 M2:Mem}{a b:GE}{s:GA}{xs ys:List D}{x y:D}
def CI (ea:a Z M=.ok x M1)(es:s Z M1=.ok xs M2):aM a s Z M=.ok (x::xs) M2:=by
 unfold aM;rw[ea];show(s Z M1).bind _=_;rw[es];rfl
def Fb (e:s Z M=.ok xs M1)(hl:xs.length<=100):aU s Z M=.ok (.tup xs) M1:=by
 unfold aU;rw[e];exact if_pos (aw `a)
def wb (ea:a Z M=.ok (.tup xs) M1)(h:b Z M1=.ok (.tup ys) M2)(hl:(xs++ys).length<=100):ah false .add a b Z M=.ok (.tup (xs++ys)) M2:=by
 unfold ah;rw[ea];show(b Z M1).bind _=_;rw[h];exact if_pos (aw `a)
def HZ (h1:Z[i]?.getD none=some (.tup xs))(h2:Z[j]?.getD none=some (nD v))(h:v<xs.length):bZ false false true (aa i) gN (aa j) Z M=.ok (.tup (xs.take v)) M:=by
 refine aT ?_;rw[gX,au h1,bU,cV,au h2,bU];exact{rfl,rfl,HU h ⟨rfl,rfl⟩}
def Bu {v i j:Nat}(h1:Z[i]?.getD none=some (.tup xs))(h2:Z[j]?.getD none=some (nD v))(h:v<xs.length):bZ false true false (aa i) (ah false .add (aa j) (gI 1)) gN Z M=.ok (.tup (xs.drop (v+1))) M:=by
 refine aT ?_;rw[gX,au h1,bU,dg,au h2,bU,cV];exact d7.mpr {rfl,rfl,Br h ⟨rfl,rfl⟩}
end
section
variable{P:Nat->Option Df}(hp_:HasP P)(ht_:HasT P)(hw_:uG P){M:Mem}
include hp_ ht_ hw_
theorem Aw (n:Nat)(hd:Th k L d)(hk:k<=50)(J:6<=L)(O:L<=50)(F:ay M p B)(H:B<=800000)(E:pick<20) :
 af (nu (ag P (n+5)) [some (.cell p),some d,x2,some (nD kind),some (nD pick),x5,x6,some (.lst fh),x8] M) (ia λu M'=>Th (k+1) (L+1) u/\ay M' p (B+3)/\aW p M M'):=by
 have h:af (#v[aR (aF (aa 7) (aa 4))] [some (.cell p),some d,x2,some (nD kind),some (nD pick),x5,x6,some (.lst fh),x8] M) (ia λu M'=>Th (k+1) (L+1) u/\ay M' p (B+3)/\aW p M M'):=by
  have hl:pick<fh.length:=E;exact bC (v:=fh[pick]) (ak (by simp[-Gs,oj hl])) {(zj (Qp hl)).mono `a `a,F.mono `a,.refl}
 unfold nu;cases d with
 |fn j=>exact absurd hd (by cases k<;>exact id)
 |exc y p=>exact absurd hd (by cases k<;>exact id)
 | str z=>
   have I:fG L z:=by cases k<;>exact hd
   by_cases c:(kind:Int)<3
   ·simp only[av,hG,Li,i4,Ac,bh,eY,cV,P9,Qa,Qj,Qr,exists_eq_left',bR,gn,bA,bS];refine{true,rfl,true,rfl,?_};rw[if_pos rfl];refine{_,rfl,_,rfl,?_};rw[decide_eq_true c,if_pos rfl];exact aD (yK hp_ ht_ n I `a F H) (by rintro u M' ⟨Q,e,h1,h2,h3⟩;exact{by rw[e];exact h1.th.mono (O4 _) (O4 _),h2,h3})
   ·refine az (aT ?_) h;simp[cj];omega
 |_=>exact az rfl h
omit hp_ ht_ hw_ in
theorem zi (hk:af (rest [x0,x1,x2,x3,x4,x5,x6,some (.lst fh),x8] M) k) :
 af (bg (ax (.one 7) (aA false #[gN,vJ,El,gS "",gS "turn",gS "join",gS "move",gS "put",gS "Turn",aU ba,aA false ba,ah false .pow (gI 10) (gI 20),dw (gI 1),gI 0])) (bg (ax (.one 7) (ah false .add (aa 7) (aA false #[gI 1,gI 4,aU #[gI 0],aA false #[gI 0],gS "0",gI 7]))) rest) [x0,x1,x2,x3,x4,x5,x6,x7,x8] M) k:=by
 simp only[av,fo];have e:((aA false #[gN,vJ,El,gS "",gS "turn",gS "join",gS "move",gS "put",gS "Turn",aU ba,aA false ba,ah false .pow (gI 10) (gI 20),dw (gI 1),gI 0]):GE) [x0,x1,x2,x3,x4,x5,x6,x7,x8] M=.ok (.lst (fh.take 14)) M:=`r
 rw[e];show af (bg _ rest [x0,x1,x2,x3,x4,x5,x6,some (.lst (fh.take 14)),x8] M) k;simp only[av,fo];have e2:((ah false .add (aa 7) (aA false #[gI 1,gI 4,aU #[gI 0],aA false #[gI 0],gS "0",gI 7])):GE) [x0,x1,x2,x3,x4,x5,x6,some (.lst (fh.take 14)),x8] M=.ok (.lst fh) M:=`r
 rw[e2];exact hk
def v5 (c:Call):GS:=bg (aV (aj (cw .tuple (aa 1))) #v[ax (.one 8) (aA false #[aX (.list false) #[aa 1],ah false .add (aa 1) (bZ false false true (aa 1) gN (gI 1)),bZ false false true (aa 1) gN (dw (gI 1)),pO false (aa 1),ah false .add (aa 1) (aU #[aa 5]),bZ false true false (aa 1) (gI 1) gN,aU #[aa 1]]),aR (aF (ah false .add (aa 8) (aA false #[aF (aa 7) (aa 4)])) (aa 3))] aJ) (bg (aV (aj (ai 67 c #[aa 1])) #v[aR (aF (aA false #[ah false .add (aa 1) (gI 1),ah false .sub (aa 1) (gI 1),ah false .sub (gI 0) (aa 1),aa 5,aa 5,aH .eq (aa 1) (gI 1),ah false .sub (gI 3) (aa 1),aF (aa 7) (aa 4)]) (aa 3))] aJ) (nu c))
theorem CP (n:Nat)(hd:Th k L d)(hk:k<=50)(W:6<=L)(Y:L<=50)(R:ay M p B)(X:B<=800000)(hkd:kind<8)(E:pick<20) :
 af (v5 (ag P (n+5)) [some (.cell p),some d,x2,some (nD kind),some (nD pick),some (.int num),x6,some (.lst fh),x8] M) (ia λU M'=>Th (k+1) (L+1) U/\ay M' p (B+3)/\aW p M M'):=by
 have hl:pick<fh.length:=E;have ho:Th (k+1) (L+1) fh[pick]:=(zj (Qp hl)).mono `a `a
 have u:∀{xs:List D},xs.length=8->(∀x∈xs,Th (k+1) (L+1) x)->∃x,da (.lst xs) (nD kind) M=some x/\Th (k+1) (L+1) x:=λ{xs} h8 h=>{_,oj `a,h _ (Qp _)}
 have I:=Aw hp_ ht_ hw_ n (x2:=x2) (x5:=some (.int num)) (x6:=x6) (x8:=x8) (kind:=kind) hd hk W Y R X E;cases d with
 |fn j=>exact absurd hd (by cases k<;>exact id)
 |exc y p=>exact absurd hd (by cases k<;>exact id)
 | tup xs=>
   refine d5 (aT (by simp[cj])) ?_
   simp only[av,fo,bR,oA,bA,bS,bh,du,dg,gX,gm,rS,Me,cV,ji,P9,Qa,Qj,Qr,exists_eq_left',List.set_cons_zero,List.set_cons_succ];have O:=hd.tup;have H:∀d∈xs,Th k (L+1) d:=λd hd=>(O.2 d hd).mono (O4 _) `a
   have J:∀{ys:List D},ys.length<=L+1->(∀d∈ys,d∈xs\/Th k (L+1) d)->Th (k+1) (L+1) (.tup ys):=λ{ys} hl h=>.tup_of hl λd hd=>by
    rcases h d hd with z|z
    ·exact H d z
    ·exact z
   refine B5.mpr (bF.mpr {aw `a,rfl,rfl,Lq λys y1 y2=>?_})
   refine oR.mpr {aw `o,1,rfl,rfl,rfl,u4 (hl:=false) (hh:=true) rfl rfl λi2 j2=>Fx.mpr {aw `s,oR.mpr {aw `o,rfl,rfl,u4 (hl:=true) (hh:=false) rfl rfl λi3 j3=>{aw `s,bF.mpr {aw `s,?_}}}}}
   obtain⟨x,e1,e2⟩:=u (xs:=[.lst xs,.tup (xs++ys),.tup (cut xs i2 j2),.tup xs.reverse,.tup (xs++[.int num]),.tup (cut xs i3 j3),.tup [.tup xs]]++[fh[pick]]) rfl (λx F=>by
    simp only[List.cons_append,Rg,Pr,P8,or_false] at F;rcases F with rfl|rfl|rfl|rfl|rfl|rfl|rfl|rfl
    ·exact .lst_of `a H
    ·exact J `o λd hd=>(PJ.mp hd).elim .inl λz=>.inl (y2 d z)
    ·exact J (Pk iK.1 `a) λd hd=>.inl (iK.2.2 d hd)
    ·exact J `o λd hd=>.inl (List.mem_reverse.mp hd)
    ·exact J `o λd hd=>by
      rcases PJ.mp hd with z|z
      ·exact .inl z
      ·rw[Pj.mp z];exact .inr (by cases k<;>trivial)
    ·exact J (Pk iK.1 `a) λd hd=>.inl (iK.2.2 d hd)
    ·exact .tup_of `s λd Q=>by rw[Pj.mp Q];exact hd.mono (O4 _) `a
    ·exact ho)
   refine bC (v:=x) (ak ?_) {e2,R.mono `a,.refl}
   simp only[ji,dg,bh,oA,bA,bS];exact{_,rfl,_,rfl,_,rfl,_,oj hl,bF.mpr {aw `s,uy.mpr (bF.mpr {aw `s,_,rfl,x,e1,rfl,rfl})}}
 | int i=>
   have S:=k9 hw_ (n+4) (M:=M) hd;refine az (aT (by simp[cj])) (d5 (aT (by simp[S,nE])) ?_)
   simp only[av,bR,oA,bA,bS,bh,dg,cV,ji,eY,P9,Qa,Qj,Qr,exists_eq_left',d7,yE];refine{_,rfl,_,oj hl,bF.mpr {aw `s,?_}}
   obtain⟨x,e1,e2⟩:=u (xs:=[.int (i+1),.int (i-1),.int (0-i),.int num,.int num,.bl (i==1),.int (3-i),fh[pick]]) rfl (λx O=>by
    simp only[Pr,P8,or_false] at O;rcases O with rfl|rfl|rfl|rfl|rfl|rfl|rfl|rfl
    all_goals first|exact ho|trivial)
   exact{x,e1,e2,R.mono `a,.refl}
 | _=>
   have S:=k9 hw_ (n+4) (M:=M) hd;exact az (aT (by simp[cj])) (az (aT (by simp[S,nE])) I)
omit hp_ ht_ hw_ in
theorem BY (h:Th k L (.tup xs))(hk:k<=60):bp .ne (.tup xs) (.tup []) M=some (!xs.isEmpty):=by
 refine qb (h.mono (n':=64) `a (O4 L)).pure rfl ?_
 cases xs<;>rfl
set_option tactic.hygienic true in
theorem rb (n h:Nat)(hd:Th k L d)(hk:k<=50)(h6:6<=L)(hL:L<=50)(hp:ay M p B)(hB:B<=700000)
 (ih:0<h->∀{k' O:Nat}{F:D}{M':Mem},Th k' L F->k'<=50->ay M' p O->O<=B+4->af (ag P (n+h+5) 72 [.cell p,F,.int ((h:Int)-1)] M') λe H=>Th (k'+1) (L+1) e/\ay H p (O+6*h)/\aW p M' H) :
 af (ag P (n+h+6) 72 [.cell p,d,nD h] M) λF M'=>Th (k+1) (L+1) F/\ay M' p (B+6*(h+1))/\aW p M M':=by
 refine aC ht_.bent rfl ?_;refine dA hp_.toHasP0 (n+h+3) (many:=8) rfl rfl hp `a `d `d λkind M1 R q1 k1=>?_
 refine dA hp_.toHasP0 (n+h+3) (many:=20) rfl rfl q1 `a `d `d λJ M2 S q2 k2=>?_
 refine bQ (k:=λx M'=>∃v:Nat,x=.int ((v:Int)-2)/\ay M' p (B+1+1+1)/\aW p M2 M') ?_ ?_
 ·rw[dg];refine aD (dO hp_.toHasP0 (n+h+3) (many:=9) rfl rfl q2 `a `d `d) ?_
  rintro _ M' ⟨v,rfl,_,q,k⟩;exact⟨v,rfl,q,k⟩
 rintro _ U ⟨num,rfl,W,k3⟩;have Q:=(k1.trans k2).trans k3;have I:af (bg _ (bg _ (v5 (ag P (n+h+5)))) [some (.cell p),some d,some (nD h),some (nD kind),some (nD J),some (.int ((num:Int)-2)),none,none,none] U) (ia λF M'=>Th (k+1) (L+1) F/\ay M' p (B+6*(h+1))/\aW p M M'):=
  zi (aD (CP hp_ ht_ hw_ (n+h) hd hk h6 hL W `a R S) λfl M' hf=>by
   cases fl with
   |next Z=>exact{hf.1,hf.2.1.mono `a,Q.trans hf.2.2}
   |ret e=>exact{hf.1,hf.2.1.mono `a,Q.trans hf.2.2}
   |exc x Z=>exact hf.elim)
 cases d with
 |fn j=>exact absurd hd (by cases k<;>exact id)
 |exc y p=>exact absurd hd (by cases k<;>exact id)
 | tup xs=>
   have ne:=BY (M:=U) hd `a
   refine bP (j0 (x:=true) (bq rfl) (j0 (bq (vZ rfl rfl ne)) (j0 (Ek (c:=0) rfl) (Ek (c:=4) rfl)))) (λz=>?_) λ_=>I;rw[Bool.true_and,O2,O2] at z;have Y:xs≠[]:=by
    rintro rfl;exact nomatch z.1
   have c2:0<h:=Int.ofNat_lt.mp (of_decide_eq_true z.2.1);have lx:0<xs.length:=List.length_pos_iff.mpr Y;have hxl:=hd.tup.1;cases k with
   |zero=>exact hd.elim
   | succ k'=>
     have E:∀d∈xs,Th k' L d:=hd.2;refine dA hp_.toHasP0 (n+h+3) (many:=xs.length) rfl (iu rfl) W `a lx `a λat_ X u q4 k4=>?_
     obtain⟨e,M5,ee,he,q5,k5⟩:=i6.mp (ih c2 (E _ (Qp u)) `a q4 `a)
     refine gJ ?_;have l1:(xs.take at_).length+1<=L+1:=by rw[Qf];omega
     have l2:(xs.take at_++[e]).length+(xs.drop (at_+1)).length<=L+1:=by rw[Pt,Qf,QL,QJ];omega
     have ei:da (.tup xs) (nD at_) X=some xs[at_]:=by
      show(bO xs.length (at_:Int)).bind (λj=>xs[j]?)=_;rw[eI u];exact PB u
     rw[wb (wb (HZ rfl rfl u) (Fb (CI ((aP (ae rfl (ae (b8 rfl rfl ei) (ae rfl rfl)))).trans ee) rfl) (Pb rfl)) (by rw[Pt];exact Pk l1 `a)) (Bu (v:=at_) rfl rfl u) (by rw[Pt];exact Pk l2 `a),bU]
     refine{.tup_of (by rw[Pt];exact l2) λd hd=>?_,q5.mono `a,(Q.trans k4).trans k5}
     rcases PJ.mp hd with z|z
     ·rcases PJ.mp z with z|z
      ·exact(E d (Qs z)).mono `a `a
      ·rw[Pj.mp z];exact he
     ·exact(E d (Rk z)).mono `a `a
 |_=>exact az rfl I
theorem u1:∀(h n:Nat) {k L p B:Nat}{d:D}{M:Mem},h<=9->Th k L d->k<=50->6<=L->L<=50->ay M p B->B+10*h<=700000->
 af (ag P (n+h+6) 72 [.cell p,d,nD h] M) λE M'=>Th (k+1) (L+1) E/\ay M' p (B+6*(h+1))/\aW p M M'
 |0,n,k,L,p,B,d,M,F,hd,hk,j,u,v,H=>rb hp_ ht_ hw_ n 0 hd hk j u v `a (λz=>absurd z `d)
 |h+1,n,k,L,p,B,d,M,F,hd,hk,j,u,v,H=>rb hp_ ht_ hw_ n (h+1) hd hk j u v `a (λ_ {J I E M'} h1 h2 h3 h4=>by
  rw[show(((h+1:Nat):Int)-1)=(h:Int) by omega]
  exact u1 h n `a h1 h2 j u h3 `a)
end
section
variable{P:Nat->Option Df}{M:Mem}{p B:Nat}{m:bf}
def Fh (h:HasP P)(h160:P 160=some {2,3,ec})(n:Nat)(F:t<6)(E:ay M p B)(y:B<=700000):af (ag P (n+6) 160 [.cell p,nD t] M) λd M'=>∃m:bf,d=m.d/\aO m/\ay M' p (B+300)/\aW p M M':=by
 refine aC h160 rfl ?_;have j:∃a b c:Nat,aF (aA false (aM (aU (aM (gC (.int 3)) (aM (gC (.int 1)) (aM (gC (.int 6)) ba)))) (aM (aU (aM (gC (.int 2)) (aM (gC (.int 2)) (aM (gC (.int 3)) ba)))) (aM (aU (aM (gC (.int 3)) (aM (gC (.int 1)) (aM (gC (.int 4)) ba)))) (aM (aU (aM (gC (.int 2)) (aM (gC (.int 2)) (aM (gC (.int 2)) ba)))) (aM (aU (aM (gC (.int 4)) (aM (gC (.int 1)) (aM (gC (.int 2)) ba)))) ba)))))) (ah false .mod (aa 1) (gC (.int 5))) [some (.cell p),some (nD t),none] M=.ok (.tup [nD a,nD b,nD c]) M/\2<=a/\a<=4/\1<=b/\b<=2/\1<=c/\c<=6:=by
  match t,F with
  |0,_=>exact{3,1,6,rfl,`d}
  |1,_=>exact{2,2,3,rfl,`d}
  |2,_=>exact{3,1,4,rfl,`d}
  |3,_=>exact{2,2,2,rfl,`d}
  |4,_=>exact{4,1,2,rfl,`d}
  |5,_=>exact{3,1,6,rfl,`d}
 obtain⟨a,b,c,e,a2,a4,b1,b2,u,v⟩:=j;refine aY (bI e) ?_;rw[av,bR,aP (ae rfl (ae (b8 rfl rfl rfl) (ae (b8 rfl rfl rfl) (ae (b8 rfl rfl rfl) rfl))))];refine aD (wy h n E y a2 a4 b1 b2 u v) ?_;rintro d M' ⟨m,rfl,hm,_,_,_,q,k⟩;exact⟨m,rfl,hm,q,k⟩
noncomputable def nJ:List (List Nat):=[[1,2,3,0],[1,0,2,3],[0,0,2,3]]
def Co:((List.range 256).all λc=>lF c (rQ nJ 400 [228] [228]))=true:=`k
def Fm (H:HasP0 P)(h161:P 161=some {1,4,eC})(n:Nat)(W:ay M p B)(hB:B<=700000):af (ag P (n+3) 161 [.cell p] M) λd M'=>∃m:bf,d=m.d/\aO m/\(∀d∈m.deeds,∃a t c,d=.turn a t c)/\(∀A,AllIn m A->255<A.length)/\ay M' p (B+4)/\aW p M M':=by
 refine aC h161 rfl ?_;show af (eC (ag P (n+2)) [some (.cell p),none,none,none] M) _;refine aY (bI (x:=.lst (nJ.map aL)) rfl) ?_;refine dA H n rfl rfl W `a `d `d λv Q X p1 k1=>?_
 have O:∃ts:List (List Nat),ah false .add (bZ false true false (aa 1) (aa 2) (gC .non)) (bZ false false true (aa 1) (gC .non) (aa 2)) [some (.cell p),some (.lst (nJ.map aL)),some (nD v),none] Q=.ok (.lst (ts.map aL)) Q/\ts.length=3/\(∀t∈ts,fe 4 t/\t∈nJ)/\∀t∈nJ,t∈ts:=by
  match v,X with
  |0,_=>exact{[[1,2,3,0],[1,0,2,3],[0,0,2,3]],rfl,rfl,by unfold fe;decide}
  |1,_=>exact{[[1,0,2,3],[0,0,2,3],[1,2,3,0]],rfl,rfl,by unfold fe;decide}
  |2,_=>exact{[[0,0,2,3],[1,2,3,0],[1,0,2,3]],rfl,rfl,by unfold fe;decide}
 obtain⟨ts,e,R,ok,al⟩:=O;refine bQ (k:=λd M'=>∃u:List bb,d=.lst (u.map bb.d)/\u.length=3/\(∀(i:Nat) d,u[i]?=some d->∃t c,ts[i]?=some t/\dR c/\d=.turn 0 t c)/\ay M' p (B+4)/\aW p M M') ?_ ?_
 ·simp only[List.set];rw[eK,gU,e,bU];refine{rfl,?_};refine comp_map (λi F M'=>∃u:List bb,F=u.map bb.d/\u.length=i/\(∀(i:Nat) d,u[i]?=some d->∃t c,ts[i]?=some t/\dR c/\d=.turn 0 t c)/\ay M' p (B+1+i)/\aW p M M') (aw `o) (λ_ _ _ _=>rfl) {[],rfl,rfl,(λ_ _ h=>nomatch h),p1,k1} ?_ ?_
  ·rintro i d F M' hd _ ⟨u,rfl,hl,y,q,k⟩;rw[PZ] at hd;cases J:ts[i]? with
   |none=>rw[J] at hd;cases hd
   | some t=>
     rw[J] at hd;have hd:=Ph hd;subst hd;have hi:=(O1.mp J).1;refine{_,rfl,?_};rw[gm,bA,cV,bA,cV,bA,bh];refine{_,rfl,?_};rw[bA,dg,cV];refine aD (dO H n (many:=3) rfl rfl q `a `d `d) ?_
     rintro x S ⟨w,rfl,hw,Y,k2⟩;refine d7.mpr (bS.mpr {aw (Pb rfl),u++[.turn 0 t (1+w)],?_,by simp[hl],λj x E=>?_,Y,k.trans k2})
     ·rw[PL];show _=_++[D.tup [.str "turn",nD 0,aL t,nD (1+w)]];rw[show nD (1+w)=D.int (1+(w:Int)) from congrArg D.int `a];rfl
     ·rcases Nat.lt_or_ge j u.length with z|z
      ·rw[O9 z] at E;exact y j x E
      ·rw[Py z] at E;have:j=u.length:=by
        have:=(O1.mp E).1;simp at this;omega
       subst this;rw[Nat.sub_self] at E;cases E;exact{t,1+w,by rw[hl];exact J,{`a,`a},rfl}
  ·rintro F M' _ ⟨u,rfl,hl,y,q,k⟩;rw[O7,R] at hl q;exact bF.mpr {aw `o,u,rfl,hl,y,q,k}
 ·rintro _ S ⟨u,rfl,hl,y,q,k⟩;refine bC (HL (ae rfl (ae rfl (ae rfl rfl))) (Pb rfl)) ?_;have hm:aO {4,1,u}:=by
   refine{Pb rfl,Pb rfl,Pb rfl,Pb rfl,by show 1<=u.length;omega,by show u.length<=6;omega,λd hd=>?_}
   obtain⟨j,E⟩:=List.mem_iff_getElem?.mp hd;obtain⟨t,c,L,U,rfl⟩:=y j d E;exact{Nat.zero_lt_one,(ok t (PF L)).1,U}
  refine{{4,1,u},rfl,hm,λd hd=>?_,λA=>wq hm {rfl,λt L=>?_} `d rfl Co,q,k}
  ·obtain⟨j,E⟩:=List.mem_iff_getElem?.mp hd;obtain⟨t,c,_,_,e⟩:=y j d E;exact{0,t,c,e}
  ·obtain⟨j,E⟩:=List.mem_iff_getElem?.mp (al t L);have lt:j<u.length:=by rw[hl,<- R];exact(O1.mp E).1
   obtain⟨t',c,I,_,e⟩:=y j _ (PB lt);rw[E] at I;cases I;exact{c,by rw[<- e];exact Qp lt}
end
def qw {a:GE}{Z:Env}{j:Fl->Mem->Prop}:af (gK c a Z M) j↔af (a Z M) λx M=>∃i,x=.int i/\i.natAbs<2^64/\j (.exc (.exc c (some i)) Z) M:=by
 unfold gK;cases a Z M with
 | ok x u=>
   cases x with
   |int i=>by_cases h:i.natAbs<2^64<;>simp[h]
   |_=>simp
 |err=>exact Qo
 |bad=>exact Qo
def BO {u:Type}{r:Res u}{k k':u->Mem->Prop}{x j:D->Mem->Prop}(h:dG r k x)(h1:∀d M,k d M->k' d M)(h2:∀d M,x d M->j d M):dG r k' j:=by
 cases r with
 |ok d M=>exact h1 d M h
 |err d M=>exact h2 d M h
 |bad=>exact h.elim
section
variable{Z:Env}{M M1:Mem}{a:GE}{t:GT}{A rest:GS}{k:Fl->Mem->Prop}
def hR (e:a Z M=.ok x M):eF a Z M=.ok (.next Z) M:=by
 unfold eF;rw[e];rfl
def zR (j:t Z M=.ok false M1)(h:af (rest Z M1) k):af (bg (aV t A aJ) rest Z M) k:=by
 simp only[av,hG];rw[j];exact h
def m5 (e:a Z M=.ok (.lst xs) M):aX .len (aM a ba) Z M=.ok (nD xs.length) M:=by
 refine ak (du.mpr ?_);rw[ae e rfl,bU];exact⟨rfl,rfl⟩
end
abbrev tY (m:bf):D->Bool:=aZ 0 ((m.deeds.length:Int)-1)
section
variable{P:Nat->Option Df}(h:HasM0 P){M:Mem}{k L:Nat}{m:bf}{d r w x:D}{ds:List D}
include h
theorem Bo (n:Nat)(hd:Th k L d):ag P (n+2) 16 [m.d,d] M=.ok (.bl (tY m d)) M:=by
 refine ak (aC h.is_deed_number rfl ?_);simp[fN,bf.d,bO,eR h.q _ hd]
theorem vh (n:Nat){i:Nat}(hd:∀d∈ds,Th k L d)(B:∀j y,ds[j]?=some y->j<=i->tY m y=!decide (j=i))(hi:i<1000000):dG (ag P (n+3) 17 [m.d,.lst ds] M) (λd M'=>ds.length<=i/\d=.non/\M=M') (λx M'=>i<ds.length/\x=.exc 0 (some (i:Int))/\M=M'):=by
 refine cq h.need_numbers rfl ?_;show af (e9 (ag P (n+2)) [some m.d,some (.lst ds),none,none] M) _;refine az rfl (av.mpr (fX.mpr (ya.mpr (bh.mpr {_,rfl,rfl,?_}))));refine dS (λj fl M'=>M'=M/\((j<=i/\∃a b,fl=.next [some m.d,some (.lst ds),a,b])\/(i<j/\∃Z,fl=.exc (.exc 0 (some (i:Int))) Z))) (λ_ _ _ e=>rfl) {rfl,.inl {Q1 _,none,none,rfl}} ?_ ?_
 ·rintro j e fl M' he ⟨rfl,u⟩;rw[jh] at he;obtain⟨y,v,rfl⟩:=Pq.mp he;rcases u with⟨u,a,b,rfl⟩|⟨u,Z,rfl⟩
  ·show af (bg _ aJ [some m.d,some (.lst ds),some (.int ((0+j:Nat):Int)),some y] M') _;rw[Nat.zero_add];have e:=bu (bq ((aP (Z:=[some m.d,some (.lst ds),some (.int (j:Int)),some y]) (ae (a:=aa 0) rfl (ae (a:=aa 3) (s:=ba) rfl rfl))).trans (Bo h n (M:=M') (hd y (PF v)))));rw[B j y v u,Bool.not_not] at e;by_cases c:j=i
   ·subst c;rw[decide_eq_true rfl] at e;exact d5 e (av.mpr (qw.mpr {_,rfl,`a,rfl,.inr {Nat.lt_succ_self _,_,rfl}}))
   ·rw[decide_eq_false c] at e;exact az e {rfl,.inl {`a,_,_,rfl}}
  ·exact{rfl,.inr {`a,_,rfl}}
 ·rintro fl M' ⟨rfl,u⟩;rw[show(dX 0 ds).length=ds.length from iV ds 0] at u;rcases u with⟨u,a,b,rfl⟩|⟨u,Z,rfl⟩
  ·exact⟨u,rfl,rfl⟩
  ·exact⟨u,rfl,rfl⟩
theorem F4 (n:Nat)(hd:∀d∈ds,Th k L d)(hl:ds.length<1000000)(B:∀d∈ds,tY m d=true):ag P (n+3) 17 [m.d,.lst ds] M=.ok .non M:=by
 have q:=vh h n (M:=M) (m:=m) (i:=ds.length) hd (λj y u _=>by rw[B y (PF u),decide_eq_false (PH (O1.mp u).1)];rfl) hl
 cases e:ag P (n+3) 17 [m.d,.lst ds] M with
 |bad=>rw[e] at q;exact q.elim
 |err x v=>rw[e] at q;exact absurd q.1 (Ql _)
 |ok x v=>rw[e] at q;obtain⟨_,rfl,rfl⟩:=q;rfl
theorem BS (n:Nat){a b:List D}(hd:∀d∈a++x::b,Th k L d)(hl:a.length<1000000)(E:tY m x=false)(F:∀y∈a,tY m y=true):ag P (n+3) 17 [m.d,.lst (a++x::b)] M=.err (.exc 0 (some (a.length:Int))) M:=by
 have q:=vh h n (M:=M) (m:=m) (i:=a.length) hd (λj y u v=>by
  rcases Nat.lt_or_eq_of_le v with z|z
  ·rw[O9 z] at u;rw[F y (PF u),decide_eq_false (PH z)];rfl
  ·subst z;rw[Py (O4 _),Nat.sub_self] at u;cases u;rw[E,decide_eq_true rfl];rfl) hl
 cases e:ag P (n+3) 17 [m.d,.lst (a++x::b)] M with
 |bad=>rw[e] at q;exact q.elim
 |err x B=>rw[e] at q;obtain⟨_,rfl,rfl⟩:=q;rfl
 |ok x B=>rw[e] at q;exact absurd q.1 (by rw[Pt,Q9];omega)
theorem BR (n:Nat)(hd:cj .list d=some false):ag P (n+3) 17 [m.d,d] M=.err (.exc 0 (some 0)) M:=by
 refine dC (cq h.need_numbers rfl ?_);show af (e9 (ag P (n+2)) [some m.d,some d,none,none] M) _;refine d5 (bu (b:=false) (bq ?_)) (av.mpr (qw.mpr {0,rfl,`d,rfl,rfl}))
 show(bV M (cj .list d)).bind _=_;rw[hd];rfl
section
variable(h196:P 196=some {3,3,gq})
include h196
theorem zx (n:Nat)(hd:Th k L d)(j:L<=100)(u:eX d=false):ag P (n+10) 196 [d,r,w] M=.err (.exc 3 none) M:=by
 have e:ag P (n+9) 18 [d,r] M=.err (.exc 3 none) M:=by
  refine dC (cq h.need_row rfl (av.mpr (fY.mpr ?_)));rw[bM (ae rfl rfl),zp h.q h.need_machine n hd j u];exact⟨rfl,rfl⟩
 refine dC (cq h196 rfl (av.mpr (fY.mpr ?_)));rw[bM (ae rfl (ae rfl rfl)),e];exact⟨rfl,rfl⟩
theorem qB (n:Nat)(hm:aO m)(e:ag P (n+8) 17 [m.d,r] M=.err x M):ag P (n+10) 196 [m.d,r,w] M=.err x M:=by
 have e:ag P (n+9) 18 [m.d,r] M=.err x M:=by
  refine dC (cq h.need_row rfl (aY (hR ((bM (ae rfl rfl)).trans (j9 h.toHasB0 n hm))) (av.mpr (fY.mpr ?_))));rw[bM (ae rfl (ae rfl rfl)),e];exact⟨rfl,rfl⟩
 refine dC (cq h196 rfl (av.mpr (fY.mpr ?_)));rw[bM (ae rfl (ae rfl rfl)),e];exact⟨rfl,rfl⟩
omit h h196 in
theorem jT {Z:Env}{j:Nat}{c:Nat}(h:Z[j]?.getD none=some (.lst ds)):(aj (aH .gt (aX .len (aM (aa j) ba)) (gC (.int (c:Int)))):GT) Z M=.ok (decide ((c:Int)<(ds.length:Int))) M:=by
 refine aT (i4.mpr (eY.mpr ?_));rw[m5 (au h),bU];exact{_,rfl,_,rfl,rfl,rfl}
theorem zy (n:Nat)(hm:aO m)(e:ag P (n+8) 17 [m.d,.lst ds] M=.ok .non M)(hl:12<ds.length):ag P (n+10) 196 [m.d,.lst ds,w] M=.err (.exc 4 none) M:=by
 have q:dG (ag P (n+9) 18 [m.d,.lst ds] M) (λd j=>M=j) (λx j=>x=.exc 4 none/\M=j):=by
  refine cq h.need_row rfl (aY (hR ((bM (ae rfl rfl)).trans (j9 h.toHasB0 n hm))) (aY (hR ((bM (ae rfl (ae rfl rfl))).trans e)) ?_));cases c:decide ((40:Int)<(ds.length:Int)) with
  |true=>exact d5 ((jT rfl).trans (congrArg (Res.ok · M) c)) ⟨rfl,rfl⟩
  |false=>exact az ((jT rfl).trans (congrArg (Res.ok · M) c)) rfl
 refine dC (cq h196 rfl (av.mpr (fY.mpr ?_)));rw[bM (ae rfl (ae rfl rfl))];refine BO q ?_ ?_
 ·rintro d _ rfl;exact d5 ((jT (c:=12) rfl).trans (congrArg (Res.ok · M) (decide_eq_true `a))) ⟨rfl,rfl⟩
 ·rintro x _ ⟨rfl,rfl⟩;exact⟨rfl,rfl⟩
theorem qC (n:Nat)(hm:aO m)(e:ag P (n+8) 17 [m.d,.lst ds] M=.ok .non M)(hl:ds.length<=12)(j:Th k L w):dG (ag P (n+10) 196 [m.d,.lst ds,w] M) (λd M'=>aZ 1 6 w=true/\d=.non/\M=M') (λx M'=>aZ 1 6 w=false/\x=.exc 7 none/\M=M'):=by
 have q:ag P (n+9) 18 [m.d,.lst ds] M=.ok .non M:=by
  refine ak (aC h.need_row rfl (aY (hR ((bM (ae rfl rfl)).trans (j9 h.toHasB0 n hm))) (aY (hR ((bM (ae rfl (ae rfl rfl))).trans e)) ?_)));exact az ((jT (c:=40) rfl).trans (congrArg (Res.ok · M) (decide_eq_false `a))) ⟨rfl,rfl⟩
 refine cq h196 rfl (aY (hR ((bM (ae rfl (ae rfl rfl))).trans q)) (az ((jT (c:=12) rfl).trans (congrArg (Res.ok · M) (decide_eq_false `a))) ?_))
 have e2:=bu (bq ((aP (Z:=[some m.d,some (.lst ds),some w]) (ae (a:=aa 2) rfl (ae (a:=gC (.int 1)) rfl (ae (a:=gC (.int 6)) (s:=ba) rfl rfl)))).trans (eR h.q (n+8) j 1 6 (M:=M))));cases c:aZ 1 6 w with
 |true=>rw[c] at e2;exact az e2 ⟨rfl,rfl,rfl⟩
 |false=>rw[c] at e2;exact d5 e2 ⟨rfl,rfl,rfl⟩
end
end
section
variable{P:Nat->Option Df}{M M':Mem}{m:bf}{d r w x v:D}{ds:List D}{kind more:Nat}
def wU (h199:P 199=some {3,10,kL})(n:Nat)(e:ag P n 196 [d,r,w] M=.err x M):ag P (n+1) 199 [d,r,w] M=.err x M:=by
 refine dC (cq h199 rfl (av.mpr (fY.mpr ?_)));rw[bM (ae rfl (ae rfl (ae rfl rfl))),e];exact⟨rfl,rfl⟩
def B3 (h202:P 202=some {4,6,jo})(n:Nat)(e:ag P n 196 [d,r,w] M=.err x M):ag P (n+1) 202 [d,r,w,v] M=.err x M:=by
 refine dC (cq h202 rfl (av.mpr (fY.mpr ?_)));rw[bM (ae rfl (ae rfl (ae rfl rfl))),e];exact⟨rfl,rfl⟩
def uJ (h199:P 199=some {3,10,kL})(n:Nat)(e:ag P n 196 [d,r,w] M=.ok .non M)(q:dG (ag P n 166 [d,.non] M) (λ_ _=>False) (λx M'=>x=.exc 8 none/\Sub M M')):dG (ag P (n+1) 199 [d,r,w] M) (λ_ _=>False) (λx M'=>x=.exc 8 none/\Sub M M'):=by
 refine cq h199 rfl (aY (hR ((bM (ae rfl (ae rfl (ae rfl rfl)))).trans e)) ?_);unfold fz;rw[av,bM (ae rfl (ae rfl rfl))];cases h:ag P n 166 [d,.non] M with
 |bad=>rw[h] at q;exact q.elim
 |ok y j=>rw[h] at q;exact q.elim
 |err y j=>rw[h] at q;exact q
noncomputable def uC:Nat->List D
 |0=>[]
 |1=>[.tup [.int 0,.int 9,.lst []]]
 |_=>[.tup [.int (-1),.int 1,.lst [.int 7]]]
def Gg (hb:HasB0 P)(h201:P 201=some {4,9,ez})(h202:P 202=some {4,6,jo})(n:Nat){c:Nat}(hc:1<=c/\c<=6)(hm:more<3)(hl:ds.length<=12)(e:ag P (n+3) 196 [m.d,.lst ds,nD c] M=.ok .non M):∃v,ag P (n+4) 202 [m.d,.lst ds,nD c,.lst (uC more)] M=.ok v M:=by
 have j:∀(p g:Int) (z:D),(¬ (1<=g/\g<=(c:Int))\/¬ (0<=p/\p<=(ds.length:Int)-g))->ag P (n+3) 201 [m.d,.lst ds,nD c,.tup [.int p,.int g,z]] M=.ok .non M:=λp g z u=>by
  refine ak (aC h201 rfl ?_);show af (ez (ag P (n+2)) [some m.d,some (.lst ds),some (nD c),some (.tup [.int p,.int g,z]),none,none,none,none,none] M) _;refine aY (ρ':=[some m.d,some (.lst ds),some (nD c),some (.tup [.int p,.int g,z]),some (.int p),some (.int g),some z,none,none]) rfl ?_;have t1:=bu (bq ((aP (Z:=[some m.d,some (.lst ds),some (nD c),some (.tup [.int p,.int g,z]),some (.int p),some (.int g),some z,none,none]) (ae (a:=aa 5) rfl (ae (a:=gC (.int 1)) rfl (ae (a:=aa 2) (s:=ba) rfl rfl)))).trans (eR (k:=0) (L:=0) hb.q (n+1) (d:=.int g) trivial 1 (c:Int) (M:=M))));have t2:=bu (bq ((aP (Z:=[some m.d,some (.lst ds),some (nD c),some (.tup [.int p,.int g,z]),some (.int p),some (.int g),some z,none,none]) (ae (a:=aa 4) rfl (ae (a:=gC (.int 0)) rfl (ae (a:=ah false .sub (aX .len (aM (aa 1) ba)) (aa 5)) (s:=ba) ((iL (m5 (au rfl)) (au rfl)).trans rfl) rfl)))).trans (eR (k:=0) (L:=0) hb.q (n+1) (d:=.int p) trivial 0 ((ds.length:Int)-g) (M:=M))));refine bB ((rH t1 t2).trans (congrArg (Res.ok · M) ?_)) rfl ⟨rfl,rfl⟩;rcases u with z|z
  ·rw[show aZ 1 (c:Int) (.int g)=false from ?_];rfl;show(decide (1<=g)&&decide (g<=(c:Int)))=false;rw[<- Bool.decide_and];exact decide_eq_false z
  ·rw[show aZ 0 ((ds.length:Int)-g) (.int p)=false from ?_,Bool.not_false,Bool.or_true];show(decide (0<=p)&&decide (p<=(ds.length:Int)-g))=false;rw[<- Bool.decide_and];exact decide_eq_false z
 have all:∀s∈uC more,ag P (n+3) 201 [m.d,.lst ds,nD c,s] M=.ok .non M:=λs hs=>by
  match more,hm,hs with
  |1,_,hs=>rw[Pj.mp hs];exact j 0 9 _ (.inl `a)
  |2,_,hs=>rw[Pj.mp hs];exact j (-1) 1 _ (.inr `a)
 have q:af (ag P (n+4) 202 [m.d,.lst ds,nD c,.lst (uC more)] M) λ_ h=>h=M:=by
  refine aC h202 rfl (aY (hR ((bM (ae rfl (ae rfl (ae rfl rfl)))).trans e)) ?_);refine aY (bI (x:=.lst ds) ((Ar (ae (a:=aa 1) rfl rfl)).trans (ak (tq.mpr (bF.mpr {Pk hl `d,rfl,rfl}))))) ?_
  refine av.mpr (fX.mpr (gU.mpr (bh.mpr {_,rfl,rfl,?_})));refine Gu (ds:=uC more) (λi Z h=>h=M/\i=0/\Z=[some m.d,some (.lst ds),some (nD c),some (.lst (uC more)),some (.lst ds),none]) (λ_ h=>h=M) (λ_ _ _ _=>rfl) (λ_ _ _=>rfl) ⟨rfl,rfl,rfl⟩ ?_ ?_ ?_
  ·rintro i s Z h hs ⟨rfl,rfl,rfl⟩;exact{_,rfl,aY (bI ((aP (ae rfl (ae rfl (ae rfl (ae rfl rfl))))).trans (all s (PF hs)))) (bB rfl rfl (.inr {_,rfl,rfl}))}
  ·rintro Z h ⟨rfl,_,rfl⟩;exact bY.mpr (bC rfl rfl)
  ·rintro d h rfl;exact rfl
 obtain⟨v,y,e,rfl⟩:=i6.mp q;exact⟨v,e⟩
def oS (c:Call)(kind:Nat)(d r w:D)(more:Nat)(M:Mem):Res D:=match kind with
 |0=>c 199 [d,r,w] M
 |_=>c 202 [d,r,w,.lst (uC more)] M
inductive jE:D->List D->Prop
 |machine:jE (.exc 3 none) [.str "machine"]
 |row:jE (.exc 0 (some i)) [.str "row",.int i]
 |long:jE (.exc 4 none) [.str "long"]
 |bound:jE (.exc 7 none) [.str "bound"]
 |many:jE (.exc 8 none) [.str "many"]
def Dm {K:Fl->Mem->Prop}(hk:kind<2)(hm:more<3)(n:Nat)(h:dG (oS (ag P n) kind d r w more M) (λ_ M'=>K (.next [some (nD kind),some d,some r,some w,some (nD more),some .non,none,none,none]) M') λx M'=>K (.exc x [some (nD kind),some d,some r,some w,some (nD more),some .non,none,none,none]) M') :
 af ((bg (aV (aj (aH .eq (aa 0) (gC (.int 0)))) (bg (eF (bL 199 (ag P n) (aM (aa 1) (aM (aa 2) (aM (aa 3) ba))))) aJ) (bg (eF (bL 202 (ag P n) (aM (aa 1) (aM (aa 2) (aM (aa 3) (aM (aF (aA false (aM (aA false ba) (aM (aA false (aM (aU (aM (gC (.int 0)) (aM (gC (.int 9)) (aM (aA false ba) ba)))) ba)) (aM (aA false (aM (aU (aM (dw (gC (.int 1))) (aM (gC (.int 1)) (aM (aA false (aM (gC (.int 7)) ba)) ba)))) ba)) ba)))) (aa 4)) ba)))))) aJ)) aJ) [some (nD kind),some d,some r,some w,some (nD more),some .non,none,none,none] M) K:=by
 refine av.mpr (hG.mpr ?_)
 match kind,hk,h with
 | 0,_,h=>
   refine av.mpr (fY.mpr ?_);rw[bM (ae rfl (ae rfl (ae rfl rfl)))];exact h
 | 1,_,h=>
   refine av.mpr (fY.mpr ?_);rw[bM (xs:=[d,r,w,.lst (uC more)]) (ae rfl (ae rfl (ae rfl (ae (by match more,hm with|0,_=>rfl|1,_=>rfl|2,_=>rfl) rfl))))]
   exact h
def yy (h:P 235=some {5,9,cZ})(hk:kind<2)(hm:more<3)(n:Nat)(e:oS (ag P n) kind d r w more M=.ok v M'):ag P (n+1) 235 [nD kind,d,r,w,nD more] M=.ok (.lst [.str "told"]) M':=by
 refine ak (aC h rfl ?_);show af (cZ (ag P n) [some (nD kind),some d,some r,some w,some (nD more),none,none,none,none] M) _;refine aY (bI rfl) (av.mpr (yR.mpr (Dm hk hm n ?_)));rw[e];refine Jj.mpr ?_;dsimp only[A8];rw[bY];refine aY (bI rfl) ?_;refine aY (bI rfl) ?_;exact bB rfl rfl ⟨rfl,rfl⟩
def ij (h:P 235=some {5,9,cZ})(hk:kind<2)(hm:more<3)(n:Nat){ys:List D}(j:jE x ys)(e:oS (ag P n) kind d r w more M=.err x M'):ag P (n+1) 235 [nD kind,d,r,w,nD more] M=.ok (.lst ys) M':=by
 refine ak (aC h rfl ?_);show af (cZ (ag P n) [some (nD kind),some d,some r,some w,some (nD more),none,none,none,none] M) _;refine aY (bI rfl) (av.mpr (yR.mpr (Dm hk hm n ?_)));rw[e];unfold dG;dsimp only[A8];refine aY (bI rfl) ?_;dsimp only[List.set];rw[la];dsimp only[Cy,List.set];rw[bY];cases j;all_goals
  refine aY (bI rfl) ?_;refine aY (bI rfl) ?_;exact az rfl (az rfl (aY (bI rfl) (bC rfl ⟨rfl,rfl⟩)))
end
structure xO (P:Nat->Option Df):Prop where
 m:HasM0 P
 r:kQ P
 p:HasP P
 w:uG P
 t:HasT P
 h15:P 15=some {1,6,dP}
 h35:P 35=some {3,6,gu}
 h151:P 151=some {1,2,eZ}
 h152:P 152=some {2,2,eL}
 h160:P 160=some {2,3,ec}
 h161:P 161=some {1,4,eC}
 h165:P 165=some {3,11,jn}
 h166:P 166=some {2,6,lO}
 h196:P 196=some {3,3,gq}
 h199:P 199=some {3,10,kL}
 h201:P 201=some {4,9,ez}
 h202:P 202=some {4,6,jo}
 h235:P 235=some {5,9,cZ}
 h236:P 236=some {2,8,jB}
 law:P 237=some {1,13,my}
def iY (P:Nat->Option Df)(m:bf)(e:D×List D):Prop:=∃x,jE x e.2/\∀(w:D) (M:Mem),ag P 37 196 [m.d,e.1,w] M=.err x M
section
variable{Z:Env}{M:Mem}{a b g:GE}
def Bc (ea:a Z M=.ok (.lst xs) M)(h:g Z M=.ok (nD j) M)(hz:xs.length<=1000):bZ false false true a (gC .non) g Z M=.ok (.lst (xs.take j)) M:=by
 refine ak ?_;rw[gX,ea];show af (g Z M) _;rw[h];exact{rfl,rfl,sq.mpr {aw (by rw[Qf];omega),rfl,rfl}}
def CB (ea:a Z M=.ok (.lst xs) M)(h:g Z M=.ok (nD j) M)(hz:xs.length<=1000):bZ false true false a g (gC .non) Z M=.ok (.lst (xs.drop j)) M:=by
 refine ak ?_;rw[gX,ea];show af (g Z M) _;rw[h];exact{rfl,rfl,Bt.mpr {aw (by rw[QL];omega),rfl,rfl}}
def jU (ea:a Z M=.ok (.lst xs) M)(h:b Z M=.ok (.lst ys) M)(hz:xs.length+ys.length<=1000):ah false .add a b Z M=.ok (.lst (xs++ys)) M:=by
 rw[iL ea h];exact ak (uy.mpr (bF.mpr {aw (by rw[Pt];omega),rfl,rfl}))
def sC (h:g Z M=.ok (nD k) M)(hz:k<=1000):ah false .mul (aA false (aM (gC (.int 0)) ba)) g Z M=.ok (.lst (List.replicate k (.int 0))) M:=by
 rw[iL (ft (ae rfl rfl) (Pb rfl)) h];refine ak (zu.mpr {{aw ?_,`a,`a},bF.mpr {aw ?_,?_,rfl}})
 ·rw[QM,QJ];omega
 ·rw[QM,List.flatten_replicate_singleton,QK];omega
 ·rw[QM,List.flatten_replicate_singleton]
def eV (ea:a Z M=.ok x M)(h:b Z M=.ok y M):aU (aM a (aM b ba)) Z M=.ok (.tup [x,y]) M:=r6 (ae ea (ae h rfl)) (Pb rfl)
def nM:aA false (aM (gC (.str z)) ba) Z M=.ok (.lst [.str z]) M:=ft (ae rfl rfl) (Pb rfl)
def lh (h:g Z M=.ok (.int i) M):aA false (aM (gC (.str z)) (aM g ba)) Z M=.ok (.lst [.str z,.int i]) M:=ft (ae rfl (ae h rfl)) (Pb rfl)
end
def lr (m:bf):List D:=[.int ((m.deeds.map bb.d).length:Int),.int (-1),.bl true,.non,.str "0",.tup [.int 0],.lst [.int 0],.int (10^20)]
def xF {lo hi i:Int}:aZ lo hi (.int i)=(decide (lo<=i)&&decide (i<=hi)):=rfl
def F2 (hm:aO m)(h:o∈lr m):Th 2 20 o/\tY m o=false:=by
 have d6:=hm.d6;unfold lr at h;simp only[Pr,P8,or_false,O7] at h;rcases h with rfl|rfl|rfl|rfl|rfl|rfl|rfl|rfl
 ·exact{trivial,xF.trans (QW.mpr (.inr (decide_eq_false `a)))}
 ·exact⟨trivial,rfl⟩
 ·exact⟨trivial,rfl⟩
 ·exact⟨trivial,rfl⟩
 ·exact{g8 `k,rfl}
 ·exact{g8 `k,rfl}
 ·exact{g8 `k,rfl}
 ·exact{trivial,xF.trans (QW.mpr (.inr (decide_eq_false `a)))}
def Af {m:bf}(hi:i<m.deeds.length):tY m (nD i)=true:=xF.trans (Q3.mpr {decide_eq_true `a,decide_eq_true `a})
section
variable{P:Nat->Option Df}(h:xO P){M:Mem}{p B:Nat}{m:bf}{d r w x o:D}{kind more k L:Nat}
include h
theorem qi (e:ag P 37 196 [d,r,w] M=.err x M):oS (ag P 38) kind d r w more M=.err x M:=by
 unfold oS;split
 ·exact wU h.h199 37 e
 ·exact B3 h.h202 37 e
theorem v8 (hm:aO m){a b:List D}(j:∀d∈a,∃i:Nat,d=nD i/\i<m.deeds.length)(u:∀d∈b,Th 2 20 d)(ho:o∈lr m)(hl:a.length<=100):iY P m (.lst (a++o::b),[.str "row",.int (a.length:Int)]):=by
 have q:=F2 hm ho;refine{_,.row,λw M=>qB h.m h.h196 27 hm (BS h.m 32 (k:=2) (L:=20) (λd hd=>?_) `a q.2 λd hd=>?_)}
 ·rcases PJ.mp hd with z|z
  ·obtain⟨i,rfl,_⟩:=j d z;trivial
  ·rcases Pr.mp z with rfl|z
   ·exact q.1
   ·exact u d z
 ·obtain⟨i,rfl,v⟩:=j d hd;exact Af v
theorem lu (hm:aO m){r:List D}(hr:∀d∈r,∃i:Nat,d=nD i/\i<m.deeds.length)(hl:r.length<=1000):ag P 35 17 [m.d,.lst r] M=.ok .non M:=
 F4 h.m 32 (k:=0) (L:=0) (λd hd=>by obtain⟨i,rfl,_⟩:=hr d hd;trivial) `a λd hd=>by obtain⟨i,rfl,j⟩:=hr d hd;exact Af j
theorem zeros (hm:aO m):∀d∈List.replicate k (D.int 0),∃i:Nat,d=nD i/\i<m.deeds.length:=λd hd=>{0,List.eq_of_mem_replicate hd,hm.d1}
theorem tm (hm:aO m)(h1:12<k)(h2:k<=1000):iY P m (.lst (List.replicate k (.int 0)),[.str "long"]):=
 {_,.long,λw M=>zy h.m h.h196 27 hm (lu h hm (zeros h hm) (by rw[QK];exact h2)) (by rw[QK];exact h1)}
theorem zo (hm:aO m)(hd:cj .list d=some false):iY P m (d,[.str "row",.int 0]):=
 {_,.row,λw M=>qB h.m h.h196 27 hm (BR h.m 32 hd)}
theorem qu (hm:aO m)(O:ay M p B)(hB:B<=600000):af (ag P 39 236 [.cell p,m.d] M) λd M'=>∃es:List (D×List D),d=.lst (es.map λe=>.tup [e.1,.lst e.2])/\es.length<=7/\(∀e∈es,iY P m e)/\ay M' p (B+60)/\aW p M M':=by
 refine aC h.h236 rfl ?_;show af (jB (ag P 38) [some (.cell p),some m.d,none,none,none,none,none,none] M) _;refine bQ (k:=λd M'=>∃r:List Nat,d=.lst (r.map nD)/\xK m r/\r.length<=12/\ay M' p (B+50)/\aW p M M') ?_ ?_
 ·rw[aP (ae rfl (ae rfl (ae rfl rfl)))];exact uZ h.p h.h35 35 hm O `a `d
 rintro _ M1 ⟨r,rfl,hr,S,p1,k1⟩;have ln:(r.map nD).length=r.length:=O7 _;refine dA h.p.toHasP0 36 (many:=r.length+1) rfl ?_ p1 `a `a `a λa M2 ha p2 k2=>?_
 ·rw[iL (m5 (au rfl)) rfl,ln];exact ak (d7.mpr {by show D.int _=D.int _;congr 1,rfl})
 refine bQ (k:=λd M'=>d∈lr m/\ay M' p (B+52)/\aW p M M') ?_ ?_
 ·refine aD (tN h.p.toHasP0 36 (many:=8) rfl rfl p2 `a `d `d (xs:=lr m) rfl rfl) ?_
  rintro d I ⟨X,Y,q3⟩;exact{X,Y,k1.trans (k2.trans q3)}
 rintro o I ⟨ho,W,R⟩;refine bQ (k:=λd M'=>∃v:Nat,d=nD (13+v)/\v<28/\ay M' p (B+53)/\aW p M M') ?_ ?_
 ·refine dg.mpr (cV.mpr (aD (dO h.p.toHasP0 36 (many:=28) rfl rfl W `a `d `d) ?_))
  rintro _ J ⟨v,rfl,H,E,y⟩;exact d7.mpr {v,congrArg D.int `a,H,E,R.trans y}
 rintro _ J ⟨v,rfl,H,E,y⟩;have l1:((r.map nD).take a).length=a:=by rw[Qf,ln];omega
 have l2:((r.map nD).drop a).length<=12:=by rw[QL,ln];omega
 have U:((r.map nD).take a++[o]++(r.map nD).drop a).length<=60:=by rw[Pt,Pt,QJ];omega
 refine aY (bI (jU (jU (Bc (xs:=r.map nD) (j:=a) rfl rfl `a) (ft (xs:=[o]) (ae rfl rfl) (Pb rfl)) (by rw[QJ];omega)) (CB (xs:=r.map nD) (j:=a) rfl rfl `a) (by rw[Pt,QJ];omega))) ?_
 generalize u:(r.map nD).take a++[o]++(r.map nD).drop a=bad at U;refine aY (bI (ft (ae (eV rfl (lh rfl)) (ae (eV (jU (xs:=bad) (ys:=[.int (-1)]) rfl rfl (by rw[QJ];omega)) (lh rfl)) (ae (eV (jU (sC (k:=41) rfl `d) (ft (xs:=[o]) (ae rfl rfl) (Pb rfl)) (Pb rfl)) (lh rfl)) (ae (eV (sC (k:=13+v) rfl `a) nM) rfl)))) (Pb rfl))) ?_
 refine bC (jU rfl (ft (ae (eV (sC (k:=41+a) ((iL rfl (au rfl)).trans (ak (d7.mpr {congrArg D.int `a,rfl}))) `a) nM) (ae (eV ((Ar (ae (a:=aa 2) rfl rfl)).trans rfl) (lh rfl)) (ae (eV rfl (lh rfl)) rfl))) (Pb rfl)) (Pb rfl)) ?_
 have F:∀d∈r.map nD,∃i:Nat,d=nD i/\i<m.deeds.length:=λd hd=>by
  obtain⟨i,L,rfl⟩:=Pp.mp hd;exact{i,rfl,hr.2 i L}
 have gt:∀d∈(r.map nD).drop a,Th 2 20 d:=λd hd=>by
  obtain⟨i,rfl,_⟩:=F d (Rk hd);trivial
 have b1:∀xs:List D,(∀d∈xs,Th 2 20 d)->iY P m (.lst (bad++xs),[.str "row",.int (a:Int)]):=λxs Q=>by
  have q:=v8 h hm (a:=(r.map nD).take a) (b:=(r.map nD).drop a++xs) (λd hd=>F d (Qs hd)) (λd hd=>(PJ.mp hd).elim (gt d) (Q d)) ho `a
  rw[l1] at q;rw[<- u,Qv,Qv];exact q
 have b2:=b1 [] λ_ z=>nomatch z;rw[Qz] at b2;refine{[(.lst bad,[.str "row",.int (a:Int)]),(.lst (bad++[.int (-1)]),[.str "row",.int (a:Int)]),(.lst (List.replicate 41 (.int 0)++[o]),[.str "row",.int 41]),(.lst (List.replicate (13+v) (.int 0)),[.str "long"]),(.lst (List.replicate (41+a) (.int 0)),[.str "long"]),(.tup (r.map nD),[.str "row",.int 0]),(.non,[.str "row",.int 0])],rfl,O4 7,λe he=>?_,E.mono `a,y}
 simp only[Pr,P8,or_false] at he;rcases he with rfl|rfl|rfl|rfl|rfl|rfl|rfl
 ·exact b2
 ·exact b1 _ λd hd=>by rw[Pj.mp hd];trivial
 ·exact v8 h hm (zeros h hm) (λ_ z=>nomatch z) ho (Pb rfl)
 ·exact tm h hm `a `a
 ·exact tm h hm `a `a
 ·exact zo h hm rfl
 ·exact zo h hm rfl
end
section
variable{Z:Env}{M M1:Mem}{a b:GE}
def gL (h1:a Z M=.ok x M1)(h2:b Z M1=.ok x M1)(e:bp .ne x x M1=some false):aj (aH .ne a b) Z M=.ok false M1:=by
 unfold aj aH;rw[h1];show((b Z M1).bind _).bind _=_;rw[h2];show((bV M1 (bp .ne x x M1)).bind _).bind _=_;rw[e];rfl
def Ab {z:Str}(hz:(aq 63 (.str z)&&bH (.str z) (.str z))=true):bp .eq (.lst [.str z]) (.lst [.str z]) M=some true:=by
 have q:=Q3.mp hz;have e:aq 64 (.lst [.str z])=true:=by show(aq 63 (.str z)&&true)=true;rw[q.1];rfl
 exact qc e e (by show(bH (.str z) (.str z)&&true)=true;rw[q.2];rfl)
def sU {z:Str}(hz:(aq 63 (.str z)&&bH (.str z) (.str z))=true):bp .ne (.lst [.str z]) (.lst [.str z]) M=some false:=by
 show(bp .eq (.lst [.str z]) (.lst [.str z]) M).map (!·)=_;rw[Ab hz];rfl
def jR (h:jE x ys):bp .ne (.lst ys) (.lst ys) M=some false:=by
 cases h with
 | @row i=>
   have e:aq 64 (.lst [.str "row",.int i])=true:=by show(aq 63 (.str "row")&&(true&&true))=true;decide +kernel
   exact qb (v:=true) e e (by show(bH (.str "row") (.str "row")&&((i==i)&&true))=true;rw[beq_self_eq_true];decide +kernel)
 |_=>exact sU `k
end
def i8:List D:=[.int 0,.int 7,.int (-1),.bl true,.non,.str "1",.tup [.int 1],.int (10^20)]
def Jo (h:w∈i8):Th 2 20 w/\aZ 1 6 w=false:=by
 unfold i8 at h;simp only[Pr,P8,or_false] at h;rcases h with rfl|rfl|rfl|rfl|rfl|rfl|rfl|rfl
 ·exact⟨trivial,rfl⟩
 ·exact⟨trivial,rfl⟩
 ·exact⟨trivial,rfl⟩
 ·exact⟨trivial,rfl⟩
 ·exact⟨trivial,rfl⟩
 ·exact{g8 `k,rfl}
 ·exact{g8 `k,rfl}
 ·exact⟨trivial,rfl⟩
section
variable{P:Nat->Option Df}(h:xO P){M:Mem}{p B:Nat}{m g:bf}{d r w x odd:D}{ds:List D}{kind more k L c t:Nat}{e:D×List D}
include h
theorem r9 (hk:kind<2)(j:more<3)(he:iY P m e):∃x,jE x e.2/\∀w,ag P 39 235 [nD kind,m.d,e.1,w,nD more] M=.ok (.lst e.2) M:=by
 obtain⟨x,hs,u⟩:=he;exact{x,hs,λw=>ij h.h235 hk j 38 hs (qi h (u w M))}
theorem qr (hk:kind<2)(j:more<3)(hd:Th 7 7 d)(u:eX d=false):ag P 39 235 [nD kind,d,r,w,nD more] M=.ok (.lst [.str "machine"]) M:=
 ij h.h235 hk j 38 .machine (qi h (zx h.m h.h196 27 hd `d u))
theorem nH (hk:kind<2)(j:more<3)(hm:aO m)(hr:∀d∈ds,∃i:Nat,d=nD i/\i<m.deeds.length)(hl:ds.length<=12)(u:w∈i8):ag P 39 235 [nD kind,m.d,.lst ds,w,nD more] M=.ok (.lst [.str "bound"]) M:=by
 have q:=Jo u;have e:=qC h.m h.h196 27 hm (lu h hm hr `a (M:=M)) hl q.1
 refine ij h.h235 hk j 38 .bound (qi h ?_);cases c:ag P 37 196 [m.d,.lst ds,w] M with
 |bad=>rw[c] at e;exact e.elim
 |ok v M1=>rw[c] at e;exact absurd e.1 (by rw[q.2];exact PC)
 |err v M1=>rw[c] at e;obtain⟨_,rfl,rfl⟩:=e;rfl
theorem vq (hm:aO m)(hr:∀d∈ds,∃i:Nat,d=nD i/\i<m.deeds.length)(hl:ds.length<=12)(j:1<=c/\c<=6):ag P 37 196 [m.d,.lst ds,nD c] M=.ok .non M:=by
 have e:=qC h.m h.h196 27 hm (lu h hm hr `a (M:=M)) hl (k:=0) (L:=0) (w:=nD c) trivial
 have b:aZ 1 6 (nD c)=true:=xF.trans (Q3.mpr {decide_eq_true `a,decide_eq_true `a})
 cases q:ag P 37 196 [m.d,.lst ds,nD c] M with
 |bad=>rw[q] at e;exact e.elim
 |ok v M1=>rw[q] at e;obtain⟨_,rfl,rfl⟩:=e;rfl
 |err v M1=>rw[q] at e;exact absurd e.1 (by rw[b];exact λz=>nomatch z)
theorem qo (j:more<3)(hm:aO m)(hr:∀d∈ds,∃i:Nat,d=nD i/\i<m.deeds.length)(hl:ds.length<=12)(u:1<=c/\c<=6):ag P 39 235 [nD 1,m.d,.lst ds,nD c,nD more] M=.ok (.lst [.str "told"]) M:=by
 obtain⟨v,e⟩:=Gg h.m.toHasB0 h.h201 h.h202 34 u j hl (vq h hm hr hl u (M:=M));exact yy h.h235 (kind:=1) `d j 38 e
theorem qp (hm:aO g)(y:∀d∈g.deeds,∃a t c,d=.turn a t c)(j:∀A,AllIn g A->255<A.length)(hr:∀d∈ds,∃i:Nat,d=nD i/\i<g.deeds.length)(hl:ds.length<=12)(u:1<=c/\c<=6):af (ag P 39 235 [nD 0,g.d,.lst ds,nD c,nD 0] M) λd M'=>d=.lst [.str "many"]/\Sub M M':=by
 have q:=uJ h.h199 37 (vq h hm hr hl u (M:=M)) (yL (λ_=>rfl) (λ_=>rfl) h.m.toHasB0 h.r h.h15 h.h151 h.h152 h.h165 h.h166 26 hm y j);cases e:ag P 38 199 [g.d,.lst ds,nD c] M with
 |bad=>rw[e] at q;exact q.elim
 |ok v M1=>rw[e] at q;exact q.elim
 | err v M1=>
   rw[e] at q;obtain⟨rfl,S⟩:=F0.mp q;rw[ij h.h235 (kind:=0) (more:=0) `d `d 38 .many e]
   exact⟨rfl,S⟩
theorem BC (hk:kind<2)(j:more<3)(ho:Th 7 7 odd)(he:iY P m e) :
 af (Dx (ag P 39) [x0,x1,x2,x3,some (nD more),some x5,some x6,some m.d,some odd,some (nD kind),some e.1,some (.lst e.2),x12] M) λfl M'=>M'=M/\fl=.next [x0,x1,x2,x3,some (nD more),some x5,some x6,some m.d,some odd,some (nD kind),some e.1,some (.lst e.2),x12]:=by
 obtain⟨x,hs,tb⟩:=r9 h hk j he (M:=M);obtain⟨w,u⟩:∃w,aF (aA false (aM (aa 5) (aM (aa 6) ba))) (ah false .mod (aa 4) (gC (.int 2))) [x0,x1,x2,x3,some (nD more),some x5,some x6,some m.d,some odd,some (nD kind),some e.1,some (.lst e.2),x12] M=.ok w M:=by
  match more,j with
  |0,_=>exact{_,rfl}
  |1,_=>exact{_,rfl}
  |2,_=>exact{_,rfl}
 refine az (gL ((aP (ae rfl (ae rfl (ae rfl (ae u (ae rfl rfl)))))).trans (tb w)) rfl (jR hs)) ?_;refine az (AB (bu (bq ((aP (ae rfl rfl)).trans (qv h.w 34 ho `d `d)))) λz=>?_) ⟨rfl,rfl⟩
 have v:eX odd=false:=by cases q:eX odd;rfl;rw[q] at z;cases z
 exact gL ((aP (ae rfl (ae rfl (ae rfl (ae rfl (ae rfl rfl)))))).trans (qr h hk j ho v)) rfl (jR .machine)
theorem zJ (hk:kind<2)(v:more<3)(hm:aO m)(ho:Th 7 7 odd)(Q:w∈i8)(O:ay M p B)(S:B<=500000) :
 af (zK (ag P 39) [x0,some (.cell p),x2,x3,some (nD more),some x5,some w,some m.d,some odd,some (nD kind),x10,x11,x12] M) λfl M'=>ay M' p (B+110)/\∃j u,∃r:List Nat,(∀d∈r.map nD,∃i:Nat,d=nD i/\i<m.deeds.length)/\r.length<=12/\fl=.next [x0,some (.cell p),x2,x3,some (nD more),some x5,some w,some m.d,some odd,some (nD kind),j,u,some (.lst (r.map nD))]:=by
 refine av.mpr (fX.mpr (gU.mpr ?_));rw[aP (ae rfl (ae rfl rfl))];refine aD (qu h hm O `a) ?_
 rintro _ M1 ⟨I,rfl,_,E,p1,k1⟩;refine{rfl,gP (ds:=I.map λe=>.tup [e.1,.lst e.2]) (λi Z M'=>M'=M1/\∃j u,Z=[x0,some (.cell p),x2,x3,some (nD more),some x5,some w,some m.d,some odd,some (nD kind),j,u,x12]) (λ_ _ _ _=>rfl) {rfl,_,_,rfl} ?_ ?_}
 ·rintro i d Z M' hd ⟨rfl,j,u,rfl⟩;obtain⟨e,he,rfl⟩:=Pp.mp (PF hd);refine{_,rfl,aD (BC h hk v ho (E e he)) ?_};rintro fl F ⟨rfl,rfl⟩;exact{_,rfl,rfl,_,_,rfl}
 rintro Z _ ⟨rfl,j,u,rfl⟩;refine bY.mpr (az (AB (bu (bq ((aP (ae rfl rfl)).trans (qv h.w 34 ho `d `d)))) λz=>?_) ?_)
 ·have R:eX odd=false:=by cases q:eX odd;rfl;rw[q] at z;cases z
  exact gL ((aP (ae rfl (ae rfl (ae rfl (ae rfl (ae rfl rfl)))))).trans (qr h hk (more:=0) `d ho R)) rfl (jR .machine)
 refine bQ (k:=λd M'=>∃r:List Nat,d=.lst (r.map nD)/\xK m r/\r.length<=12/\ay M' p (B+110)) ?_ ?_
 ·rw[aP (ae rfl (ae rfl (ae rfl rfl)))];refine aD (uZ h.p h.h35 36 hm p1 `a `d) ?_
  rintro d F ⟨r,e,hr,l,q,_⟩;exact⟨r,e,hr,l,q⟩
 rintro _ F ⟨r,rfl,hr,y,p2⟩;have H:∀d∈r.map nD,∃i:Nat,d=nD i/\i<m.deeds.length:=λd hd=>by
  obtain⟨i,J,rfl⟩:=Pp.mp hd;exact{i,rfl,hr.2 i J}
 exact az (gL ((aP (ae rfl (ae rfl (ae rfl (ae rfl (ae rfl rfl)))))).trans (nH h hk v hm H (by rw[O7];exact y) Q)) rfl (jR .bound)) {p2,_,_,r,H,y,rfl}
theorem yt (S:aO g)(ht:t<6)(hp:ay M p B)(hB:B<=100000):af (yw (ag P 39) [x0,some (.cell p),some g.d,some (nD t),x4,x5,x6,x7,x8,x9,x10,x11,x12] M) λfl M'=>ay M' p (B+1000)/\∃y4 c w y7 y8 H u E j,(1<=c/\c<=6)/\w∈i8/\fl=.next [x0,some (.cell p),some g.d,some (nD t),y4,some (nD c),some w,y7,y8,H,u,E,j]:=by
 refine dA h.p.toHasP0 37 (many:=3) rfl rfl hp `a `d `d λmore M1 F p1 k1=>?_
 refine bQ (k:=λd M'=>∃c:Nat,d=nD c/\(1<=c/\c<=6)/\ay M' p (B+2)) ?_ ?_
 ·refine dg.mpr (cV.mpr (aD (dO h.p.toHasP0 37 (many:=6) rfl rfl p1 `a `d `d) ?_))
  rintro _ X ⟨v,rfl,hv,p2,k2⟩;exact d7.mpr {1+v,congrArg D.int `a,`a,p2}
 rintro _ X ⟨c,rfl,I,p2⟩;refine bQ (k:=λd M'=>d∈i8/\ay M' p (B+3)) ?_ ?_
 ·refine aD (tN h.p.toHasP0 37 (many:=8) rfl rfl p2 `a `d `d (xs:=i8) rfl rfl) ?_
  rintro d Y ⟨q1,q2,q3⟩;exact⟨q1,q2⟩
 rintro w Y ⟨W,p3⟩;refine bQ (k:=λd M'=>∃m:bf,d=m.d/\aO m/\ay M' p (B+303)) ?_ ?_
 ·refine gn.mpr (bA.mpr ?_);rw[aP (ae (au rfl) rfl)];refine aD (u3 h.p.toHasP0 38 p3) ?_;rintro _ Q ⟨rfl,J,k4⟩;show af (ag P 39 160 [.cell p,nD t] Q) _;refine aD (Fh h.p h.h160 33 ht J `a) ?_
  rintro d R ⟨m,e,hm,O,_⟩;exact⟨m,e,hm,O⟩
 rintro _ Q ⟨m,rfl,hm,J⟩;refine bQ (k:=λd M'=>Th 7 7 d/\ay M' p (B+403)) ?_ ?_
 ·rw[aP (ae rfl (ae rfl (ae rfl rfl)))];refine aD (u1 h.p h.t h.w 5 28 `d (vw hm) `d `d `d J `a) ?_
  rintro d R ⟨t,q,_⟩;exact{t,q.mono `a}
 rintro odd R ⟨ho,O⟩;refine av.mpr (fX.mpr (g7.mpr (cV.mpr {2,rfl,{`d,`d},?_})))
 refine gP (ds:=(List.range 2).map λ(k:Nat)=>D.int (k:Int)) (λi Z M'=>ay M' p (B+403+110*i)/\∃H u E j,Z=[x0,some (.cell p),some g.d,some (nD t),some (nD more),some (nD c),some w,some m.d,some odd,H,u,E,j]/\(0<i->∃r:List Nat,(∀d∈r.map nD,∃i:Nat,d=nD i/\i<m.deeds.length)/\r.length<=12/\j=some (.lst (r.map nD)))) (λ_ _ _ _=>rfl) {O,_,_,_,_,rfl,λz=>absurd z (Ql 0)} ?_ ?_
 ·rintro i d Z M' hd ⟨q,H,u,E,j,rfl,_⟩;have U:i<2:=(O1.mp hd).1;rw[PZ,Rp U] at hd;cases hd;refine{_,rfl,aD (zJ h U F hm ho W q `a) ?_}
  rintro fl M6 ⟨q6,z10,z11,r,hr,hl,rfl⟩;exact{_,rfl,q6.mono `a,_,_,_,_,rfl,λ_=>⟨r,hr,hl,rfl⟩}
 rintro Z M6 ⟨p6,H,u,E,j,rfl,hy⟩;obtain⟨r,hr,hl,rfl⟩:=hy `d
 refine bY.mpr (az (rH (x:=false) (y:=false) (gL ((aP (ae rfl (ae rfl (ae rfl (ae rfl (ae rfl rfl)))))).trans (qo h F hm hr (by rw[O7];exact hl) I)) rfl (sU `k)) (gL ((aP (ae rfl (ae rfl (ae rfl (ae rfl (ae rfl rfl)))))).trans (qo h F S (ds:=[.int 0]) (λd hd=>{0,Pj.mp hd,S.d1}) `d I)) rfl (sU `k))) {p6.mono `s,_,c,w,_,_,_,_,_,_,I,W,rfl})
omit h in
theorem LY (h:xO P)(ns:List Int)(hn:ns.length<=63):∃M,ag P 40 237 [.frz (ns.map D.int)] []=.ok (.bl true) M:=by
 have J:af (ag P 40 237 [.frz (ns.map D.int)] []) λd _=>d=.bl true:=by
  refine aC h.law rfl ?_;show af (my (ag P 39) [some (.frz (ns.map D.int)),none,none,none,none,none,none,none,none,none,none,none,none] []) _;unfold my;refine bQ (k:=λd y=>d=.cell 1/\ay y 1 0) ?_ ?_
  ·rw[aP (ae rfl rfl)];exact Fj h.p.toHasP0 38 hn
  rintro _ M1 ⟨rfl,p1⟩;refine bQ (k:=λd y=>∃g:bf,d=g.d/\aO g/\(∀d∈g.deeds,∃a t c,d=.turn a t c)/\(∀A,AllIn g A->255<A.length)/\ay y 1 4) ?_ ?_
  ·refine gn.mpr (bA.mpr ?_);rw[aP (ae (au rfl) rfl)];refine aD (u3 h.p.toHasP0 38 p1) ?_;rintro _ M2 ⟨rfl,p2,_⟩;refine bS.mpr (aD (Fm h.p.toHasP0 h.h161 36 p2 `d) ?_)
   rintro d M3 ⟨g,e,H,ht,hb,p3,_⟩;exact⟨g,e,H,ht,hb,p3⟩
  rintro _ M2 ⟨g,rfl,H,O,F,p2⟩;refine av.mpr (fX.mpr (g7.mpr (cV.mpr {4,rfl,{`d,`d},?_})))
  refine gP (ds:=(List.range 4).map λ(k:Nat)=>D.int (k:Int)) (λi Z y=>ay y 1 (4+1000*i)/\∃U W X Y y7 y8 y9 j u E,Z=[some (.frz (ns.map D.int)),some (.cell 1),some g.d,U,W,X,Y,y7,y8,y9,j,u,E]/\(0<i->∃(c:Nat) (w:D),(1<=c/\c<=6)/\w∈i8/\X=some (nD c)/\Y=some w)) (λ_ _ _ _=>rfl) {p2,_,_,_,_,_,_,_,_,_,_,rfl,λz=>absurd z (Ql 0)} ?_ ?_
  ·rintro i d Z y hd ⟨q,U,W,X,Y,y7,y8,y9,j,u,E,rfl,_⟩;have hi:i<4:=(O1.mp hd).1;rw[PZ,Rp hi] at hd;cases hd;refine{_,rfl,aD (yt h H (t:=i) `a q `a) ?_}
   rintro fl M3 ⟨q3,z4,c,w,z7,z8,z9,z10,z11,z12,R,hw,rfl⟩;exact{_,rfl,q3.mono `a,_,_,_,_,_,_,_,_,_,_,rfl,λ_=>⟨c,w,R,hw,rfl,rfl⟩}
  rintro Z M3 ⟨p3,U,W,X,Y,y7,y8,y9,j,u,E,rfl,hy⟩;obtain⟨c,w,R,hw,rfl,rfl⟩:=hy `d
  refine bY.mpr (av.mpr (fX.mpr (gU.mpr (dg.mpr ?_))));rw[aP (ae rfl (ae rfl rfl))];refine aD (qu h H p3 `d) ?_
  rintro _ M4 ⟨es,rfl,l7,hes,p4,_⟩;rw[ft (xs:=[(.lst [],[D.str "many"]),(.lst [.int 0],[D.str "many"])].map λe:D×List D=>.tup [e.1,.lst e.2]) (ae (eV rfl nM) (ae (eV rfl nM) rfl)) (Pb rfl),bU];refine uy.mpr (bF.mpr {aw (by rw[Pt,O7,O7];show es.length+2<=_;omega),rfl,?_})
  rw[<- PL];have zr:∀d∈[D.int 0],∃i:Nat,d=nD i/\i<g.deeds.length:=λd hd=>{0,Pj.mp hd,H.d1};have Q:∀e∈es++[(.lst [],[.str "many"]),(.lst [.int 0],[.str "many"])],∀M:Mem,(∃x,jE x e.2)/\af (ag P 39 235 [nD 0,g.d,e.1,nD c,nD 0] M) λd y=>d=.lst e.2/\Sub M y:=λe he M=>by
   rcases PJ.mp he with z|z
   ·obtain⟨x,hs,q⟩:=r9 h (kind:=0) (more:=0) `d `d (hes e z) (M:=M)
    refine{⟨x,hs⟩,?_};rw[q];exact{rfl,.refl}
   ·rcases Pr.mp z with rfl|z
    ·exact{{_,.many},qp h H O F (ds:=[]) (λ_ z=>nomatch z) `d R}
    ·rw[Pj.mp z];exact{{_,.many},qp h H O F zr `d R}
  refine gP (ds:=(es++[(D.lst [],[D.str "many"]),(.lst [.int 0],[.str "many"])]).map λe:D×List D=>D.tup [e.1,.lst e.2]) (λi Z y=>∃j u,Z=[some (.frz (ns.map D.int)),some (.cell 1),some g.d,U,W,some (nD c),some w,y7,y8,y9,j,u,E]) (λ_ _ _ _=>rfl) {_,_,rfl} ?_ ?_
  ·rintro i d Z y hd ⟨j,u,rfl⟩;obtain⟨e,he,rfl⟩:=Pp.mp (PF hd);obtain⟨⟨x,hs⟩,q⟩:=Q e he y;obtain⟨_,I,q,rfl,S⟩:=i6.mp q;exact{_,rfl,zR (gL ((aP (ae rfl (ae rfl (ae rfl (ae rfl (ae rfl rfl)))))).trans q) rfl (jR hs)) {_,rfl,_,_,rfl}}
  rintro Z I ⟨j,u,rfl⟩;refine bY.mpr (bC (v:=.bl true) ?_ rfl);have e:=nH h (kind:=0) (more:=0) `d `d H zr `d hw (M:=I)
  unfold aH;rw[aP (ae rfl (ae rfl (ae rfl (ae rfl (ae rfl rfl)))))];show(Res.bind (ag P 39 235 [nD 0,g.d,.lst [.int 0],w,nD 0] I) _)=_;rw[e];show(bV I (bp .eq (.lst [.str "bound"]) (.lst [.str "bound"]) I)).bind _=_;rw[Ab `k];rfl
 obtain⟨d,M,e,rfl⟩:=i6.mp J;exact⟨M,e⟩
end
end LD
end
set_option maxHeartbeats 0
namespace K42
open PySem PySem.Spec PyProof.Rows L2 LD
noncomputable def top (i:Nat):Stmt:=PySem.Challenge.pw_leastdeeds_k42_mending_refused.main.body.getD i (.Pass {0,0,0,0})
noncomputable def q0:Str×Tok:=("leastdeeds.wholes",337)
noncomputable def q1:Str×Tok:=("leastdeeds.machines",348)
noncomputable def q2:Str×Tok:=("leastdeeds.runs",525)
noncomputable def q3:Str×Tok:=("leastdeeds.least",612)
noncomputable def q4:Str×Tok:=("leastdeeds.mending",657)
noncomputable def q5:Str×Tok:=("law_leastdeeds_k42_mending_refused",754)
noncomputable def tb:List Ent:=[{0,"is_between",top 10,3,["thing","low","high"],132,q0,gr,false,none,0},
 {1,"is_word",top 18,2,["words","thing"],139,q1,jq,false,none,0},
 {2,"is_place",top 19,2,["places","thing"],146,q1,iB,false,none,0},
 {3,"is_cost",top 20,1,["thing"],153,q1,jr,false,none,0},
 {4,"is_tuple_of",top 21,2,["long","thing"],160,q1,fE,false,none,0},
 {5,"is_table",top 22,2,["words","thing"],165,q1,iA,false,none,0},
 {6,"is_double_table",top 23,2,["words","thing"],170,q1,dI,false,none,0},
 {7,"is_turn",top 24,3,["words","places","parts","at","table","price"],177,q1,fT,false,none,0},
 {8,"is_join",top 25,3,["words","places","parts","at","other","table","price"],184,q1,fV,false,none,0},
 {9,"is_move",top 26,3,["words","places","parts","at","other","price"],191,q1,fU,false,none,0},
 {10,"is_put",top 27,3,["words","places","parts","at","word","price"],198,q1,gQ,false,none,0},
 {11,"is_deed",top 29,3,["words","places","thing","sort","is_sort"],206,q1,dD,false,none,0},
 {12,"is_machine",top 30,1,["thing","words","places","deeds"],211,q1,iX,false,none,0},
 {13,"need_machine",top 31,1,["thing"],218,q1,fb,true,none,0},
 {15,"beginnings",top 32,1,["machine","words","places","deeds","starts","place"],223,q1,dP,true,none,0},
 {16,"is_deed_number",top 33,2,["machine","thing"],230,q1,fN,false,none,0},
 {17,"need_numbers",top 34,2,["machine","row","place","thing"],237,q1,e9,true,none,0},
 {18,"need_row",top 35,2,["machine","row"],244,q1,oP,true,none,0},
 {20,"turned",top 38,2,["deed","standing","sort","at","table","price"],256,q2,kK,false,none,0},
 {21,"joined",top 39,2,["deed","standing","sort","at","other","table","price"],263,q2,ny,false,none,0},
 {22,"moved",top 40,2,["deed","standing","sort","at","other","price"],270,q2,qe,false,none,0},
 {23,"put_in",top 41,2,["deed","standing","sort","at","word","price"],277,q2,nv,false,none,0},
 {24,"done",top 43,2,["deed","standing","new_word","at"],285,q2,oQ,false,none,0},
 {151,"priced_leads",top 48,1,["machine","starts"],302,q3,eZ,true,none,0},
 {152,"led_to",top 49,2,["lead","ends"],307,q3,eL,false,none,0},
 {165,"next_level",top 50,3,["leads","levels","found","price","level","number","step_price","lead","ahead","ends","new_ends"],314,q3,jn,true,none,0},
 {166,"reached",top 51,2,["machine","bound","leads","empty_ends","found","levels"],322,q3,lO,true,none,315},
 {196,"need_mendable",top 55,3,["machine","row","most"],329,q4,gq,true,none,0},
 {199,"mended",top 58,3,["machine","row","most","found","standing","steps","step","place","long","cheaper"],350,q4,kL,true,none,0},
 {201,"behind_window",top 60,4,["machine","row","most","step","place","long","cheaper","beyond","window"],362,q4,ez,false,none,0},
 {202,"made_by",top 61,4,["machine","row","most","steps","standing","step"],369,q4,jo,true,none,0},
 {28,"_law_spread",top 63,2,["cell","at","primes","one","two","three"],376,q5,kT,false,none,0},
 {29,"_law_open",top 64,1,["script","cells","k","cell"],383,q5,jC,false,none,0},
 {30,"_law_anew",top 65,1,["pen"],390,q5,jD,false,none,0},
 {31,"_law_take",top 66,2,["pen","many","at","cell","found"],397,q5,mG,false,none,0},
 {64,"_law_sign_but",top 67,2,["pen","others","all_signs","some"],402,q5,eA,false,none,0},
 {65,"_law_any_sign",top 68,1,["pen"],409,q5,eB,false,none,0},
 {66,"_law_signed",top 69,2,["pen","text","at"],416,q5,fF,false,none,0},
 {67,"_law_is_whole",top 70,1,["thing"],423,q5,js,false,none,0},
 {32,"_law_tab",top 71,2,["pen","words","kind","word","other","found"],428,q5,iC,false,none,0},
 {33,"_law_deed",top 72,3,["pen","words","places","kind","price","at","other"],433,q5,gY,false,none,0},
 {34,"_law_machine",top 73,4,["pen","words","places","most","deeds","k","again","deed"],440,q5,fc,false,none,0},
 {35,"_law_row",top 74,3,["pen","machine","most","kind","many","found"],445,q5,gu,false,none,0},
 {68,"_law_is_in",top 75,3,["thing","low","high"],452,q5,lP,false,none,0},
 {69,"_law_numbers",top 76,4,["thing","many","low","high"],457,q5,gR,false,none,0},
 {70,"_law_is_deed",top 77,3,["thing","words","places"],462,q5,dj,false,none,0},
 {71,"_law_is_machine",top 78,1,["thing"],467,q5,fj,false,none,0},
 {72,"_law_bent",top 79,3,["pen","thing","deep","kind","pick","number","at","odd","some"],474,q5,mH,false,none,0},
 {160,"_law_some_machine",top 80,2,["pen","turn","size"],481,q5,ec,false,none,0},
 {161,"_law_all_four",top 81,1,["pen","tabs","at","deeds"],486,q5,eC,false,none,0},
 {235,"_law_told",top 82,5,["kind","machine","row","most","more","caught","e","some","word"],493,q5,cZ,false,none,0},
 {236,"_law_rows",top 83,2,["pen","machine","row","at","odd","long","bad","found"],500,q5,jB,false,none,0},
 {237,"law",top 84,1,["script","pen","great","turn","more","most","none","machine","odd","kind","row","due","good"],507,q5,my,false,none,0}]
def rs:Rs:={[Di,Dh,MU,yo,HI,Dd,yq,HH,HA,Hy,HC,Dc,Hz,HB,HJ,yf,ym,yh,De,Dg,yj,Dk,Dj,HG,Dl,MT],[Hv,vT],[xW,C5],[C7,C8,Hu,C6],[wo,C1,C4,xS,C3,Hl,Hm,Hn,Hk,xU,uP,Hj]}
def Lv:CV rs:={⟨AY,AX,HF,yn,E6,AU,yp,E5,E1,EY,E3,AS,EZ,E2,E7,yd,yk,yg,AV,AW,yi,A0,AZ,E4,A1,HE,trivial⟩,⟨EV,Le,trivial⟩,⟨xV,AI,trivial⟩,⟨AO,AQ,ET,AN,trivial⟩,⟨AE,AF,AH,xR,AG,EM,EN,EO,EL,xT,wm,EK,trivial⟩}
noncomputable def te0:List (Str×En):=List.map (λx=>(x,En.bl)) ["ValueError","all","any","bool","enumerate","int","isinstance","len","list","range","str","tuple"]
def te1:List (Str×En):=[("LEAST_WORDS",.int 2),("LONGEST_MENDED",.int 12),("LONGEST_ROW",.int 40),("MOST_BEHAVIOURS",.int 255),("MOST_COST",.int 3),("MOST_DEEDS",.int 6),("MOST_PLACES",.int 2),("MOST_WORDS",.int 4),("WIDEST_WINDOW",.int 6),("NEW_WORDS",.dct dN),("SORTS",.dct cF),("NoRow",.xi 0)]
noncomputable def te2:List (Str×En):=[("NoStep",.xk 2),("NoMachine",.xc 3),("TooLong",.xc 4),("NoWork",.xk 6),("NoBound",.xc 7),("TooMany",.xc 8),("DeedError",.de)]
def te:List (Str×En):=te0++te1++te2
def tbl:lQ:={(tb.filter (·.q.isNone)).map (λe=>(e.x,if e.i==166 then En.fnD e.i else En.fn e.i e.r))++te,[],["place"],[("NEW_WORDS",dN),("SORTS",cF)],[("NoRow",0)],[(147,12,14),(153,42,67),(161,29,31),(162,13,27),(240,12,29),(243,11,24),(284,12,30),(303,12,14)],[(118,4,40),(119,4,47),(121,4,33),(122,4,26),(124,4,32),(125,4,15),(144,18,27),(152,15,36),(153,16,31),(153,42,53),(155,19,29),(161,12,33),(165,4,16),(197,4,24),(198,4,14),(199,4,52),(200,4,56),(205,4,28),(212,4,19),(214,4,25),(215,4,30),(216,4,19),(218,4,19),(220,4,47),(263,29,38),(269,11,20),(269,44,73)],[],rs,tb}
def Pg:Nat->Option Df:=tbl.Pg
def Lw:∀c,tb.map (tbl.rd c)=tb.map λe=>some (e.b c):=λc=>by kernel_rfl
def tab:xI tbl:={Lv,Lw,by kernel_rfl,by kernel_rfl,λ_ _ _ _ _ _=>by kernel_rfl,λ_ _ _ _ _ _ _=>by kernel_rfl,λ_ _ _ _ _ _ _ _=>by kernel_rfl,λ_ _ _ _ _ _ _ _ _=>by kernel_rfl,λ_ _ _ _ _ _ _ _ _ _=>by kernel_rfl,λ_ _ _ _ _ _ _ _ _ _ _ _=>by kernel_rfl,λ_ _ _ _ _ _ _ _ _ _ _=>by kernel_rfl,by rw[show tbl.tb.filter (λe=>!(e.df==0))=[tb[26]] from by kernel_rfl];exact{{rfl,λ_ _ _ _ _ _ _ _=>{_,_,rfl,rfl,rfl,rfl}},trivial}}
def fa:Fa:=LD.tU (tb.map (λe=>(e.i,e.f))++[(666,1)]) [(0,44),(2,63),(3,75),(4,87),(6,99),(7,111),(8,123)] 24
def B7:∀ns:List Int,ns.length<=63->∃M,ag Pg 40 237 [.frz (ns.map D.int)] []=.ok (.bl true) M:=LY (by repeat' (first|rfl|constructor))
end K42
open PySem PySem.W PyProof.Rows K42
set_option maxRecDepth 100000 in
set_option maxHeartbeats 0 in
theorem PySem.Challenge.cw_leastdeeds_k42_mending_refused_holds : PySem.Challenge.rw_leastdeeds_k42_mending_refused.Holds := by
 w_on;o_law
 refine PySem.W.holds_open (r:=K42.xj) (q:=K42.kq) (loose:=K42.n6) (Xt:=fun s=>PySem.W.xlAt K42.kq [] s&&PySem.W.recOk (PySem.W.RowW.records K42.xj.toRowW) s) (XP:=PySem.W.XL K42.kq []) (Yf:=K42.kH.obs) (Ya:=K42.kH.val) (YP:=K42.kH.says) (N:=7876) K42.LZ K42.kH.of K42.kH.keeps (fun s e=>PySem.W.xl_of s (Q3.mp e).1) PySem.W.XL.keeps `r `r `r (fun s e=>PySem.W.recFacts_of (Q3.mp e).2) `r (by first|assumption|decide +kernel) `k ⟨rfl,rfl,rfl,rfl,rfl,`k⟩ ?hw ?hc
 case hw=>w_witness2
 refine L2.ES (l:=PySem.Challenge.rw_leastdeeds_k42_mending_refused) (n:=63) (k:=84) (x:="script") (CX:=fun w=>LD.fx PySem.Challenge.rw_leastdeeds_k42_mending_refused.prog w) (K:=K42.kh) (sp:=fun w=>LD.Dt (K42.kh w.params)) rfl `d rfl ⟨rfl,`d,`d,rfl⟩ (fun w h Y=>PySem.W.kIn_of Y) ?F (fun w H a ns hl hO hS=>⟨a,ns,rfl,hS,hO,hl,fun _=>rfl⟩) (fun _ _ _ _ _ z=>let⟨_,_,_,_,_,_,_,_,_,_,q⟩:=z;q)
 case F=>
  intro w mg fa h KX G hmg;have tk:LD.AD (K42.kh w.params) K42.tb:=⟨by kernel_rfl,by kernel_rfl,by kernel_rfl,by kernel_rfl⟩
  obtain⟨m,fd,F⟩:=LD.Fe tk KX G (e:=K42.tb[52]) (Qp _) rfl rfl;have d_NEW_WORDS:=LD.vt (x:="NEW_WORDS") (P:=w.params) (fa:=K42.fa) (fs:=LD.dN) (ad:=278) (es:=#[{hash:=PySem.PyData.keyHash w.params (PySem.Str.ofString "turn"),key:=PySem.Value.str (PySem.Str.ofString "turn") 576,val:=PySem.Value.ref 256},{hash:=PySem.PyData.keyHash w.params (PySem.Str.ofString "join"),key:=PySem.Value.str (PySem.Str.ofString "join") 577,val:=PySem.Value.ref 263},{hash:=PySem.PyData.keyHash w.params (PySem.Str.ofString "move"),key:=PySem.Value.str (PySem.Str.ofString "move") 578,val:=PySem.Value.ref 270},{hash:=PySem.PyData.keyHash w.params (PySem.Str.ofString "put"),key:=PySem.Value.str (PySem.Str.ofString "put") 579,val:=PySem.Value.ref 277}]) (n:=4) KX G (by kernel_rfl) (by kernel_rfl) (by exact LD.fR (LD.fR (LD.fR (LD.fR (LD.zM))))) `k `d (by exact .cons ⟨rfl,rfl⟩ (.cons ⟨rfl,rfl⟩ (.cons ⟨rfl,rfl⟩ (.cons ⟨rfl,rfl⟩ (.nil)))))
  have d_SORTS:=LD.vt (x:="SORTS") (P:=w.params) (fa:=K42.fa) (fs:=LD.cF) (ad:=199) (es:=#[{hash:=PySem.PyData.keyHash w.params (PySem.Str.ofString "turn"),key:=PySem.Value.str (PySem.Str.ofString "turn") 454,val:=PySem.Value.ref 177},{hash:=PySem.PyData.keyHash w.params (PySem.Str.ofString "join"),key:=PySem.Value.str (PySem.Str.ofString "join") 455,val:=PySem.Value.ref 184},{hash:=PySem.PyData.keyHash w.params (PySem.Str.ofString "move"),key:=PySem.Value.str (PySem.Str.ofString "move") 456,val:=PySem.Value.ref 191},{hash:=PySem.PyData.keyHash w.params (PySem.Str.ofString "put"),key:=PySem.Value.str (PySem.Str.ofString "put") 457,val:=PySem.Value.ref 198}]) (n:=4) KX G (by kernel_rfl) (by kernel_rfl) (by exact LD.fR (LD.fR (LD.fR (LD.fR (LD.zM))))) `k `d (by exact .cons ⟨rfl,rfl⟩ (.cons ⟨rfl,rfl⟩ (.cons ⟨rfl,rfl⟩ (.cons ⟨rfl,rfl⟩ (.nil)))))
  have i_NoRow:=fun base=>LD.Cj (fa:=K42.fa) (w:=w) (c:=0) (x:="NoRow") (qual:="NoRow.__init__") (y:="place") (z:="no deed's number at place ") (pm:="leastdeeds.errors") (t:=187) (st:=LD.inC (K42.top 2)) (C:=44) (D:=24) (fI:=41) (cd:=40) KX G (by kernel_rfl) (by kernel_rfl) rfl (by kernel_rfl) (by kernel_rfl) (by kernel_rfl) (by kernel_rfl) ⟨rfl,rfl,rfl,`k,rfl,`k,`k⟩ rfl (fun _ _=>⟨_,rfl⟩) `k rfl rfl rfl rfl (fun _ _=>rfl) (fun _ _ _ _ _ _ _ _=>rfl) PySem.Challenge.rw_leastdeeds_k42_mending_refused.prog base
  have TO:=fun base=>LD.Fd (base:=base) (P:=PySem.Challenge.rw_leastdeeds_k42_mending_refused.prog) (w:=w) (t:=K42.tbl) (fa:=K42.fa) KX G (by kernel_rfl) (LD.Hq (by kernel_rfl)) (LD.Jm (by kernel_rfl)) (LD.Cp (by kernel_rfl)) ⟨rfl,rfl⟩ ⟨d_NEW_WORDS,d_SORTS,trivial⟩ ⟨i_NoRow base,trivial⟩
  have tw:LD.AllP (fun q=>LD.ED K42.fa (K42.kh w.params) mg q.1 q.2.1 q.2.2.1 q.2.2.2) K42.tbl.tw:=trivial
  have xf:LD.AllP (fun f=>LD.wc K42.fa (K42.kh w.params) f) K42.tbl.xf:=⟨LD.Ho (by kernel_rfl),trivial⟩
  have ms:∀q∈K42.tbl.ms,LD.oV K42.fa (K42.kh w.params) q.1 q.2.1 q.2.2:=LD.JD (by kernel_rfl)
  have e:=hmg.symm.trans m;cases e;exact⟨fd,fun s v=>by
   obtain⟨oc,od,kV,doc,pm,an,cdv,ct,osl,rfl,lk,hcd⟩:=F.ex;exact .of_eq rfl,fun base _ _=>LD.JK (n:=39) (f:=237) (LD.Bd K42.tab tk KX G (TO base) tw.mem xf.mem ms (by kernel_rfl)) K42.B7 rfl F (LD.oz (e:=K42.tb[52]) (Pm.mp K42.tab.sc K42.tb[52] (Qp _))).1 rfl fun c n a b d s H E C hr=>LD.sf (e:=K42.tb[52]) K42.tab (TO base) tw.mem xf.mem ms (Qp _) c n a b d s H E C hr⟩
