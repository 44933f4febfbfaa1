import PyProof.Rows.All
import Wide.All
import OpenK.AllK
import Wide.FinOn
import Lean
import PyProof.EqAt
import PyProof.EqKinds
import PyProof.TupleCall
import PyProof.StrOps
import PyProof.MeetsStr
import PyProof.StrLawsJoin
import PySem.Challenge.RW_leastdeeds_k14_steps_refused
set_option Elab.async false
set_option linter.all false
set_option maxRecDepth 100000
set_option tactic.hygienic false
set_option autoImplicit true
set_option relaxedAutoImplicit true
set_option genSizeOfSpec false
set_option genSizeOf false
set_option maxHeartbeats 0
set_option bootstrap.genMatcherCode false
set_option genSizeOf false
noncomputable section
local macro_rules(kind:=«term{_}»)|`({$a:term,*})=>`(⟨$a,*⟩)
local macro_rules(kind:=Lean.Parser.Term.quotedName)|x=>match x[0].isNameLit?.getD .anonymous|>.toString with|"a"=>`(by omega)|"d"=>`(by decide)|"s"=>`(by simp)|"o"=>`(by simp;omega)|"k"=>`(by decide +kernel)|"r"=>`(by rfl)|_=>Lean.Macro.throwUnsupported
local macro_rules|`(tactic|omega)=>`(tactic|first|(simp +arith;done)|lia|omega(config:={}))
abbrev tqa:=@PySem.wpAny_bind
abbrev tqb:=@PySem.wpAny_pure
abbrev tqf:=@PySem.wpAny_field
abbrev tqo:=@PySem.wpAny_holding
abbrev tqp:=@PySem.wpAny_truthy_bool
abbrev Qf:=@PySem.W.Frag
abbrev Qg:=@List.getElem?_eq_some_iff
abbrev Qh:=@Bool.and_eq_true
abbrev Qi:=@PySem.Heap.get?_push_of_some
abbrev Qj:=@PySem.Value
abbrev Qk:=@List.length_map
abbrev Qm:=@List.mem_cons_of_mem
abbrev Qn:=@PySem.Shared
abbrev Qo:=@Nat.le_refl
abbrev Qp:=@Option.some.inj
abbrev Qq:=@List.all_eq_true
abbrev Qr:=@Option.map_eq_some_iff
abbrev Qs:=@Nat.le_trans
abbrev Qu:=@List.mem_cons
abbrev Qv:=@List.mem_cons_self
abbrev Qw:=@List.size_toArray
abbrev Qx:=@Nat.le_of_ble_eq_true
abbrev Qy:=@PySem.Heap.lt_size
abbrev Qz:=@List.mem_singleton
abbrev QA:=@List.getElem?_eq_getElem
abbrev QD:=@PySem.Heap.get?_push_size
abbrev QF:=@Bool.false_ne_true
abbrev QG:=@List.mem_of_getElem?
abbrev QH:=@List.getElem?_set_ne
abbrev QI:=@Nat.lt_of_lt_of_le
abbrev QJ:=@List.length_append
abbrev QK:=@List.getElem?_map
abbrev QL:=@List.not_mem_nil
abbrev QM:=@List.mem_append
abbrev QR:=@List.getElem?_append_left
abbrev QS:=@List.mem_map
abbrev QW:=@List.getElem?_set_self
abbrev QX:=@PySem.World
abbrev QY:=@Array.getElem?_eq_some_iff
abbrev QZ:=@List.lookup_cons
abbrev Q0:=@PySem.Program
abbrev Q1:=@PyProof.Rows.slot_tuple_getitem
abbrev Q2:=@List.mem_append_right
abbrev Q3:=@Nat.ne_of_lt
abbrev Q4:=@List.getElem_mem
abbrev Q5:=@List.getElem?_cons_zero
abbrev Q6:=@List.getElem?_cons_succ
abbrev Q7:=@List.all_cons
abbrev Q8:=@beq_eq_false_iff_ne
abbrev Q9:=@List.mem_of_mem_take
abbrev Ra:=@PySem.OsState
abbrev Rb:=@Option.bind_eq_some_iff
abbrev Rf:=@PySem.W.kia_one
abbrev Rg:=@PySem.W.SharedT
abbrev Rh:=@PySem.Heap.get?_update_other
abbrev Ri:=@Option.getD_some
abbrev Rj:=@List.length_take
abbrev Rk:=@List.getD_eq_getElem?_getD
abbrev Rl:=@Iff.rfl
abbrev Rn:=@Option.isNone_iff_eq_none
abbrev Ro:=@PyProof.Rows.callWith_type1
abbrev Rp:=@Option.some.injEq
abbrev Rq:=@List.getElem?_append_right
abbrev Rr:=@PySem.W.mg_of
abbrev Rt:=@Nat.lt_irrefl
abbrev Ru:=@Ne.symm
abbrev Rv:=@Nat.ne_of_gt
abbrev Rw:=@List.take_of_length_le
abbrev Rx:=@List.length_range
abbrev Ry:=@Bool.or_eq_true
abbrev Rz:=@PySem.Around
abbrev RA:=@List.mem_append_left
abbrev RB:=@PySem.Obj.data_mapFields
abbrev RC:=@List.take_succ
abbrev RD:=@List.exists_of_findSome?_eq_some
abbrev RE:=@PySem.Env
abbrev RF:=@List.map_append
abbrev RG:=@List.getElem?_eq_none
abbrev RH:=@PySem.Heap.get?_update_self
abbrev RI:=@Bool.not_eq_true'
abbrev RJ:=@PySem.Params
abbrev RK:=@List.replicate_succ
abbrev RL:=@Int.toNat_of_nonneg
abbrev RM:=@List.getElem?_concat_length
abbrev RN:=@Nat.zero_le
abbrev RO:=@PySem.W.InstAt
abbrev RP:=@Int.emod_lt_of_pos
abbrev RQ:=@Int.emod_nonneg
abbrev RR:=@Bool.eq_iff_iff
abbrev RS:=@Nat.zero_add
abbrev RT:=@List.mem_of_mem_drop
abbrev RU:=@PySem.DictEntry
abbrev RV:=@List.filterMap_cons
abbrev RW:=@Array.length_toList
abbrev RX:=@PySem.Heap.get?_none_of_le
abbrev RY:=@Option.bind_some
abbrev RZ:=@List.getElem?_replicate
abbrev R0:=@PySem.Heap.size_push
abbrev R1:=@List.nil_append
abbrev R3:=@List.mem_filter
abbrev R4:=@List.flatten_cons
abbrev R5:=@PySem.Paired
abbrev R6:=@Bool.and_eq_true_iff
abbrev R7:=@PySem.Obj.isFreed_of_fields
abbrev R8:=@List.length_drop
abbrev R9:=@PySem.mem_of_lookup
abbrev Sa:=@List.getElem?_range
abbrev Sb:=@List.map_cons
abbrev Sd:=@Nat.min_eq_left
abbrev Se:=@Int.natCast_add
abbrev Sf:=@Nat.lt_of_le_of_lt
abbrev Sg:=@Nat.le_succ
abbrev Sh:=@Nat.add_sub_cancel_left
abbrev Si:=@List.length_eq_zero_iff
abbrev Sj:=@PySem.W.Looks
namespace HD
open PySem PySem.W
noncomputable def iM (tb:String->Option Builtin)(p:Q0)(w:QX)(n0:Nat)(ann:Option Qj):Nat->Rg->Thread->Option Rg
 |0,_,_=>none
 | n+1,s,t=>match through t with
   |true=>some s
   | false=>match stepOk n0 ann t with
     |false=>none
     | true=>match stepT (denote tb) p w s t with
       |some (s',t')=>iM tb p w n0 ann n s' t'
       |none=>none
theorem rS {tb:String->Option Builtin}{p:Q0}{w:QX}{n0:Nat}{ann:Option Qj}:∀{n:Nat}{s s':Rg}{t:Thread},iM tb p w n0 ann n s t=some s'->topRun tb p w n0 ann n s.abs t=some s'.abs
 |0,_,_,_,h=>by cases h
 | n+1,s,s',t,h=>by
   unfold iM at h;unfold topRun;cases he:through t with
   |true=>rw[he] at h;cases h;rfl
   | false=>
     rw[he] at h;cases hk:stepOk n0 ann t with
     |false=>rw[hk] at h;cases h
     | true=>
       rw[hk] at h;cases hs:stepT (denote tb) p w s t with
       |none=>rw[hs] at h;cases h
       |some r=>obtain⟨s2,t2⟩:=r;rw[hs] at h;rw[stepT_spec hs];exact rS h
noncomputable def treeOf:List Obj->Nat->BT->BT
 |[],_,t=>t
 |o::r,n,t=>treeOf r (n+1) (t.ins n o)
def yX (P:RJ)(os:Ra):Rg:={treeOf (boot_heap P).objs.toList 0 .nil,(boot_heap P).objs.toList.length,(boot_heap P).life,#[],boot_drawn,boot_toks,os}
def boot_abs (P:RJ)(os:Ra):(yX P os).abs={boot_heap P,#[],boot_drawn,boot_toks,os}:=by kernel_rfl
noncomputable def lV (p q:Q0)(loose:List Str)(Xt:Qn->Bool)(g0:Bool)(h0:Heap){α:Type}(Yf:Qn->α)(s:Qn):=
 ((staticsOk (importedModules p.main.body) h0 s.heap&&namesBound p s.heap&&gensDone s&&laidKept h0 s.heap),openSeen q loose (importedModules p.main.body) Xt g0 s,Yf s)
noncomputable def xo (tb:String->Option Builtin)(p:Q0)(w:QX)(n0:Nat)(ann:Option Qj):Nat->Rg->Thread->Option (Rg×Thread)
 |0,s,t=>some (s,t)
 | n+1,s,t=>match through t with
   |true=>none
   | false=>match stepOk n0 ann t with
     |false=>none
     | true=>match stepT (denote tb) p w s t with
       |some (s',t')=>xo tb p w n0 ann n s' t'
       |none=>none
noncomputable def lO (tb:String->Option Builtin)(p:Q0)(w:QX)(n0:Nat)(ann:Option Qj):Nat->Rg->Thread->Option (Flow×Rg×Code×Pos)
 |0,_,_=>none
 | n+1,s,t=>match endAt 1 t with
   |some f=>some (f,s,t.code,t.pos)
   | none=>match stepOk n0 ann t with
     |false=>none
     | true=>match stepT (denote tb) p w s t with
       |some (s',t')=>lO tb p w n0 ann n s' t'
       |none=>none
section
variable{tb:String->Option Builtin}{p:Q0}{w:QX}{n0:Nat}{ann:Option Qj}
theorem Bf:∀{n:Nat}{s s':Rg}{t t':Thread},xo tb p w n0 ann n s t=some (s',t')->topGo tb p w n0 ann n s.abs t=some (s'.abs,t')
 |0,s,s',t,t',h=>by cases h;rfl
 | n+1,s,s',t,t',h=>by
   unfold xo at h;unfold topGo;cases he:through t with
   |true=>rw[he] at h;cases h
   | false=>
     rw[he] at h;cases hk:stepOk n0 ann t with
     |false=>rw[hk] at h;cases h
     | true=>
       rw[hk] at h;cases hs:stepT (denote tb) p w s t with
       |none=>rw[hs] at h;cases h
       |some q=>obtain⟨s2,t2⟩:=q;rw[hs] at h;rw[stepT_spec hs];exact Bf h
theorem qL:∀{n:Nat}{s s':Rg}{t:Thread}{f:Flow}{c:Code}{q:Pos},lO tb p w n0 ann n s t=some (f,s',c,q)->segRun tb p w n0 ann 1 n s.abs t=some (f,s'.abs,c,q)
 |0,_,_,_,_,_,_,h=>by cases h
 | n+1,s,s',t,f,c,q,h=>by
   unfold lO at h;unfold segRun;cases he:endAt 1 t with
   |some g=>rw[he] at h;cases h;rfl
   | none=>
     rw[he] at h;cases hk:stepOk n0 ann t with
     |false=>rw[hk] at h;cases h
     | true=>
       rw[hk] at h;cases hs:stepT (denote tb) p w s t with
       |none=>rw[hs] at h;cases h
       |some x=>obtain⟨s2,t2⟩:=x;rw[hs] at h;rw[stepT_spec hs];exact qL h
def vE {n3 N:Nat}{s s2:Rg}{env:Env}{c:Code}{p' p2 q:Pos}{b:List Stmt}{J:Nat}{α:Type}{f:Qn->α}{a:α}
 (h3:lO tb p w n0 ann n3 s (piecesOf (b.take J) env c p' [topFrame q])=some (.next,s2,c,p2))
 (h4:(topRun tb p w n0 ann N s2.abs (restOf (b.drop J) env c p2 [topFrame q])).map f=some a):(topRun tb p w n0 ann (n3+N) s.abs (restOf b env c p' [topFrame q])).map f=some a:=by
 obtain⟨r,e3,e4⟩:=Qr.mp h4;have k4:=piece_app (qL h3) e3;rw[List.take_append_drop] at k4;rw[k4];exact congrArg some e4
def Bv {N:Nat}{s2:Rg}{t:Thread}{p' q:Q0}{loose:List Str}{Xt:Qn->Bool}{g0:Bool}{h0:Heap}{α:Type}{Yf:Qn->α}{a b c}
 (h1:(iM tb p w n0 ann N s2 t).map (λs=>(lV p' q loose Xt g0 h0 Yf s.abs).1)=some a) (h2:(iM tb p w n0 ann N s2 t).map (λs=>(lV p' q loose Xt g0 h0 Yf s.abs).2.1)=some b)
 (h3:(iM tb p w n0 ann N s2 t).map (λs=>(lV p' q loose Xt g0 h0 Yf s.abs).2.2)=some c):(topRun tb p w n0 ann N s2.abs t).map (lV p' q loose Xt g0 h0 Yf)=some (a,b,c):=by
 obtain⟨r,e3,rfl⟩:=Qr.mp h1;rw[e3] at h2 h3;cases h2;cases h3;rw[rS e3];rfl
def Bw {n1 n2 N:Nat}{s s':Rg}{env:Env}{c:Code}{pos p' q:Pos}{t:Thread}{b:List Stmt}{J:Nat}{α:Type}{f:Qn->α}{a:α}
 (h1:(xo tb p w n0 ann n1 s t).map (·.2)=some {denote tb (.body b env),c,pos,[topFrame q]}) (h0:endAt 1 (blockOf b env c pos [topFrame q])=some .next)
 (h2:((xo tb p w n0 ann n1 s t).bind λx=>lO tb p w n0 ann n2 x.1 (piecesOf (b.take J) env c pos [topFrame q]))=some (.next,s',c,p'))
 (h3:(topRun tb p w n0 ann N s'.abs (restOf (b.drop J) env c p' [topFrame q])).map f=some a):(topRun tb p w n0 ann (n1+(1+(n2+N))) s.abs t).map f=some a:=by
 obtain⟨⟨s1,t1⟩,e1,e2⟩:=Qr.mp h1;have e2:t1={denote tb (.body b env),c,pos,[topFrame q]}:=e2;subst e2;rw[e1] at h2;have h2:lO tb p w n0 ann n2 s1 (piecesOf (b.take J) env c pos [topFrame q])=some (.next,s',c,p'):=h2
 obtain⟨r,e3,e4⟩:=Qr.mp h3;have k3:=piece_app (qL h2) e3;rw[List.take_append_drop] at k3;have hb:segRun tb p w n0 ann 1 1 s1.abs (blockOf b env c pos [topFrame q])=some (.next,s1.abs,c,pos):=by
  show(match endAt 1 (blockOf b env c pos [topFrame q]) with|some f=>some (f,s1.abs,c,pos)|none=>_)=_
  rw[h0]
 have k2:=piece_block hb k3;rw[go_top (Bf e1) k2];exact congrArg some e4
end
def wb {p q:Q0}{loose:List Str}{Xt:Qn->Bool}{α:Type}{Yf:Qn->α}{Ya:QX->α}{N:Nat}{g0:Bool}{m0:Nat}{ann:Option Qj}
 (open_:∀w:QX,(fencedOpening treeTable p w N).map (λs=>(s.heap,s.gens,s.drawn,s.toks))=some (boot_heap w.params,Array.mk [],boot_drawn,boot_toks))
 (size:∀w:QX,((boot_heap w.params).isNs mainGlobals&&(Array.mk ([]:List GenState)).size==0,(boot_heap w.params).objs.size,(boot_heap w.params).nsMap mainGlobals "__annotations__")=(true,m0,ann))
 (run:∀(w:QX) (os:Ra),(topRun treeTable p w m0 ann N (yX w.params os).abs (topStub p)).map (lV p q loose Xt g0 (boot_heap w.params) Yf)=some (true,openGood q loose,Ya w)):LeftO p q loose Xt Yf Ya N g0:=λw=>by
 obtain⟨⟨h,gs,d,k,os⟩,e,e'⟩:=Qr.mp (open_ w);obtain⟨rfl,rfl,rfl,rfl⟩:h=boot_heap w.params/\gs=Array.mk []/\d=boot_drawn/\k=boot_toks:=by simpa using e'
 obtain⟨z1,z2,z3⟩:_/\_/\_:=by simpa only[Prod.mk.injEq] using size w
 obtain⟨s1,r,l⟩:=Qr.mp (run w os);obtain⟨l1,l2,l3⟩:_/\_/\_:=by simpa only[lV,Prod.mk.injEq] using l
 rw[boot_abs] at r;have t:topFrom treeTable p w N {boot_heap w.params,Array.mk [],boot_drawn,boot_toks,os}=some s1:=by
  unfold topFrom;dsimp only;rw[z1,z2,z3,r];show(match staticsOk (importedModules p.main.body) (boot_heap w.params) s1.heap&&namesBound p s1.heap&&gensDone s1&&laidKept (boot_heap w.params) s1.heap with|true=>_|false=>_)=_
  rw[l1]
 unfold openEnds;rw[e];show(topFrom treeTable p w N _).map _=_;rw[t];exact congrArg some (Prod.ext l2 l3)
end HD
namespace K14
open PySem
abbrev eN (P:RJ)(x:Str)(n:Nat)(v:Qj):RU:={PyData.keyHash P x,.str x n,v}
noncomputable def ra (j:Nat)(s:Stmt):Stmt:=match s with
 |.ClassDef _ _ _ b _ _ _ _ _ _ _=>b.getD j s
 |_=>s
noncomputable def iY (i:Nat):Stmt:=PySem.Challenge.pw_leastdeeds_k14_steps_refused.main.body.getD i (.Pass {0,0,0,0})
noncomputable def tO (s:Stmt):Arguments:=match s with
 |.FunctionDef _ a _ _ _ _ _ _ _ _=>a
 |_=>{[],[],none,[],[],none,[]}
noncomputable def tN (s:Stmt):List Stmt:=match s with
 |.FunctionDef _ _ b _ _ _ _ _ _ _=>b
 |_=>[]
noncomputable def qg (s:Stmt):Scope:=match s with
 |.FunctionDef _ _ _ _ _ _ sc _ _ _=>sc
 |_=>{kind:=.function,names:=[],isGenerator:=false,isCoroutine:=false}
noncomputable def o1:Obj:={cls:=.type "tuple" ,data:=.seq #[]}
noncomputable def o2 (a:String)(b:Nat)(c:Int)(d:Nat)(e:Int):Obj:={cls:=.type "code" ,data:=.fields #[.str (Str.ofString a) b,.str (Str.ofString a) (b+1),.str ("/claim/cut.py") (b+2),.int c 0,.int 0 0,.int 0 0,.int 0 0,.int 0 0,.ref d,.bool false,.int 181 0,.ref (d+1),.none,.none,.none,.none,.int e 0,.int c 0,.str ("/claim/cut.py") (b+4)]}
noncomputable def o3 (a:Nat)(b:Nat)(c:String)(d:Nat):Obj:={cls:=.type "frame" ,slots:=#[some (.ref a),some (.ref 3),some (.ref b),none,some (.str (Str.ofString c) d),none,some (.ref 0)]}
def o4:Obj:={cls:=.type "builtin_function_or_method" ,data:=.fields #[.builtin "type.__prepare__" ,.type "type"]}
def o5 (P:RJ)(a:Nat)(b:String)(c:Int)(d:Nat):Obj:={cls:=.type "dict" ,data:=.dict #[eN P "__module__" a (.str ("leastdeeds.errors") 187),eN P "__qualname__" (a+2) (.str (Str.ofString b) (a+1)),eN P "__firstlineno__" (a+4) (.int c (a+3)),eN P "__static_attributes__" (a+5) (.ref d)] 4}
def o6:Obj:={cls:=.none,data:=.fields #[]}
def o7 (P:RJ)(a:Nat)(b:Int)(c:String)(d:Nat)(e:Nat)(f:String)(g:Nat)(h:Nat):Obj:={cls:=.type "dict" ,data:=.dict #[eN P "__module__" a (.str ("leastdeeds.errors") 187),eN P "__firstlineno__" (a+4) (.int b (a+3)),{hash:=PyData.keyHash P (Str.ofString c),key:=.str (Str.ofString c) d,val:=.ref e},{hash:=PyData.keyHash P (Str.ofString f),key:=.str (Str.ofString f) (d+2),val:=.ref g},eN P "__doc__" (d+3) (.none)] h}
def o8 (a:Nat):Obj:={cls:=.type "super" ,data:=.fields #[.ref a,.ref a,.ref a]}
def o9 (a:Nat):Obj:={cls:=.type "builtin_function_or_method" ,data:=.fields #[.builtin "object.__init_subclass__" ,.ref a]}
def kA:Obj:={cls:=.type "tuple" ,data:=.seq #[.ref 24]}
def Kr (P:RJ)(a:Nat)(b:String)(c:Int)(d:Nat):Obj:={cls:=.type "dict" ,data:=.dict #[eN P "__module__" a (.str ("leastdeeds.errors") 187),eN P "__qualname__" (a+2) (.str (Str.ofString b) (a+1)),eN P "__firstlineno__" (a+4) (.int c (a+3)),eN P "__init__" (a+12) (.ref d),eN P "__static_attributes__" (a+14) (.ref (d+1))] 5}
def Kq (a:Int)(b:Nat):Obj:={cls:=.none,data:=.fields #[.int a 0,.int 4 0,.ref b]}
def Kp (a:Nat)(b:String):Obj:={cls:=.type "tuple" ,data:=.seq #[.str ("self") a,.str (Str.ofString b) (a+1)]}
def Ko (a:String)(b:Nat):Obj:={cls:=.none,data:=.func {name:="__init__" ,qualname:=Str.ofString a,params:=tO (ra 0 (iY b)),body:=PySem.FuncBody.stmts (tN (ra 0 (iY b))),scope:=qg (ra 0 (iY b)),globals:=0,closure:=[],defaults:=.none,kwdefaults:=.none,pyModule:=.none,code:=.none}}
def wX (a:String)(b:Nat)(c:String)(d:Int)(e:Int)(f:Nat)(g:Int)(h:Nat):Obj:={cls:=.type "code" ,data:=.fields #[.str (Str.ofString a) b,.str (Str.ofString c) (b+1),.str ("/claim/cut.py") (b+2),.int d 0,.int e 0,.int 0 0,.int 0 0,.int 3 0,.ref f,.bool true,.int 181 0,.ref (f+1),.none,.ref (f+2),.ref (f+3),.ref (f+4),.int g 0,.int d 0,.str ("/claim/cut.py") h]}
def Kn (a:String)(b:Nat)(c:Nat):Obj:={cls:=.type "function" ,data:=.func {name:="__init__" ,qualname:=Str.ofString a,params:=tO (ra 0 (iY b)),body:=PySem.FuncBody.stmts (tN (ra 0 (iY b))),scope:=qg (ra 0 (iY b)),globals:=3,closure:=[],defaults:=.none,kwdefaults:=.none,pyModule:=.str ("leastdeeds.errors") 187,code:=.ref c}}
def Km (a:String)(b:Nat):Obj:={cls:=.type "tuple" ,data:=.seq #[.str (Str.ofString a) b]}
def kz (a:String)(b:Nat)(c:Nat)(d:Nat)(e:Nat):Obj:={cls:=.type "type" ,data:=.cls {name:=Str.ofString a,bases:=[.ref 24],mro:=[.ref b,.ref 24,.type "ValueError" ,.type "Exception" ,.type "BaseException" ,.type "object"],ns:=c,qualname:=Str.ofString a},slots:=#[some (.ref d),none,some (.str (Str.ofString a) e),some (.str (Str.ofString a) (e+8)),some (.builtin "ValueError.__new__"),some (.bool true)]}
def mL (P:RJ)(a:Nat)(b:Int)(c:Nat):Obj:={cls:=.type "dict" ,data:=.dict #[eN P "__module__" a (.str ("leastdeeds.errors") 187),eN P "__firstlineno__" (a+4) (.int b (a+3)),eN P "__static_attributes__" (a+5) (.ref c),eN P "__doc__" (a+6) (.none)] 2}
def Ob (P:RJ)(a:Nat)(b:Nat):Obj:={cls:=.type "dict" ,data:=.dict #[eN P "turn" a (.ref b),eN P "join" (a+1) (.ref (b+7)),eN P "move" (a+2) (.ref (b+14)),eN P "put" (a+3) (.ref (b+21))] 4}
def o21:Obj:={cls:=.type "type" ,data:=.cls {name:="DeedError" ,bases:=[.type "ValueError"],mro:=[.ref 24,.type "ValueError" ,.type "Exception" ,.type "BaseException" ,.type "object"],ns:=23,qualname:="DeedError" ,subclasses:=[.ref 44,.ref 63,.ref 82,.ref 94,.ref 106,.ref 118,.ref 130,.ref 142,.ref 154,.ref 166,.ref 178,.ref 190,.ref 202,.ref 214]},slots:=#[some (.ref 15),none,some (.str ("DeedError") 189),some (.str ("DeedError") 197),some (.builtin "ValueError.__new__"),some (.bool true)]}
def Kl (a:String)(b:Nat)(c:Int)(d:Int)(e:Nat)(f:Int):Obj:={cls:=.type "code" ,data:=.fields #[.str (Str.ofString a) b,.str (Str.ofString a) (b+1),.str ("/claim/cut.py") (b+2),.int c 0,.int d 0,.int 0 0,.int 0 0,.int 3 0,.ref e,.bool true,.int 181 0,.ref (e+1),.none,.none,.none,.ref (e+2),.int f 0,.int c 0,.str ("/claim/cut.py") (b+4)]}
def wW (a:String)(b:Nat)(c:Nat):Obj:={cls:=.type "function" ,data:=.func {name:=Str.ofString a,qualname:=Str.ofString a,params:=tO (iY b),body:=PySem.FuncBody.stmts (tN (iY b)),scope:=qg (iY b),globals:=3,closure:=[],defaults:=.none,kwdefaults:=.none,pyModule:=.str ("law_leastdeeds_k14_steps_refused") 809,code:=.ref c}}
def lh (i:Nat):Str×Nat×Nat×List Str×Bool:=match iY i with
 |.FunctionDef x a _ _ _ _ sc _ _ p=>(x,p.line,a.args.length,sc.names.filterMap (λq=>match q.2 with|.local=>some q.1|_=>none),sc.names.any (λq=>match q.2 with|.cell=>true|_=>false)||i==69)
 |_=>("",0,0,[],false)
def kN (i:Nat):Nat:=bif (lh i).2.2.2.2 then 0 else(lh i).2.2.2.1.length
def A7 (i:Nat):Nat:=bif (lh i).2.2.2.2 then 5 else 7
noncomputable def qh:Nat->Nat->Nat->Nat->List (Nat×Nat×Nat)
 |0,_,_,_=>[]
 |n+1,i,e,t=>(i,e,t)::qh n (i+1) (e+A7 i) (t+kN i+6)
def sr:Nat×Nat×Nat->List Qj:=λ(i,e,_)=>[.int (lh i).2.1 0,.int 0 0,.ref (e+A7 i-2)]
def su (P:RJ):Nat×Nat×Nat->RU:=λ(i,e,t)=>{PyData.keyHash P (lh i).1,.str (lh i).1 (t+kN i+5),.ref (e+A7 i-1)}
def Fv (c:Qj)(i g:Nat)(m d:Qj):Obj:={cls:=c,data:=.func {name:=(lh i).1,qualname:=(lh i).1,params:=tO (iY i),body:=.stmts (tN (iY i)),scope:=qg (iY i),globals:=g,closure:=[],defaults:=.none,kwdefaults:=.none,pyModule:=m,code:=d}}
def kO (m:Str)(k:Nat):Nat×Nat×Nat->List Obj:=λ(i,e,t)=>
 let x:=(lh i).1
 let l:Qj:=.int (lh i).2.1 0
 let q:=t+kN i
 let c:=λ(a:Qj) (b:Qj) (d:Nat)=>({cls:=.type "code",data:=.fields #[.str x t,.str x (t+1),.str "/claim/cut.py" (t+2),l,.int (lh i).2.2.1 0,.int 0 0,.int 0 0,.int 3 0,.ref e,.bool true,.int 181 0,.ref (e+1),.none,a,b,.ref (e+d),.int (q+3:Nat) 0,l,.str "/claim/cut.py" (q+4)]}:Obj)
 [o1,{cls:=.none,data:=.fields #[]}]++bif (lh i).2.2.2.2 then [Fv .none i 0 .none .none,c .none .none 2,Fv (.type "function") i 3 (.str m k) (.ref (e+3))] else [{cls:=.type "tuple",data:=.seq (((lh i).2.2.2.1.zipIdx (t+3)).map λp=>.str p.1 p.2).toArray},o1,Fv .none i 0 .none .none,c (.ref (e+2)) (.ref (e+3)) 4,Fv (.type "function") i 3 (.str m k) (.ref (e+5))]
def sv:Nat×Nat×Nat->List Addr:=λ(i,e,_)=>[e+A7 i-2,e+A7 i-1]
def Fb:=qh 1 17 217 460
def E9:=qh 10 25 224 483
def E8:=qh 3 36 291 584
def E7:=qh 4 39 310 608
def E6:=qh 4 44 336 642
def E5:=qh 4 49 365 700
def E4:=qh 6 54 391 737
def E3:=qh 25 61 433 811
def Oe:List Qj:=[.int 2 0,.int 0 0,.ref 20,.int 4 0,.int 0 0,.ref 33,.int 9 0,.int 0 0,.ref 52,.int 14 0,.int 0 0,.ref 71,.int 19 0,.int 0 0,.ref 90,.int 21 0,.int 0 0,.ref 102,.int 23 0,.int 0 0,.ref 114,.int 25 0,.int 0 0,.ref 126,.int 27 0,.int 0 0,.ref 138,.int 29 0,.int 0 0,.ref 150,.int 31 0,.int 0 0,.ref 162,.int 33 0,.int 0 0,.ref 174,.int 35 0,.int 0 0,.ref 186,.int 37 0,.int 0 0,.ref 198,.int 39 0,.int 0 0,.ref 210]++Fb.flatMap sr++E9.flatMap sr++E8.flatMap sr
def kt1:List Qj:=Oe++E7.flatMap sr++E6.flatMap sr++E5.flatMap sr++E4.flatMap sr++E3.flatMap sr
def Oh (P:RJ):List RU:=[eN P "__doc__" 166 (.none),eN P "__package__" 167 (.none),eN P "__loader__" 168 (.builtin "__main__.__loader__#opaque"),eN P "__spec__" 169 (.none),eN P "__annotations__" 170 (.ref 6),eN P "__builtins__" 171 (.ref 4),eN P "__file__" 173 (.str "/claim/cut.py" 172),eN P "__cached__" 174 (.none),eN P "DeedError" 206 (.ref 24),eN P "NoRow" 231 (.ref 44),eN P "NoRule" 256 (.ref 63),eN P "NoStep" 281 (.ref 82),eN P "NoMachine" 297 (.ref 94),eN P "TooLong" 313 (.ref 106),eN P "NoWord" 329 (.ref 118),eN P "NoWork" 345 (.ref 130),eN P "NoBound" 361 (.ref 142)]
def Og (P:RJ):List RU:=Oh P++[eN P "TooMany" 377 (.ref 154),eN P "NoPlace" 393 (.ref 166),eN P "NoDeed" 409 (.ref 178),eN P "Nothing" 425 (.ref 190),eN P "NoText" 441 (.ref 202),eN P "NoLine" 457 (.ref 214)]++Fb.map (su P)++[eN P "LEAST_WORDS" 472 (.int 2 471),eN P "MOST_WORDS" 474 (.int 4 473),eN P "MOST_PLACES" 476 (.int 2 475),eN P "MOST_DEEDS" 478 (.int 6 477),eN P "MOST_COST" 480 (.int 3 479),eN P "LONGEST_ROW" 482 (.int 40 481)]++E9.map (su P)++[eN P "SORTS" 583 (.ref 290)]++E8.map (su P)
def Of (P:RJ):List RU:=Og P++E7.map (su P)++E6.map (su P)++[eN P "NEW_WORDS" 699 (.ref 364)]++E5.map (su P)++E4.map (su P)++E3.map (su P)
def kg3 (P:RJ):List RU:=Of P++[eN P "_law_copied" 1028 (.ref 592),eN P "_law_step_due" 1043 (.ref 599),eN P "_law_told" 1056 (.ref 606),eN P "_law_due" 1062 (.ref 611),eN P "_law_any_step" 1075 (.ref 618),eN P "law" 1081 (.ref 623)]
noncomputable def Om (P:RJ):List Obj:=[o1,{cls:=.none,data:=.fields #[.int 2 0,.int 0 0,.ref 20,.int 4 0,.int 0 0,.ref 33,.int 9 0,.int 0 0,.ref 52,.int 14 0,.int 0 0,.ref 71,.int 19 0,.int 0 0,.ref 90,.int 21 0,.int 0 0,.ref 102,.int 23 0,.int 0 0,.ref 114,.int 25 0,.int 0 0,.ref 126,.int 27 0,.int 0 0,.ref 138]},o2 "<module>" 182 1 11 185,o3 13 3 "__main__" 164,{cls:=.type "tuple",data:=.seq #[.type "ValueError"]},o4,o5 P 196 "DeedError" 2 22,o1,o6,o2 "DeedError" 191 2 18 194,o3 20 17 "leastdeeds.errors" 187,o1,o7 P 196 2 "__static_attributes__" 201 22 "__weakref__" 25 3,{cls:=.type "type",data:=.cls {name:="DeedError",bases:=[.type "ValueError"],mro:=[.ref 24,.type "ValueError",.type "Exception",.type "BaseException",.type "object"],ns:=23,qualname:="DeedError",subclasses:=[.ref 44,.ref 63,.ref 82,.ref 94,.ref 106,.ref 118,.ref 130,.ref 142]},slots:=#[some (.ref 15),none,some (.str "DeedError" 189),some (.str "DeedError" 197),some (.builtin "ValueError.__new__"),some (.bool true)]},{cls:=.type "getset_descriptor",data:=.fields #[.str "__weakref__" 202,.ref 24,.builtin "ExceptionGroup.__weakref__",.none]},o8 24,o9 24,kA,o4,Kr P 214 "NoRow" 4 41,o1,Kq 6 40,o2 "NoRow" 209 4 31 212,o3 33 30 "leastdeeds.errors" 187,o1,o6,Kp 222 "place",o1,Ko "NoRow.__init__" 2,wX "__init__" 219 "NoRow.__init__" 6 2 35 224 225,Kn "NoRow.__init__" 2 40,Km "place" 227,o7 P 214 4 "__init__" 226 41 "__static_attributes__" 42 2,kz "NoRow" 44 43 28 207,o8 44,o9 44,kA,o4,Kr P 239 "NoRule" 9 60,o1,Kq 11 59,o2 "NoRule" 234 9 50 237,o3 52 49 "leastdeeds.errors" 187,o1,o6,Kp 247 "number",o1,Ko "NoRule.__init__" 3,wX "__init__" 244 "NoRule.__init__" 11 2 54 249 250,Kn "NoRule.__init__" 3 59,Km "number" 252,o7 P 239 9 "__init__" 251 60 "__static_attributes__" 61 2,kz "NoRule" 63 62 47 232,o8 63,o9 63,kA,o4,Kr P 264 "NoStep" 14 79,o1,Kq 16 78,o2 "NoStep" 259 14 69 262,o3 71 68 "leastdeeds.errors" 187,o1,o6,Kp 272 "place",o1,Ko "NoStep.__init__" 4,wX "__init__" 269 "NoStep.__init__" 16 2 73 274 275,Kn "NoStep.__init__" 4 78,Km "place" 277,o7 P 264 14 "__init__" 276 79 "__static_attributes__" 80 2,kz "NoStep" 82 81 66 257,o8 82,o9 82,kA,o4,o5 P 289 "NoMachine" 19 92,o1,o6,o2 "NoMachine" 284 19 88 287,o3 90 87 "leastdeeds.errors" 187,o1,mL P 289 19 92,kz "NoMachine" 94 93 85 282,o8 94,o9 94,kA,o4,o5 P 305 "TooLong" 21 104,o1,o6,o2 "TooLong" 300 21 100 303,o3 102 99 "leastdeeds.errors" 187,o1,mL P 305 21 104,kz "TooLong" 106 105 97 298,o8 106,o9 106,kA,o4,o5 P 321 "NoWord" 23 116,o1,o6,o2 "NoWord" 316 23 112 319,o3 114 111 "leastdeeds.errors" 187,o1,mL P 321 23 116,kz "NoWord" 118 117 109 314,o8 118,o9 118,kA,o4,o5 P 337 "NoWork" 25 128,o1,o6,o2 "NoWork" 332 25 124 335,o3 126 123 "leastdeeds.errors" 187,o1,mL P 337 25 128,kz "NoWork" 130 129 121 330,o8 130,o9 130,kA,o4,o5 P 353 "NoBound" 27 140,o1,o6,o2 "NoBound" 348 27 136 351,o3 138 135 "leastdeeds.errors" 187,o1,mL P 353 27 140,kz "NoBound" 142 141 133 346,o8 142,o9 142]
def Ol (P:RJ):List Obj:=(((Om P).set 1 ({cls:=.none,data:=.fields Oe.toArray})).set 13 (o21))++[kA,o4,o5 P 369 "TooMany" 29 152,o1,o6,o2 "TooMany" 364 29 148 367,o3 150 147 "leastdeeds.errors" 187,o1,mL P 369 29 152,kz "TooMany" 154 153 145 362,o8 154,o9 154,kA,o4,o5 P 385 "NoPlace" 31 164,o1,o6,o2 "NoPlace" 380 31 160 383,o3 162 159 "leastdeeds.errors" 187,o1,mL P 385 31 164,kz "NoPlace" 166 165 157 378,o8 166,o9 166,kA,o4,o5 P 401 "NoDeed" 33 176,o1,o6,o2 "NoDeed" 396 33 172 399,o3 174 171 "leastdeeds.errors" 187,o1,mL P 401 33 176,kz "NoDeed" 178 177 169 394,o8 178,o9 178,kA,o4,o5 P 417 "Nothing" 35 188,o1,o6,o2 "Nothing" 412 35 184 415,o3 186 183 "leastdeeds.errors" 187,o1,mL P 417 35 188,kz "Nothing" 190 189 181 410,o8 190,o9 190,kA,o4,o5 P 433 "NoText" 37 200,o1,o6,o2 "NoText" 428 37 196 431,o3 198 195 "leastdeeds.errors" 187,o1,mL P 433 37 200,kz "NoText" 202 201 193 426,o8 202,o9 202,kA,o4,o5 P 449 "NoLine" 39 212,o1,o6,o2 "NoLine" 444 39 208 447,o3 210 207 "leastdeeds.errors" 187,o1,mL P 449 39 212,kz "NoLine" 214 213 205 442,o8 214,o9 214]++Fb.flatMap (kO "leastdeeds.wholes" 458)++E9.flatMap (kO "leastdeeds.machines" 469)++[Ob P 575 268]++E8.flatMap (kO "leastdeeds.machines" 469)
def Oj (P:RJ):List Obj:=((Ol P).set 1 ({cls:=.none,data:=.fields kt1.toArray}))++E7.flatMap (kO "leastdeeds.machines" 469)++E6.flatMap (kO "leastdeeds.runs" 640)++[Ob P 691 342]++E5.flatMap (kO "leastdeeds.runs" 640)++E4.flatMap (kO "leastdeeds.alike" 735)++E3.flatMap (kO "law_leastdeeds_k14_steps_refused" 809)
def Oi:List Addr:=[23,24,40,41,43,44,59,60,62,63,78,79,81,82,93,94,105,106,117,118,129,130,141,142,153,154,165,166,177,178,189,190,201,202,213,214,290,364]++Fb.flatMap sv++E9.flatMap sv++E8.flatMap sv++E7.flatMap sv++E6.flatMap sv++E5.flatMap sv++E4.flatMap sv++E3.flatMap sv
def kh:RJ->Qf:=λP=>[(2,{cls:=.none,data:=.dict #[]}),
 (3,{cls:=.type "dict",data:=.dict (eN P "__name__" 165 (.str "law_leastdeeds_k14_steps_refused" 809)::kg3 P).toArray 95}),
 (591,Kl "_law_copied" 1023 415 1 588 1026),
 (592,wW "_law_copied" 86 591),
 (598,wX "_law_step_due" 1029 "_law_step_due" 417 3 593 1041 1042),
 (599,wW "_law_step_due" 87 598),
 (605,wX "_law_told" 1044 "_law_told" 426 4 600 1054 1055),
 (606,wW "_law_told" 88 605),
 (610,Kl "_law_due" 1057 434 4 607 1060),
 (611,wW "_law_due" 89 610),
 (617,wX "_law_any_step" 1063 "_law_any_step" 448 3 612 1073 1074),
 (618,wW "_law_any_step" 90 617),
 (622,Kl "law" 1076 454 1 619 1079),
 (623,wW "law" 91 622)]++List.map (λa=>(a,(Oj P).getD (a-11) o1)) Oi
def K8:List Addr:=[2,3,591,592,598,599,605,606,610,611,617,618,622,623]++Oi
def O8:∀P,K8=(kh P).map (·.1):=λ_=>by kernel_rfl
noncomputable def kq:Q0:=PySem.W.view PySem.Challenge.pw_leastdeeds_k14_steps_refused [1,2,3,4,5,6,7,8,9,10,11,12,13,14,15,17,19,20,21,22,23,24,25,26,27,28,29,30,31,32,33,34,35,36,37,38,39,40,41,42,44,45,46,47,48,49,50,51,52,54,55,56,57,58,59,61,62,63,64,65,66,67,68,69,70,71,72,73,74,75,76,77,78,79,80,81,82,83,84,85,86,87,88,89,90,91]
abbrev kH:PySem.W.Hook:=PySem.W.kHook kh K8 O8
def qf:List Str:=["SORTS","NEW_WORDS"]
abbrev yC:=PySem.Challenge.rw_leastdeeds_k14_steps_refused.row
abbrev kX:Qn->Bool:=λs=>PySem.W.xlAt kq [] s&&PySem.W.recOk (PySem.W.RowW.records yC.toRowW) s
def Fq (P:RJ)(os:Ra):Rg:={HD.treeOf ((((PySem.W.boot_heap P).objs.toList.set 3 ({cls:=.type "dict",data:=.dict (eN P "__name__" 165 (.str "leastdeeds.errors" 187)::Oh P).toArray 18})))++Om P) 0 .nil,145,{},#[],{},362,os}
def Fp (P:RJ)(os:Ra):Rg:={HD.treeOf ((((PySem.W.boot_heap P).objs.toList.set 3 ({cls:=.type "dict",data:=.dict (eN P "__name__" 165 (.str "leastdeeds.machines" 469)::Og P).toArray 45})))++Ol P) 0 .nil,310,{},#[],{},608,os}
def Fo (P:RJ)(os:Ra):Rg:={HD.treeOf ((((PySem.W.boot_heap P).objs.toList.set 3 ({cls:=.type "dict",data:=.dict (eN P "__name__" 165 (.str "law_leastdeeds_k14_steps_refused" 809)::Of P).toArray 89})))++Oj P) 0 .nil,588,{},#[],{},1023,os}
def kE:Env:={scope:=PySem.Challenge.pw_leastdeeds_k14_steps_refused.main.scope,locals:=mainNs,globals:=mainNs,cells:=[],code:=.ref 13,frame:=some 14}
def kP (w:QX)(os:Ra):=HD.xo treeTable PySem.Challenge.pw_leastdeeds_k14_steps_refused w 11 (some (.ref 6)) 12 (HD.yX w.params os) (PySem.W.topStub PySem.Challenge.pw_leastdeeds_k14_steps_refused)
def Fi (w:QX)(os:Ra):=(kP w os).bind λx=>HD.lO treeTable PySem.Challenge.pw_leastdeeds_k14_steps_refused w 11 (some (.ref 6)) 1996 x.1 (PySem.W.piecesOf ((PySem.W.behindTheImports PySem.Challenge.pw_leastdeeds_k14_steps_refused).take 10) kE (.body (PySem.W.behindTheImports PySem.Challenge.pw_leastdeeds_k14_steps_refused) kE) {0,0,0,0} [PySem.W.topFrame {0,0,0,0}])
def Ff (w:QX)(os:Ra):Option (Flow×Rg×Code×Pos):=some (.next,Fq w.params os,(.body (PySem.W.behindTheImports PySem.Challenge.pw_leastdeeds_k14_steps_refused) kE),{27,0,28,8})
def Fh (w:QX)(os:Ra):=HD.lO treeTable PySem.Challenge.pw_leastdeeds_k14_steps_refused w 11 (some (.ref 6)) 1852 (Fq w.params os) (PySem.W.piecesOf (((PySem.W.behindTheImports PySem.Challenge.pw_leastdeeds_k14_steps_refused).drop 10).take 29) kE (.body (PySem.W.behindTheImports PySem.Challenge.pw_leastdeeds_k14_steps_refused) kE) {27,0,28,8} [PySem.W.topFrame {0,0,0,0}])
def Fe (w:QX)(os:Ra):Option (Flow×Rg×Code×Pos):=some (.next,Fp w.params os,(.body (PySem.W.behindTheImports PySem.Challenge.pw_leastdeeds_k14_steps_refused) kE),{105,0,107,45})
def Fg (w:QX)(os:Ra):=HD.lO treeTable PySem.Challenge.pw_leastdeeds_k14_steps_refused w 11 (some (.ref 6)) 1424 (Fp w.params os) (PySem.W.piecesOf ((((PySem.W.behindTheImports PySem.Challenge.pw_leastdeeds_k14_steps_refused).drop 10).drop 29).take 47) kE (.body (PySem.W.behindTheImports PySem.Challenge.pw_leastdeeds_k14_steps_refused) kE) {105,0,107,45} [PySem.W.topFrame {0,0,0,0}])
def Fd (w:QX)(os:Ra):Option (Flow×Rg×Code×Pos):=some (.next,Fo w.params os,(.body (PySem.W.behindTheImports PySem.Challenge.pw_leastdeeds_k14_steps_refused) kE),{408,0,414,15})
def kR (w:QX)(os:Ra):=HD.iM treeTable PySem.Challenge.pw_leastdeeds_k14_steps_refused w 11 (some (.ref 6)) 5749 (Fo w.params os) (PySem.W.restOf ((((PySem.W.behindTheImports PySem.Challenge.pw_leastdeeds_k14_steps_refused).drop 10).drop 29).drop 47) kE (.body (PySem.W.behindTheImports PySem.Challenge.pw_leastdeeds_k14_steps_refused) kE) {408,0,414,15} [PySem.W.topFrame {0,0,0,0}])
abbrev KW (P:RJ)(s:Rg):=HD.lV PySem.Challenge.pw_leastdeeds_k14_steps_refused kq qf kX true (PySem.W.boot_heap P) (λs=>K8.map s.heap.get?) s.abs
def Fn (w:QX)(os:Ra):=(kR w os).map λs=>(KW w.params s).1
def Fm (w:QX)(os:Ra):=(kR w os).map λs=>(KW w.params s).2.1
def Fj (w:QX)(os:Ra):=(kR w os).map λs=>(KW w.params s).2.2
def Fu (w:QX):=some true
def Ft (w:QX):=some (PySem.W.openGood kq qf)
def Fs (w:QX):=some ((kh w.params).map λp=>some p.2)
def _root_.PySem.W.Fast.tw9720425799361213064:Q0:=PySem.Challenge.pw_leastdeeds_k14_steps_refused
def _root_.PySem.W.Fast.te9720425799361213064:PySem.Challenge.pw_leastdeeds_k14_steps_refused=PySem.W.Fast.tw9720425799361213064:=rfl
def _root_.PySem.W.Fast.tw12197291840460535912:RJ->Qf:=K14.kh
def _root_.PySem.W.Fast.te12197291840460535912:K14.kh=PySem.W.Fast.tw12197291840460535912:=rfl
def _root_.PySem.W.Fast.tw10283031952262200742:RJ->Ra->Rg:=K14.Fq
def _root_.PySem.W.Fast.te10283031952262200742:K14.Fq=PySem.W.Fast.tw10283031952262200742:=rfl
def _root_.PySem.W.Fast.tw6859824173071814115:RJ->Ra->Rg:=K14.Fp
def _root_.PySem.W.Fast.te6859824173071814115:K14.Fp=PySem.W.Fast.tw6859824173071814115:=rfl
def _root_.PySem.W.Fast.tw4845133405970477073:RJ->Ra->Rg:=K14.Fo
def _root_.PySem.W.Fast.te4845133405970477073:K14.Fo=PySem.W.Fast.tw4845133405970477073:=rfl
noncomputable def Pj:Fn=Fn:=rfl
name_quick kq1_14 for Fn by Pj
noncomputable def Ph:Fm=Fm:=rfl
name_quick kq2_14 for Fm by Ph
noncomputable def Pm:Ft=Ft:=rfl
name_quick kg2_14 for Ft by Pm
noncomputable def Pf:Fj=Fj:=rfl
name_quick kq3_14 for Fj by Pf
noncomputable def Pk:Fs=Fs:=rfl
name_quick kg3_14 for Fs by Pk
noncomputable def Pe:Fi=Fi:=rfl
name_quick kua14 for Fi by Pe
noncomputable def Pb:Ff=Ff:=rfl
name_quick kva14 for Ff by Pb
noncomputable def Pd:Fh=Fh:=rfl
name_quick kub14 for Fh by Pd
noncomputable def Pa:Fe=Fe:=rfl
name_quick kvb14 for Fe by Pa
noncomputable def Pc:Fg=Fg:=rfl
name_quick kuc14 for Fg by Pc
noncomputable def O9:Fd=Fd:=rfl
name_quick kvc14 for Fd by O9
def A6:∀(w:QX) (os:Ra),PySem.W.Fast.kua14 (w.withFollow "special-get-raises" false) os=PySem.W.Fast.kva14 (w.withFollow "special-get-raises" false) os:=λw os=>by kernel_rfl
def Ds:∀(w:QX) (os:Ra),PySem.W.Fast.kua14 (w.withFollow "special-get-raises" true) os=PySem.W.Fast.kva14 (w.withFollow "special-get-raises" true) os:=λw os=>by kernel_rfl
def ka0:∀(w:QX) (os:Ra),Fi w os=Ff w os:=λw os=>by
 rw[PySem.W.Fast.kua14_eq,PySem.W.Fast.kva14_eq];exact PySem.W.byRow2 "special-get-raises" (P:=λw=>PySem.W.Fast.kua14 w os=PySem.W.Fast.kva14 w os) (λw=>A6 w os) (λw=>Ds w os) w
def A5:∀(w:QX) (os:Ra),PySem.W.Fast.kub14 (w.withFollow "special-get-raises" false) os=PySem.W.Fast.kvb14 (w.withFollow "special-get-raises" false) os:=λw os=>by kernel_rfl
def Dr:∀(w:QX) (os:Ra),PySem.W.Fast.kub14 (w.withFollow "special-get-raises" true) os=PySem.W.Fast.kvb14 (w.withFollow "special-get-raises" true) os:=λw os=>by kernel_rfl
def ka1:∀(w:QX) (os:Ra),Fh w os=Fe w os:=λw os=>by
 rw[PySem.W.Fast.kub14_eq,PySem.W.Fast.kvb14_eq];exact PySem.W.byRow2 "special-get-raises" (P:=λw=>PySem.W.Fast.kub14 w os=PySem.W.Fast.kvb14 w os) (λw=>A5 w os) (λw=>Dr w os) w
def A4:∀(w:QX) (os:Ra),PySem.W.Fast.kuc14 (w.withFollow "special-get-raises" false) os=PySem.W.Fast.kvc14 (w.withFollow "special-get-raises" false) os:=λw os=>by kernel_rfl
def Dq:∀(w:QX) (os:Ra),PySem.W.Fast.kuc14 (w.withFollow "special-get-raises" true) os=PySem.W.Fast.kvc14 (w.withFollow "special-get-raises" true) os:=λw os=>by kernel_rfl
def ka2:∀(w:QX) (os:Ra),Fg w os=Fd w os:=λw os=>by
 rw[PySem.W.Fast.kuc14_eq,PySem.W.Fast.kvc14_eq];exact PySem.W.byRow2 "special-get-raises" (P:=λw=>PySem.W.Fast.kuc14 w os=PySem.W.Fast.kvc14 w os) (λw=>A4 w os) (λw=>Dq w os) w
def A2:∀(w:QX) (os:Ra),PySem.W.Fast.kq1_14 (w.withFollow "special-get-raises" false) os=Fu (w.withFollow "special-get-raises" false):=λw os=>by kernel_rfl
def Dn:∀(w:QX) (os:Ra),PySem.W.Fast.kq1_14 (w.withFollow "special-get-raises" true) os=Fu (w.withFollow "special-get-raises" true):=λw os=>by kernel_rfl
def kl1:∀(w:QX) (os:Ra),Fn w os=Fu w:=λw os=>by
 rw[PySem.W.Fast.kq1_14_eq];exact PySem.W.byRow2 "special-get-raises" (P:=λw=>PySem.W.Fast.kq1_14 w os=Fu w) (λw=>A2 w os) (λw=>Dn w os) w
def A1:∀(w:QX) (os:Ra),PySem.W.Fast.kq2_14 (w.withFollow "special-get-raises" false) os=PySem.W.Fast.kg2_14 (w.withFollow "special-get-raises" false):=λw os=>by kernel_rfl
def Dm:∀(w:QX) (os:Ra),PySem.W.Fast.kq2_14 (w.withFollow "special-get-raises" true) os=PySem.W.Fast.kg2_14 (w.withFollow "special-get-raises" true):=λw os=>by kernel_rfl
def kl2:∀(w:QX) (os:Ra),Fm w os=Ft w:=λw os=>by
 rw[PySem.W.Fast.kq2_14_eq,PySem.W.Fast.kg2_14_eq];exact PySem.W.byRow2 "special-get-raises" (P:=λw=>PySem.W.Fast.kq2_14 w os=PySem.W.Fast.kg2_14 w) (λw=>A1 w os) (λw=>Dm w os) w
def A0:∀(w:QX) (os:Ra),PySem.W.Fast.kq3_14 (w.withFollow "special-get-raises" false) os=PySem.W.Fast.kg3_14 (w.withFollow "special-get-raises" false):=λw os=>by kernel_rfl
def Dl:∀(w:QX) (os:Ra),PySem.W.Fast.kq3_14 (w.withFollow "special-get-raises" true) os=PySem.W.Fast.kg3_14 (w.withFollow "special-get-raises" true):=λw os=>by kernel_rfl
def kl3:∀(w:QX) (os:Ra),Fj w os=Fs w:=λw os=>by
 rw[PySem.W.Fast.kq3_14_eq,PySem.W.Fast.kg3_14_eq];exact PySem.W.byRow2 "special-get-raises" (P:=λw=>PySem.W.Fast.kq3_14 w os=PySem.W.Fast.kg3_14 w) (λw=>A0 w os) (λw=>Dl w os) w
def kp:∀(w:QX) (os:Ra),(kP w os).map (·.2)=some {denote treeTable (.body (PySem.W.behindTheImports PySem.Challenge.pw_leastdeeds_k14_steps_refused) kE),(.body (PySem.W.behindTheImports PySem.Challenge.pw_leastdeeds_k14_steps_refused) kE),{0,0,0,0},[PySem.W.topFrame {0,0,0,0}]}:=λw os=>by kernel_rfl
def Nd:PySem.W.LeftO yC.prog kq qf kX kH.obs kH.val 11034:=HD.wb (m0:=11) (ann:=some (.ref 6)) (PySem.W.boot_open `r `d (λ_=>rfl)) (λw=>by kernel_rfl) λw os=>HD.Bw (J:=10) (kp w os) (by kernel_rfl) (ka0 w os) (HD.vE (J:=29) (ka1 w os) (HD.vE (J:=47) (ka2 w os) (HD.Bv (kl1 w os) (kl2 w os) (kl3 w os))))
end K14
namespace L2
open PySem PySem.Spec PyProof.Rows
abbrev Key:=Sum Int Str
noncomputable def tM:Key->Qj->Bool
 |.inl k,v=>Value.isInt k v
 |.inr x,v=>Value.isStrOf x v
noncomputable def O7 (w:QX):Key->Int
 |.inl k=>hashInt k
 |.inr x=>hashStr w x
def dG:∀{k:Key}{v:Qj},tM k v=true->(∃i t,k=Sum.inl i/\v=Value.int i t)\/(∃x t,k=Sum.inr x/\v=Value.str x t)
 | .inl i,v,h=>by
   obtain⟨t,e⟩:=Value.isInt_shape h;exact .inl ⟨i,t,rfl,e⟩
 | .inr x,v,h=>by
   obtain⟨t,e⟩:=Value.isStrOf_shape h;exact .inr ⟨x,t,rfl,e⟩
def kC (x:Str)(t:Tok):tM (.inr x) (.str x t)=true:=by simp[tM,Value.isStrOf]
def K1 (a b:Int):decide ((Sum.inl a:Key)=Sum.inl b)=(a==b):=by
 by_cases e:a=b
 ·subst e;simp
 ·have h:¬ (Sum.inl a:Key)=Sum.inl b:=λq=>e (Sum.inl.inj q);rw[decide_eq_false h];exact(Q8.mpr e).symm
def KY (a b:Str):decide ((Sum.inr a:Key)=Sum.inr b)=decide (a=b):=by
 by_cases e:a=b
 ·subst e;simp
 ·have h:¬ (Sum.inr a:Key)=Sum.inr b:=λq=>e (Sum.inr.inj q);rw[decide_eq_false h,decide_eq_false e]
def K0 (a:Int)(b:Str):decide ((Sum.inl a:Key)=Sum.inr b)=false:=decide_eq_false (λq=>nomatch q)
def KZ (a:Str)(b:Int):decide ((Sum.inr a:Key)=Sum.inl b)=false:=decide_eq_false (λq=>nomatch q)
def lg (prog:Q0)(w:QX):PySem.KeyKind prog w Key where
 is:=tM
 hash:=O7 w
 inj:=λv a b F B=>by
  rcases dG F with⟨i,t,rfl,rfl⟩|⟨x,t,rfl,rfl⟩
  ·rcases dG B with⟨j,u,rfl,e⟩|⟨y,u,rfl,e⟩
   ·injection e with e1 _;rw[e1]
   ·exact nomatch e
  ·rcases dG B with⟨j,u,rfl,e⟩|⟨y,u,rfl,e⟩
   ·exact nomatch e
   ·injection e with e1 _;rw[e1]
 byValue:=λk v h=>by
  rcases dG h with⟨i,t,rfl,rfl⟩|⟨x,t,rfl,rfl⟩<;>rfl
 pyHash:=λz h=>by
  rcases dG z with⟨i,t,rfl,rfl⟩|⟨x,t,rfl,rfl⟩
  ·exact wpAny_pyHash_int h
  ·exact wpAny_pyHash_str h
 eqBool:=λI z h=>by
  rcases dG I with⟨i,t,rfl,rfl⟩|⟨x,t,rfl,rfl⟩
  ·rcases dG z with⟨j,u,rfl,rfl⟩|⟨y,u,rfl,rfl⟩
   ·rw[K1] at h;exact wpAny_eqBool_int h
   ·rw[K0] at h;exact SeqAt.EqAt.int_str i t y u _ _ _ _ h
  ·rcases dG z with⟨j,u,rfl,rfl⟩|⟨y,u,rfl,rfl⟩
   ·rw[KZ] at h;exact SeqAt.EqAt.str_int x t j u _ _ _ _ h
   ·rw[KY] at h;exact wpAny_eqBool_str h
 «strs»:=λk x t v h=>by
  rcases dG h with⟨i,u,rfl,e⟩|⟨y,u,rfl,e⟩
  ·exact nomatch e
  ·injection e with e1 _
   subst e1;cases v<;>rfl
inductive V where
 |non|bl (b:Bool)|int (i:Int)|str (x:Str)|byt (b:Array UInt8)|flt (b:UInt64)|ref (a:Addr)|ty (n:String)
 deriving DecidableEq
def RelV:V->Qj->Prop
 |.non,u=>u=Value.none
 |.bl b,u=>u=Value.bool b
 |.int i,u=>∃t,u=Value.int i t
 |.str x,u=>∃t,u=Value.str x t
 |.byt b,u=>∃t,u=Value.bytes b t
 |.flt b,u=>∃t,u=Value.float b t
 |.ref a,u=>u=Value.ref a
 |.ty n,u=>u=Value.type n
abbrev Vals:List V->List Qj->Prop:=R5 RelV
def Vals.length (r:Vals xs us):xs.length=us.length:=Paired.length r
noncomputable def Vals.get:∀{xs:List V}{us:List Qj}{i:Nat}{x:V},Vals xs us->xs[i]?=some x->∃u,us[i]?=some u/\RelV x u
 |_,_,_,_,.nil,e=>by simp at e
 |_,_,0,_,.cons r _,e=>by simp at e;subst e;exact{_,rfl,r}
 | _,_,i+1,x,.cons _ t,e=>by
   obtain⟨u,h1,h2⟩:=Vals.get t (by simpa using e)
   exact{u,by simpa using h1,h2}
noncomputable def Vals.set (r:RelV x u):∀{xs:List V}{us:List Qj} (i:Nat),Vals xs us->Vals (xs.set i x) (us.set i u)
 |_,_,_,.nil=>.nil
 |_,_,0,.cons _ t=>.cons r t
 |_,_,i+1,.cons q t=>.cons q (Vals.set r i t)
noncomputable def Vals.append:∀{xs ys:List V}{us ws:List Qj},Vals xs us->Vals ys ws->Vals (xs++ys) (us++ws)
 |_,_,_,_,.nil,s=>s
 |_,_,_,_,.cons r t,s=>.cons r (Vals.append t s)
noncomputable def Vals.take:∀{xs:List V}{us:List Qj} (n:Nat),Vals xs us->Vals (xs.take n) (us.take n)
 |_,_,0,_=>.nil
 |_,_,_+1,.nil=>.nil
 |_,_,n+1,.cons r t=>.cons r (Vals.take n t)
noncomputable def Vals.drop:∀{xs:List V}{us:List Qj} (n:Nat),Vals xs us->Vals (xs.drop n) (us.drop n)
 |_,_,0,r=>r
 |_,_,_+1,.nil=>.nil
 |_,_,n+1,.cons _ t=>Vals.drop n t
def rK:Option V->Option Qj->Prop
 |some v,some u=>RelV v u
 |none,none=>True
 |_,_=>False
def KV {j:Type}:List (j×V)->List (j×Qj)->Prop:=R5 λ(p:j×V) (q:j×Qj)=>p.1=q.1/\RelV p.2 q.2
noncomputable def kV:Key->V
 |.inl i=>.int i
 |.inr x=>.str x
inductive HO where
 |lst (xs:List V)
 |tup (xs:List V)
 |dK (kvs:List (Key×V))|dT (kvs:List (List Key×V))
 |set (S:Int->Bool) (n:Nat)
 |ins (C dx:Addr) (fs:List (Str×V))
 |own (x:Addr)
 |xd (fs:List (Str×V))
 |met (f x:Addr)
 |rng (lo hi:Int)
 |frz (o:Obj) (u:HO)
 |tbl (ps:Array Qj)
 |ext (φ:Heap->Prop)
 |dn (es:List RU)
abbrev Hp:=Addr->Option HO
noncomputable def upd (H:Hp)(a:Addr)(o:HO):Hp:=λb=>if b=a then some o else H b
def bR:upd H a o a=some o:=by unfold upd;rw[if_pos rfl]
def aI (h:b≠a):upd H a o b=H b:=by unfold upd;rw[if_neg h]
def aX {H:Hp}(h:H a=some o)(h':H b=none):a≠b:=by
 intro e;subst e;rw[h] at h';cases h'
section
variable(P:Q0)(w:QX)
noncomputable def eK (H:Hp)(h:Heap)(a:Addr):HO->Prop
 |.lst xs=>xs.length<=sizeLine/\∃(j:List Qj) (n:Nat),Vals xs j/\h.get? a=some {cls:=.type "list",data:=.seq j.toArray n}
 |.tup xs=>xs.length<=sizeLine/\∃j:List Qj,Vals xs j/\IsTup h a j.toArray
 |.dK y=>y.length<=sizeLine/\(a==sysModules)=false/\∃B,KV y B/\h.DictOf (lg P w) a B
 |.dT y=>y.length<=sizeLine/\(a==sysModules)=false/\∃xs:List (List Key×Addr×Qj),
  R5 (λ(p:List Key×V) (q:List Key×Addr×Qj)=>p.1=q.1/\H q.2.1=some (.tup (p.1.map kV))/\RelV p.2 q.2.2) y xs/\
  ∃o es F,h.get? a=some o/\o.ExactDict/\o.data=.dict es F/\es.toList=xs.map (entryOfKey (tupleKind (lg P w)))/\(xs.map (·.1)).Nodup
 |.set S n=>h.SetOf (intKind P w) a S n
 |.ins C dx fs=>H dx=some (.own a)/\fs.length<=1000/\dx≠a/\h.get? a=some (PySem.W.instObj C dx)/\
  ∃mA,h.Ns1 dx mA/\(∀f,rK (fs.lookup f) (mA f))/\PySem.Within mA (fs.map (·.1))
 |.own _=>∃o,h.get? a=some o
 |.xd fs=>∃mA,h.Ns1 a mA/\∀f,rK (fs.lookup f) (mA f)
 |.rng lo hi=>∃t u v,h.get? a=some {cls:=.type "range",data:=.fields #[.int lo t,.int hi u,.int 1 v]}
 |.frz o u=>h.get? a=some o/\eK H h a u
 |.tbl ps=>h.get? a=some {cls:=.none,data:=.fields ps}
 |.met f x=>h.get? a=some (PySem.W.methodObj (.ref f) (.ref x))
 |.ext z=>z h/\(∃o,h.get? a=some o)/\∀h1 h2:Heap,z h1->(∀o,h1.get? a=some o->h2.get? a=some o)->z h2
 |.dn es=>es.length<=sizeLine/\(a==sysModules)=false/\∃o,h.get? a=some o/\o.ExactDict/\o.data=.dict es.toArray es.length
def eU (H:Hp)(h:Heap):Prop:=∀a o,H a=some o->eK P w H h a o
end
section
variable{P:Q0}{w:QX}{H H':Hp}{h h':Heap}{a:Addr}{o:HO}
def eK.lt (x:eK P w H h a o):a<h.objs.size:=by
 cases o with
 |lst xs=>obtain⟨_,_,_,_,e⟩:=x;exact Qy e
 |tup xs=>obtain⟨_,_,_,p⟩:=x;exact p.lt
 |dK j=>obtain⟨_,_,_,_,o,_,_,e,_⟩:=x;exact Qy e
 |dT j=>obtain⟨_,_,_,_,o,_,_,e,_⟩:=x;exact Qy e
 |set S n=>obtain⟨o,_,_,_,e,_⟩:=x;exact Qy e
 |ins C dx fs=>obtain⟨_,_,_,e,_⟩:=x;exact Qy e
 |own y=>obtain⟨_,e⟩:=x;exact Qy e
 |xd fs=>obtain⟨_,⟨_,_,_,e,_⟩,_⟩:=x;exact Qy e
 |rng lo hi=>obtain⟨_,_,_,e⟩:=x;exact Qy e
 |frz ob u=>obtain⟨e,_⟩:=x;exact Qy e
 |tbl ps=>exact Qy (x)
 |met f y=>exact Qy (x)
 |ext z=>obtain⟨_,⟨_,e⟩,_⟩:=x;exact Qy e
 |dn es=>obtain⟨_,_,_,e,_⟩:=x;exact Qy e
noncomputable def R5.mapP {j y:Type}{F G:j->y->Prop}:∀{l₁:List j}{l₂:List y},R5 F l₁ l₂->(∀a b,F a b->G a b)->R5 G l₁ l₂
 |_,_,.nil,_=>.nil
 |_,_,.cons r t,f=>.cons (f _ _ r) (R5.mapP t f)
def eK.stay (x:eK P w H h a o)(k:∀b u,(b=a\/H b=some (.own a))->h.get? b=some u->h'.get? b=some u)
 (ho:∀b,H b=some (.own a)->H' b=some (.own a)) (I:∀b xs,H b=some (.tup xs)->H' b=some (.tup xs)):eK P w H' h' a o:=by
 induction o with
 |lst xs=>obtain⟨z,B,n,r,e⟩:=x;exact{z,B,n,r,k _ _ (.inl rfl) e}
 |tup xs=>obtain⟨z,B,r,ob,e,c⟩:=x;exact{z,B,r,ob,k _ _ (.inl rfl) e,c}
 |dK F=>obtain⟨z,y,L,r,ob,es,j,e,c⟩:=x;exact{z,y,L,r,ob,es,j,k _ _ (.inl rfl) e,c}
 | dT F=>
   obtain⟨z,y,xs,r,ob,es,j,e,c⟩:=x;exact{z,y,xs,R5.mapP r λp q z=>{z.1,I _ _ z.2.1,z.2.2},ob,es,j,k _ _ (.inl rfl) e,c}
 |set S n=>obtain⟨ob,es,j,t,e,c⟩:=x;exact{ob,es,j,t,k _ _ (.inl rfl) e,c}
 | ins C dx fs=>
   obtain⟨d,z,ne,e,mA,⟨od,es,j,e2,c⟩,r⟩:=x;exact{ho _ d,z,ne,k _ _ (.inl rfl) e,mA,{od,es,j,k _ _ (.inr d) e2,c},r}
 |own y=>obtain⟨ob,e⟩:=x;exact{ob,k _ _ (.inl rfl) e}
 |xd fs=>obtain⟨mA,⟨od,es,j,e,c⟩,r⟩:=x;exact{mA,{od,es,j,k _ _ (.inl rfl) e,c},r}
 |rng lo hi=>obtain⟨t,u,v,e⟩:=x;exact{t,u,v,k _ _ (.inl rfl) e}
 |frz ob u J=>obtain⟨e,q⟩:=x;exact{k _ _ (.inl rfl) e,J q}
 | tbl ps=>
   have e:=x;exact k a _ (.inl rfl) e
 | met f y=>
   have e:=x;exact k a _ (.inl rfl) e
 |ext M=>obtain⟨p,⟨o,e⟩,st⟩:=x;exact{st _ _ p λo q=>k _ _ (.inl rfl) q,{o,k _ _ (.inl rfl) e},st}
 |dn es=>obtain⟨z,y,o,e,c⟩:=x;exact{z,y,o,k _ _ (.inl rfl) e,c}
def eU.lt (x:eU P w H h)(e:H a=some o):a<h.objs.size:=(x a o e).lt
def eU.fresh (x:eU P w H h)(e:h.objs.size<=a):H a=none:=by
 cases q:H a with
 |none=>rfl
 |some u=>exact absurd (QI (x.lt q) e) (Rt _)
def eU.kept (x:eU P w H h)(k:∀b u,h.get? b=some u->h'.get? b=some u):eU P w H h':=λa o e=>
 (x a o e).stay (λb u _ q=>k b u q) (λ_ q=>q) λ_ _ q=>q
def eU.laid (x:eU P w H h)(k:∀b u,h.get? b=some u->h'.get? b=some u)(y:h.objs.size<=a)(new:eK P w (upd H a o) h' a o):eU P w (upd H a o) h':=λb u e=>by
 have hn:=x.fresh y;by_cases j:b=a
 ·subst j;rw[bR] at e;cases e;exact new
 ·rw[aI j] at e;exact(x b u e).stay (λc v _ q=>k c v q) (λc q=>by rw[aI (aX q hn)];exact q) λc xs q=>by rw[aI (aX q hn)];exact q
end
def Rd (H:Hp)(a:Addr)(u:HO):Prop:=H a=some u\/∃o,H a=some (.frz o u)
def Rd.ok (r:Rd H a u)(x:eU P w H h):eK P w H h a u:=by
 rcases r with r|⟨o,r⟩
 ·exact x a u r
 ·obtain⟨_,q⟩:=x a _ r;exact q
def FT:Option HO->Prop
 |some (.lst _)=>True
 |some (.dK _)=>True
 |some (.dT _)=>True
 |some (.set _ _)=>True
 |some (.ins _ _ _)=>True
 |some (.ext _)=>True
 |some (.dn _)=>True
 |_=>False
section
variable{P:Q0}{w:QX}{H:Hp}{h h':Heap}{x e:Addr}{o':HO}
def eU.write (ok:eU P w H h)(mu:FT (H x))(he:e=x\/H e=some (.own x))(k:∀b u,b≠e->h.get? b=some u->h'.get? b=some u)(L:∃u,h'.get? e=some u)
 (new:eK P w (upd H x o') h' x o'):eU P w (upd H x o') h':=λb u q=>by
 have B:∀c y,H c=some (.own y)->c≠x:=λc y r z=>by subst z;rw[r] at mu;exact mu
 have F:∀c xs,H c=some (.tup xs)->c≠x:=λc xs r z=>by subst z;rw[r] at mu;exact mu
 by_cases I:b=x
 ·subst I;rw[bR] at q;cases q;exact new
 ·rw[aI I] at q;by_cases j:b=e
  ·have M:H b=some (.own x):=by
    rcases he with z|z
    ·exact absurd (j.trans z) I
    ·rw[j];exact z
   rw[q] at M;cases M;obtain⟨v,O⟩:=L;exact{v,by rw[j];exact O}
  ·refine(ok b u q).stay (λc v J r=>k c v ?_ r) (λc r=>by rw[aI (B c b r)];exact r) λc xs r=>by rw[aI (F c xs r)];exact r
   rcases J with rfl|J
   ·exact j
   ·rintro rfl;rcases he with z|z
    ·exact B c b J z
    ·rw[J] at z;cases z;exact I rfl
end
structure Un (fs ex:List Addr) (H H':Hp) (h h':Heap):Prop where
 keep:∀b o,h.get? b=some o->H b=none->b∉fs->b∉ex->h'.get? b=some o
 slot:∀b o,h.get? b=some o->H b=none->b∈fs->b∉ex->∃sl,h'.get? b=some {o with slots:=sl}
 free:∀b o,h.get? b=some o->H b=none->b∉ex->H' b=none
 there:∀b o,h.get? b=some o->b∉ex->∃o',h'.get? b=some o'
 tups:∀b xs,H b=some (.tup xs)->H' b=some (.tup xs)
 frzs:∀b o u,H b=some (.frz o u)->H' b=some (.frz o u)
 tbls:∀b ps,H b=some (.tbl ps)->∃more,H' b=some (.tbl (ps++more))
section
variable{fs fs' ex ex':List Addr}{H H1 H2:Hp}{h h1 h2 h':Heap}{a x e:Addr}{o:HO}
def Un.any (u:Un fs ex H H1 h h1)(q:h.get? b=some ob)(n:H b=none)(y:b∉ex):∃sl,h1.get? b=some {ob with slots:=sl}:=by
 by_cases j:b∈fs
 ·exact u.slot b ob q n j y
 ·exact{ob.slots,u.keep b ob q n j y}
def Un.kept (k:∀b u,h.get? b=some u->h'.get? b=some u):Un fs ex H H h h':=
 {λb ob q _ _ _=>k b ob q,λb ob q _ _ _=>{ob.slots,k b ob q},λ_ _ _ n _=>n,λb ob q _=>{ob,k b ob q},λ_ _ q=>q,λ_ _ _ q=>q,λ_ ps q=>{#[],by rw[q];simp}}
def Un.refl:Un fs ex H H h h:=Un.kept λ_ _ q=>q
def Un.laid (k:∀b u,h.get? b=some u->h'.get? b=some u)(j:h.objs.size<=a)(hn:H a=none):Un fs ex H (upd H a o) h h' where
 keep:=λb u q _ _ _=>k b u q
 slot:=λb u q _ _ _=>{u.slots,k b u q}
 free:=λb u q n _=>by rw[aI (Q3 (QI (Qy q) j))];exact n
 there:=λb u q _=>{u,k b u q}
 tups:=λb xs q=>by rw[aI (aX q hn)];exact q
 frzs:=λb u xs q=>by rw[aI (aX q hn)];exact q
 tbls:=λb ps q=>{#[],by rw[aI (aX q hn),q];simp}
def Un.write (mu:FT (H x))(he:e=x\/H e=some (.own x))(k:∀b u,b≠e->h.get? b=some u->h'.get? b=some u)(y:∃u,h'.get? e=some u):Un fs ex H (upd H x o) h h':=by
 have F:∀b,H b=none->b≠x:=λb n z=>by subst z;rw[n] at mu;exact mu
 have B:∀b,H b=none->b≠e:=λb n z=>by
  subst z;rcases he with r|r
  ·exact F b n r
  ·rw[n] at r;cases r
 have hm:∀b u,H b=some u->¬ FT (some u)->b≠x:=λb u q nm z=>by subst z;rw[q] at mu;exact nm mu
 refine{λb u q n _ _=>k b u (B b n) q,λb u q n _ _=>{u.slots,k b u (B b n) q},λb u q n _=>by rw[aI (F b n)];exact n,λb u q _=>?_,
  λb xs q=>by rw[aI (hm b _ q λz=>z)];exact q,λb u xs q=>by rw[aI (hm b _ q λz=>z)];exact q,λb ps q=>{#[],by rw[aI (hm b _ q λz=>z),q];simp}}
 by_cases j:b=e
 ·subst j;exact y
 ·exact{u,k b u j q}
end
noncomputable def EC (h:Heap)(H:Hp):List Addr:=(List.range h.objs.size).filter λa=>(H a).isSome
def mR (h:Heap)(H:Hp):Heap:=PySem.W.hideAll h (EC h H)
def Be (h:Heap)(H:Hp):(mR h H).objs.size=h.objs.size:=PySem.W.hideAll_size _ _
def Dv (e:h.get? b=some o)(n:H b=none):(mR h H).get? b=some o:=
 PySem.W.hideAll_get _ e λhm=>by
  have q:(H b).isSome=true:=(R3.mp hm).2;rw[n] at q;simp at q
def Hj (e:(mR h H).get? b=some o):h.get? b=some o/\H b=none:=by
 have j:=PySem.W.of_hideAll (EC h H) e;refine{j,?_};cases q:H b with
 |none=>rfl
 | some x=>
   have hm:b∈EC h H:=R3.mpr {List.mem_range.mpr (Qy j),by simp[q]}
   have z:(mR h H).get? b=none:=PySem.W.hideAll_none (EC h H) hm;rw[z] at e;cases e
structure Mod (K:Qf) (mg:Str->Option Qj) (base:Heap):Prop where
 kin:K.In base
 glob:base.Ns mainGlobals mg
 blt:∃mb,base.Ns builtinsNs mb/\∀x:Str,x≠"__name__"->mb x=bootBuiltins x
 nolimit:base.NoLimit
structure Cx where
 prog:Q0
 w:QX
 K:Qf
 mg:Str->Option Qj
 base:Heap
 A:Rz
 N:List Str
 s₀:Qn
 H₀:Hp
 env:Env
 outer:List Env
 stack:List Env
 ex:List Addr
 fn:Str->Bool
 calm:Bool
 pn:List (Addr×Obj)
 xe:Qj->Qn->Prop
noncomputable def gF (l:List Env):List Addr:=l.filterMap (·.frame)
abbrev Cx.fs (X:Cx):List Addr:=gF X.outer
def vY (sc:Scope)(x:Str):Prop:=sc.names.lookup x=some .local\/sc.names.lookup x=some .cell\/sc.names.lookup x=some .free
def Loc (sc:Scope)(x:Str):Prop:=sc.names.lookup x=some .local\/sc.names.lookup x=some .cell
def Look (env:Env)(h:Heap)(m:Str->Option Qj)(x:Str)(u:Qj):Prop:=
 (env.kindOf x=some .local/\m x=some u)\/((env.kindOf x=some .cell\/env.kindOf x=some .free)/\∃c,env.cells.lookup x=some c/\h.IsCell c (some u))
structure Cx.Ok (X:Cx):Prop where
 mod:Mod X.K X.mg X.base
 kind:X.env.scope.kind=.function
 glob:X.env.globals=mainGlobals
 blt:X.env.builtins=builtinsNs
 above:X.s₀.heap.objs.size<=X.env.locals
 inj:∀x y c,X.env.cells.lookup x=some c->X.env.cells.lookup y=some c->x=y
 has:∀x,(X.env.kindOf x=some .cell\/X.env.kindOf x=some .free)->∃c,X.env.cells.lookup x=some c
 cab:∀x c,X.fn x=true->X.env.cells.lookup x=some c->X.s₀.heap.objs.size<=c
 hd:X.calm=true->X.A.handled=none
 frames:X.A.frames=some X.stack
 stk:X.stack=X.outer\/(X.stack=X.env::X.outer/\X.env.frame=some X.env.locals)
 exf:∀b∈X.ex,b≠X.env.locals/\∀x c,X.env.cells.lookup x=some c->c≠b
 bs:∀b o,X.base.get? b=some o->X.s₀.heap.get? b=some o/\X.H₀ b=none
 bsz:X.base.objs.size<=X.s₀.heap.objs.size
 noex:∀b o,X.base.get? b=some o->b∉X.ex
 exfs:∀b∈X.ex,b∉X.fs
 funs:X.s₀.heap.FunFrames X.base X.outer
 frf:∀b∈X.fs,X.H₀ b=none
structure Inv (X:Cx) (pins:List (Addr×Obj)) (σ:List (Option V)) (H:Hp) (s:Qn):Prop where
 ok:X.Ok
 os:s.os=X.s₀.os
 bare:AllBare s.gens
 base:Un X.fs X.ex X.H₀ H X.s₀.heap s.heap
 loc:∃m,s.heap.Ns X.env.locals m/\∀(i:Nat) (x:Str) (v:V),X.N[i]?=some x->σ[i]?=some (some v)->vY X.env.scope x->∃u,RelV v u/\Look X.env s.heap m x u
 cell:∀x c,X.env.cells.lookup x=some c->∃v,s.heap.IsCell c v
 free:H X.env.locals=none
 freeC:∀x c,X.env.cells.lookup x=some c->H c=none
 pin:∀p∈X.pn++pins,s.heap.get? p.1=some p.2/\H p.1=none/\p.1≠X.env.locals/\p.1∉X.fs/\∀v,p.2.data≠.cell v
 hok:eU X.prog X.w H s.heap
 len:σ.length=X.N.length
section
variable{X:Cx}{pins:List (Addr×Obj)}{σ:List (Option V)}{H H':Hp}{s:Qn}{h':Heap}
def Cx.Ok.nofr (ok:X.Ok)(e:X.base.get? b=some o):b∉X.fs:=λj=>by
 have:=(ok.funs.mem j).1;rw[e] at this;cases this
def Inv.bs (I:Inv X pins σ H s):∀b o,X.base.get? b=some o->s.heap.get? b=some o/\H b=none:=λb o e=>
 {I.base.keep b o (I.ok.bs b o e).1 (I.ok.bs b o e).2 (I.ok.nofr e) (I.ok.noex b o e),I.base.free b o (I.ok.bs b o e).1 (I.ok.bs b o e).2 (I.ok.noex b o e)}
def Inv.bk (I:Inv X pins σ H s):∀b o,X.base.get? b=some o->s.heap.get? b=some o:=λb o e=>(I.bs b o e).1
def Inv.mod (I:Inv X pins σ H s):Mod X.K X.mg X.base:=I.ok.mod
def Inv.kIn (I:Inv X pins σ H s):X.K.In s.heap:=I.ok.mod.kin.keeps I.bk
def Inv.lt (I:Inv X pins σ H s):X.env.locals<s.heap.objs.size:=let{_,hn,_}:=I.loc;hn.lt
def Inv.sz (I:Inv X pins σ H s):X.s₀.heap.objs.size<=s.heap.objs.size:=Qs I.ok.above (Nat.le_of_lt I.lt)
def Inv.nofs (I:Inv X pins σ H s)(h:s.heap.objs.size<=a):a∉X.fs:=λj=>by
 obtain⟨_,o,ho,_⟩:=I.ok.funs.mem j;exact absurd (QI (Qy ho) (Qs I.sz h)) (Rt _)
def Inv.cne (I:Inv X pins σ H s):∀x c,X.env.cells.lookup x=some c->c≠X.env.locals:=λx c e z=>by
 obtain⟨v,o,ho,hd⟩:=I.cell x c e;obtain⟨m,⟨o',es,B,y,j,_⟩,_⟩:=I.loc;rw[z,y] at ho;cases ho;rw[j] at hd;cases hd
def Inv.funs (I:Inv X pins σ H s):s.heap.FunFrames X.base X.outer:=by
 have all:∀(l:List Env),(∀b∈gF l,b∈X.fs)->X.s₀.heap.FunFrames X.base l->s.heap.FunFrames X.base l:=by
  intro l;induction l with
  |nil=>intro _ _;trivial
  | cons env r B=>
    intro hs hl;obtain⟨hk,⟨L,o,hf,hn,ho,hd⟩,hr⟩:=hl;have j:=hs L (by unfold gF;rw[RV,hf];exact Qv)
    obtain⟨sl,e⟩:=I.base.slot L o ho (I.ok.frf L j) j λz=>I.ok.exfs L z j;exact{hk,{L,_,hf,hn,e,hd},B (λb y=>hs b (by unfold gF;rw[RV,hf];exact Qm _ y)) hr}
 exact all X.outer (λ_ y=>y) I.ok.funs
def Inv.stack (I:Inv X pins σ H s):s.heap.FunFrames X.base X.stack:=by
 rcases I.ok.stk with e|⟨e,hf⟩
 ·rw[e];exact I.funs
 ·rw[e];obtain⟨m,hn,_⟩:=I.loc;refine .cons (by rw[I.ok.kind];decide) hf hn ?_ I.funs
  exact RX (Qs I.ok.bsz I.ok.above)
def Inv.stkSub (I:Inv X pins σ H s):∀b∈gF X.stack,b∈X.env.locals::X.fs:=λb j=>by
 rcases I.ok.stk with e|⟨e,hf⟩
 ·rw[e] at j;exact Qm _ j
 ·rw[e] at j;unfold gF at j;rw[RV,hf] at j;exact j
def Inv.stkFree (I:Inv X pins σ H s):∀b∈gF X.stack,H b=none:=λb j=>by
 rcases Qu.mp (I.stkSub b j) with e|j
 ·rw[e];exact I.free
 ·obtain⟨_,o,ho,_⟩:=I.ok.funs.mem j;exact I.base.free b o ho (I.ok.frf b j) λz=>I.ok.exfs b z j
def Inv.step {ch:List Addr}(I:Inv X pins σ H s)
 (B:∀b∈ch,(b∈X.ex\/X.s₀.heap.objs.size<=b)/\b≠X.env.locals/\(∀x c,X.env.cells.lookup x=some c->c≠b)/\∀p∈X.pn++pins,p.1≠b)
 (keep:∀b o,b≠X.env.locals->b∉X.fs->b∉ch->s.heap.get? b=some o->H b=none->h'.get? b=some o)
 (slot:∀b o,b≠X.env.locals->b∈X.fs->b∉ch->s.heap.get? b=some o->H b=none->∃sl,h'.get? b=some {o with slots:=sl}) (free:∀b o,b∉ch->s.heap.get? b=some o->H b=none->H' b=none)
 (there:∀b o,b∉ch->s.heap.get? b=some o->∃o',h'.get? b=some o')
 (tups:∀b xs,H b=some (.tup xs)->H' b=some (.tup xs)) (frzs:∀b o u,H b=some (.frz o u)->H' b=some (.frz o u)) (tbls:∀b ps,H b=some (.tbl ps)->∃more,H' b=some (.tbl (ps++more)))
 (ns:∀m,s.heap.Ns X.env.locals m->h'.Ns X.env.locals m) (hok:eU X.prog X.w H' h') (Y:AllBare g') :
 Inv X pins σ H' {s with heap:=h',gens:=g',drawn:=d',toks:=t'}:=by
 have M:∀b o,X.s₀.heap.get? b=some o->b≠X.env.locals:=λb o e=>Q3 (QI (Qy e) I.ok.above);have J:∀b o,X.s₀.heap.get? b=some o->b∉X.ex->b∉ch:=λb o e j L=>by
  rcases(B b L).1 with z|z
  ·exact j z
  ·exact absurd (QI (Qy e) z) (Rt _)
 have y:∀x c,X.env.cells.lookup x=some c->∀v,s.heap.IsCell c v->h'.IsCell c v:=λx c e v ⟨o,ho,hd⟩=>by
  have F:=λz=>(B c z).2.2.1 x c e rfl;by_cases R:c∈X.fs
  ·obtain⟨sl,q⟩:=slot c o (I.cne x c e) R F ho (I.freeC x c e);exact{_,q,hd}
  ·exact{o,keep c o (I.cne x c e) R F ho (I.freeC x c e),hd}
 refine{I.ok,I.os,Y,{λb o e n L j=>?_,λb o e n L j=>?_,λb o e n j=>?_,λb o e j=>?_,λb xs e=>tups b xs (I.base.tups b xs e),λb o xs e=>frzs b o xs (I.base.frzs b o xs e),λb ps e=>?_},?_,λx c e=>?_,?_,λx c e=>?_,λp S=>?_,hok,I.len}
 ·exact keep b o (M b o e) L (J b o e j) (I.base.keep b o e n L j) (I.base.free b o e n j)
 ·obtain⟨sl,e1⟩:=I.base.slot b o e n L j;obtain⟨O,e2⟩:=slot b _ (M b o e) L (J b o e j) e1 (I.base.free b o e n j);exact⟨O,e2⟩
 ·obtain⟨o',e1⟩:=I.base.there b o e j;exact free b o' (J b o e j) e1 (I.base.free b o e n j)
 ·obtain⟨o',e1⟩:=I.base.there b o e j;exact there b o' (J b o e j) e1
 ·obtain⟨m1,e1⟩:=I.base.tbls b ps e;obtain⟨m2,e2⟩:=tbls b _ e1;exact{m1++m2,by rw[e2,Array.append_assoc]}
 ·obtain⟨m,hn,hl⟩:=I.loc;refine{m,ns m hn,λi x v e1 e2 W=>?_};obtain⟨u,r,l⟩:=hl i x v e1 e2 W;refine{u,r,?_};rcases l with l|⟨k,c,e,z⟩
  ·exact .inl l
  ·exact .inr {k,c,e,y x c e _ z}
 ·obtain⟨v,z⟩:=I.cell x c e;exact{v,y x c e v z}
 ·obtain⟨m,⟨o,_,_,ho,_⟩,_⟩:=I.loc;exact free _ o (λz=>(B _ z).2.1 rfl) ho I.free
 ·obtain⟨v,o,ho,hd⟩:=I.cell x c e;exact free c o (λz=>(B c z).2.2.1 x c e rfl) ho (I.freeC x c e)
 ·obtain⟨e,n,ne,U,d⟩:=I.pin p S;have F:=λz=>(B p.1 z).2.2.2 p S rfl;exact{keep p.1 p.2 ne U F e n,free p.1 p.2 F e n,ne,U,d}
def Inv.un {t':Nat}(I:Inv X pins σ H s)(u:Un X.fs [] H H' s.heap h')(hok:eU X.prog X.w H' h'):Inv X pins σ H' {s with heap:=h',toks:=t'}:=by
 obtain⟨m,⟨o,es,M,ho,r⟩,_⟩:=id I.loc;obtain⟨sl,J⟩:=u.any ho I.free `s
 exact I.step (ch:=[]) (λ_ z=>nomatch z) (λb o _ F _ e n=>u.keep b o e n F `s) (λb o _ F _ e n=>u.slot b o e n F `s) (λb o _ e n=>u.free b o e n `s) (λb o _ e=>u.there b o e `s) u.tups u.frzs u.tbls (λO hm=>by
  obtain⟨o',B,y,j,L⟩:=hm;rw[ho] at j;cases j;exact{_,B,y,J,L}) hok I.bare
def Inv.call {M:Drawn}{ch:List Addr}(I:Inv X pins σ H s)(u:Un (gF X.stack) ch H H' s.heap h')(hok:eU X.prog X.w H' h')(R:AllBare g')
 (y:∀b∈ch,(b∈X.ex\/X.s₀.heap.objs.size<=b)/\b≠X.env.locals/\(∀x c,X.env.cells.lookup x=some c->c≠b)/\∀p∈X.pn++pins,p.1≠b) :
 Inv X pins σ H' {s with heap:=h',gens:=g',drawn:=M,toks:=t'}:=by
 obtain⟨m,⟨o,es,U,ho,r⟩,_⟩:=id I.loc;obtain⟨sl,L⟩:=u.any ho I.free λz=>(y _ z).2.1 rfl;exact I.step y (λb o L O j e n=>u.keep b o e n (λz=>(Qu.mp (I.stkSub b z)).elim L O) j) (λb o _ _ j e n=>u.any e n j) (λb o j e n=>u.free b o e n j) (λb o j e=>u.there b o e j) u.tups u.frzs u.tbls (λW hm=>by
  obtain⟨o',J,F,B,S⟩:=hm;rw[ho] at B;cases B;exact{_,J,F,L,S}) hok R
def Inv.turned {j:Addr}(I:Inv X pins σ H s)(k:∀b o,b≠j->s.heap.get? b=some o->h'.get? b=some o)(hn:H j=none)(F:j≠X.env.locals)
 (h1:j∈X.ex\/X.s₀.heap.objs.size<=j) (h2:∀x c,X.env.cells.lookup x=some c->c≠j) (h3:∀p∈X.pn++pins,p.1≠j):Inv X pins σ H {s with heap:=h',toks:=t'}:=by
 have B:∀b u,H b=some u->b≠j:=λb u e z=>by rw[z,hn] at e;cases e
 refine I.step (ch:=[j]) (λb L=>?_) (λb o _ _ y e _=>k b o (λz=>y (by simp[z])) e) (λb o _ _ y e _=>{o.slots,k b o (λz=>y (by simp[z])) e}) (λ_ _ _ _ n=>n)
  (λb o y e=>{o,k b o (λz=>y (by simp[z])) e}) (λ_ _ e=>e) (λ_ _ _ e=>e) (λb ps e=>{#[],by rw[e];simp}) (λm hm=>?_) (λb u e=>?_) I.bare
 ·have e:b=j:=by simpa using L
  subst e;exact⟨h1,F,h2,h3⟩
 ·obtain⟨o,es,J,ho,r⟩:=hm;exact{o,es,J,k _ o (Ru F) ho,r}
 ·refine(I.hok b u e).stay (λc v y q=>k c v ?_ q) (λ_ q=>q) λ_ _ q=>q;rcases y with z|z
  ·rw[z];exact B b u e
  ·exact B c _ z
def Inv.tok (I:Inv X pins σ H s)(t:Nat):Inv X pins σ H {s with toks:=t}:=I.un Un.refl I.hok
def Inv.kept (I:Inv X pins σ H s)(k:∀b u,s.heap.get? b=some u->h'.get? b=some u):Inv X pins σ H {s with heap:=h',toks:=t'}:=I.un (Un.kept k) (I.hok.kept k)
def Inv.laid (I:Inv X pins σ H s)(k:∀b u,s.heap.get? b=some u->h'.get? b=some u)(j:s.heap.objs.size<=a)(new:eK X.prog X.w (upd H a o) h' a o) :
 Inv X pins σ (upd H a o) {s with heap:=h',toks:=t'}:=I.un (Un.laid k j (I.hok.fresh j)) (I.hok.laid k j new)
def Inv.write (I:Inv X pins σ H s)(mu:FT (H x))(he:e=x\/H e=some (.own x))(k:∀b u,b≠e->s.heap.get? b=some u->h'.get? b=some u)(j:∃u,h'.get? e=some u)
 (new:eK X.prog X.w (upd H x o) h' x o):Inv X pins σ (upd H x o) {s with heap:=h',toks:=t'}:=I.un (Un.write mu he k j) (I.hok.write mu he k j new)
def Inv.pins_of (I:Inv X pins σ H s)(h:∀p∈j,s.heap.get? p.1=some p.2/\H p.1=none/\p.1≠X.env.locals/\p.1∉X.fs/\∀v,p.2.data≠.cell v):Inv X j σ H s:=
 {I.ok,I.os,I.bare,I.base,I.loc,I.cell,I.free,I.freeC,λp y=>(QM.mp y).elim (λz=>I.pin p (RA _ z)) (h p),I.hok,I.len}
def oV {N:List Str}(y:N.Nodup){i j:Nat}(a:N[i]?=some x)(b:N[j]?=some x):i=j:=by
 obtain⟨h1,e1⟩:=Qg.mp a;obtain⟨h2,e2⟩:=Qg.mp b;exact(List.getElem_inj y).mp (e1.trans e2.symm)
def rW {M:Model}(I:Inv X pins σ H s)(hN:X.N.Nodup)(hi:X.N[i]?=some x)(J:Loc X.env.scope x)(r:RelV v u)
 (h:∀s',Inv X pins (σ.set i (some v)) H s'->(∃a,Heap.SameBut a s.heap s'.heap/\(a=X.env.locals\/X.env.cells.lookup x=some a))->Q () s') (hf:X.fn x=true\/X.env.scope.names.lookup x=some .local:=by first|exact .inl rfl|exact .inr rfl|assumption):wpAny M A (storeName X.env x u) Q E s:=by
 obtain⟨m,hn,hl⟩:=id I.loc;have hcls:(X.env.scope.kind==.class||(X.env.scope.kind==.module&&X.env.locals != X.env.globals))=false:=by rw[I.ok.kind];rfl
 have O:i<σ.length:=by rw[I.len];exact(Qg.mp hi).1
 have cne:=I.cne;have B:∀{a:Addr}{h':Heap},(∃o,s.heap.get? a=some o/\H a=none)->Heap.SameBut a s.heap h'->eU X.prog X.w H h':=λ{a h'} ha hs b ob e=>by
  obtain⟨_,_,L⟩:=ha;refine(I.hok b ob e).stay (λc w' F q=>(hs.2 c ?_).trans q) (λ_ q=>q) λ_ _ q=>q;rintro rfl;rcases F with rfl|F
  ·rw[L] at e;cases e
  ·rw[L] at F;cases F
 rcases J with hk|hk
 ·refine wpAny_storeName_local hk hn (λh' hn' hs=>?_) hcls;obtain⟨oL,_,_,hoL,_⟩:=id hn;refine h _ {I.ok,I.os,I.bare,{λb o e n R J=>?_,λb o e n R J=>?_,I.base.free,λb o e J=>?_,I.base.tups,I.base.frzs,I.base.tbls},{_,hn',λj y v' e1 e2 e3=>?_},λy c e=>?_,I.free,I.freeC,λp hp=>?_,B ⟨oL,hoL,I.free⟩ hs,by simpa using I.len} {_,hs,.inl rfl}
  ·exact(hs.2 b (Q3 (QI (Qy e) I.ok.above))).trans (I.base.keep b o e n R J)
  ·obtain⟨sl,e1⟩:=I.base.slot b o e n R J;exact{sl,(hs.2 b (Q3 (QI (Qy e) I.ok.above))).trans e1}
  ·obtain⟨o',e1⟩:=I.base.there b o e J;exact{o',(hs.2 b (Q3 (QI (Qy e) I.ok.above))).trans e1}
  ·by_cases U:j=i
   ·subst U;rw[hi] at e1;cases e1;rw[QW O] at e2;cases e2;exact{u,r,.inl {hk,`s}}
   ·rw[QH (Ru U)] at e2;obtain⟨u',r',q⟩:=hl j y v' e1 e2 e3;refine{u',r',?_};rcases q with⟨k,e⟩|⟨k,c,e,z⟩
    ·refine .inl {k,?_};have:y≠x:=λe=>U (oV hN e1 (e ▸ hi));simp[this,e]
    ·exact .inr {k,c,e,z.sameBut hs (cne y c e)}
  ·obtain⟨w',z⟩:=I.cell y c e;exact{w',z.sameBut hs (cne y c e)}
  ·obtain⟨e,n,ne,nf,d⟩:=I.pin p hp;exact{(hs.2 p.1 ne).trans e,n,ne,nf,d}
 ·have S:X.fn x=true:=by
   rcases hf with z|z
   ·exact z
   ·rw[z] at hk;cases hk
  obtain⟨c,F⟩:=I.ok.has x (.inl hk);obtain⟨w',z⟩:=I.cell x c F;refine wpAny_storeName_cell I.ok.kind hk F z (λh' W hs=>?_);obtain⟨oc,hoc,hocd⟩:=id z;refine h {s with heap:=h'} {I.ok,I.os,I.bare,{λb o e n R J=>?_,λb o e n R J=>?_,I.base.free,λb o e J=>?_,I.base.tups,I.base.frzs,I.base.tbls},{m,hn.sameBut hs (Ru (cne x c F)),λj y v' e1 e2 e3=>?_},λy c' e=>?_,I.free,I.freeC,λp hp=>?_,B {oc,hoc,I.freeC x c F} hs,by simpa using I.len} {c,hs,.inr F}
  ·exact(hs.2 b (Q3 (QI (Qy e) (I.ok.cab x c S F)))).trans (I.base.keep b o e n R J)
  ·obtain⟨sl,e1⟩:=I.base.slot b o e n R J;exact{sl,(hs.2 b (Q3 (QI (Qy e) (I.ok.cab x c S F)))).trans e1}
  ·obtain⟨o',e1⟩:=I.base.there b o e J;exact{o',(hs.2 b (Q3 (QI (Qy e) (I.ok.cab x c S F)))).trans e1}
  ·by_cases U:j=i
   ·subst U;rw[hi] at e1;cases e1;rw[QW O] at e2;cases e2;exact{u,r,.inr {.inl hk,c,F,W}}
   ·rw[QH (Ru U)] at e2;obtain⟨u',r',q⟩:=hl j y v' e1 e2 e3;refine{u',r',?_};rcases q with q|⟨k,c',e,z'⟩
    ·exact .inl q
    ·refine .inr {k,c',e,z'.sameBut hs ?_};rintro rfl;exact U (oV hN e1 (I.ok.inj _ _ _ e F ▸ hi))
  ·by_cases Y:c'=c
   ·subst Y;exact{_,W}
   ·obtain⟨w2,z2⟩:=I.cell y c' e;exact{w2,z2.sameBut hs Y}
  ·obtain⟨e,n,ne,nf,d⟩:=I.pin p hp;refine{(hs.2 p.1 ?_).trans e,n,ne,nf,d};intro q;rw[q,hoc] at e;have q':=Qp e;exact d w' (by rw[<- q'];exact hocd)
def lI (I:Inv X pins σ H s)(y:X.N.Nodup)(hi:X.N[i]?=some x)(z:Loc X.env.scope x)(r:RelV v u)
 (h:∀s',Inv X pins (σ.set i (some v)) H s'->Q () s') (hf:X.fn x=true\/X.env.scope.names.lookup x=some .local:=by first|exact .inl rfl|exact .inr rfl|assumption):wpAny M A (storeName X.env x u) Q E s:=
 rW I y hi z r (λs' j _=>h s' j) hf
def Inv.call' (I:Inv X pins σ H s)(ho:s'.os=s.os)(u:Un (gF X.stack) ch H H' s.heap s'.heap)(hok:eU X.prog X.w H' s'.heap)(y:AllBare s'.gens)
 (j:∀b∈ch,(b∈X.ex\/X.s₀.heap.objs.size<=b)/\b≠X.env.locals/\(∀x c,X.env.cells.lookup x=some c->c≠b)/\∀p∈X.pn++pins,p.1≠b):Inv X pins σ H' s':=by
 obtain⟨h',B,z,F,o'⟩:=s';have e:=ho;subst e;exact I.call u hok y j
end
abbrev XK:=Qj->Option Addr->Hp->Prop
abbrev St:=List (Option V)
abbrev VK:=V->Hp->Prop
abbrev TE:=St->Hp->VK->Prop
abbrev TT:=St->Hp->(Bool->Hp->Prop)->Prop
abbrev TA:=St->Hp->(List V->Hp->Prop)->Prop
structure Ends where
 nx:St->Hp->Prop
 rt:VK
 bk:St->Hp->Prop:=λ_ _=>False
 ct:St->Hp->Prop:=λ_ _=>False
abbrev TS:=Ends->St->Hp->Prop
def EP (X:Cx)(pins:List (Addr×Obj))(σ:St)(Q:VK)(u:Qj)(s':Qn):Prop:=∃v H',Inv X pins σ H' s'/\RelV v u/\Q v H'
def TP (X:Cx)(pins:List (Addr×Obj))(σ:St)(Q:Bool->Hp->Prop)(b:Bool)(s':Qn):Prop:=∃H',Inv X pins σ H' s'/\Q b H'
def AP (X:Cx)(pins:List (Addr×Obj))(σ:St)(Q:List V->Hp->Prop)(us:List Qj)(s':Qn):Prop:=∃j H',Inv X pins σ H' s'/\Vals j us/\Q j H'
def SP (X:Cx)(pins:List (Addr×Obj))(D:Ends)(f:Flow)(s':Qn):Prop:=
 match f with
 |.next=>∃j H',Inv X pins j H' s'/\D.nx j H'
 |.brk=>∃j H',Inv X pins j H' s'/\D.bk j H'
 |.cont=>∃j H',Inv X pins j H' s'/\D.ct j H'
 |.ret u=>∃v j H',Inv X pins j H' s'/\RelV v u/\D.rt v H'
def PE (X:Cx)(e:Expr)(t:TE):Prop:=
 ∀(pins:List (Addr×Obj)) (s:Qn) (σ:St) (H:Hp) (Q:VK),Inv X pins σ H s->t σ H Q->wpAny (model X.prog X.w) X.A (eval e X.env) (EP X pins σ Q) X.xe s
def PT (X:Cx)(e:Expr)(t:TT):Prop:=
 ∀(pins:List (Addr×Obj)) (s:Qn) (σ:St) (H:Hp) (Q:Bool->Hp->Prop),Inv X pins σ H s->t σ H Q->wpAny (model X.prog X.w) X.A (isTrue e X.env (eval e X.env)) (TP X pins σ Q) X.xe s
def PW (X:Cx)(e:Expr)(t:TT):Prop:=
 ∀(whole:Sem Qj) (pins:List (Addr×Obj)) (s:Qn) (σ:St) (H:Hp) (Q:Bool->Hp->Prop),Inv X pins σ H s->t σ H Q->wpAny (model X.prog X.w) X.A (isTrue e X.env whole) (TP X pins σ Q) X.xe s
def PW.pt (h:PW X e t):PT X e t:=h _
def PA (X:Cx)(es:List Expr)(t:TA):Prop:=
 ∀(pos:Pos) (pins:List (Addr×Obj)) (s:Qn) (σ:St) (H:Hp) (Q:List V->Hp->Prop),Inv X pins σ H s->t σ H Q->wpAny (model X.prog X.w) X.A (spliced (backTo pos (starEach es X.env))) (AP X pins σ Q) X.xe s
def PS (X:Cx)(st:Stmt)(t:TS):Prop:=
 ∀(pins:List (Addr×Obj)) (s:Qn) (σ:St) (H:Hp) (D:Ends),Inv X pins σ H s->t D σ H->wpAny (model X.prog X.w) X.A (exec st X.env) (SP X pins D) X.xe s
def mr (X:Cx)(st:List Stmt)(t:TS):Prop:=
 ∀(pins:List (Addr×Obj)) (s:Qn) (σ:St) (H:Hp) (D:Ends),Inv X pins σ H s->t D σ H->wpAny (model X.prog X.w) X.A (execs st X.env) (SP X pins D) X.xe s
def aY {j:Type}{t:Sem j}{Q Q':j->Qn->Prop}{M:Model}{A:Rz}{E:Qj->Qn->Prop}{s:Qn}(h:wpAny M A t Q E s)(y:∀a s,Q a s->Q' a s):wpAny M A t Q' E s:=wpAny_mono h y λ_ _ x=>x
section
variable{X:Cx}
def Cm (i:Nat):TE:=λσ H Q=>∃v,σ[i]?=some (some v)/\Q v H
def tC (v:V):TE:=λ_ H Q=>Q v H
def pW (F:X.N[i]?=some x)(J:vY X.env.scope x)(hd:(x==("__debug__":Str))=false:=by decide)(z:(x==("__classdict__":Str))=false:=by decide):PE X (.Name x pos) (Cm i):=by
 intro pins s σ H Q I h;obtain⟨v,e,h⟩:=h;obtain⟨m,hn,hl⟩:=I.loc;obtain⟨u,r,l⟩:=hl i x v F e J;have y:EP X pins σ Q u s:=⟨v,H,I,r,h⟩;rcases l with⟨hk,hm⟩|⟨hk,c,B,j⟩
 ·exact wpAny_Name (wpAny_loadName_local I.ok.kind hk hn hm y) hd
 ·rcases hk with hk|hk
  ·exact wpAny_Name (wpAny_loadName_cell I.ok.kind hk B j y) hd
  ·exact wpAny_Name (wpAny_loadName_free I.ok.kind hk B j y z) hd
def Ax {i j pos}:PE X (.Constant (.int i) j pos) (tC (.int i)):=λ_ _ _ H _ I h=>wpAny_Constant_int {.int i,H,I.tok _,{_,rfl},h}
def yf {b j pos}:PE X (.Constant (.bool b) j pos) (tC (.bl b)):=λ_ _ _ H _ I h=>Constant_bool {.bl b,H,I,rfl,h}
def J3 {j pos}:PE X (.Constant .none j pos) (tC .non):=λ_ _ _ H _ I h=>Constant_none {.non,H,I,rfl,h}
def JZ {x j pos}:PE X (.Constant (.str x) j pos) (tC (.str x)):=λ_ _ _ H _ I h=>Calls.Constant_str {.str x,H,I.tok _,{_,rfl},h}
def Gl (X:Cx)(x:Str):Prop:=X.env.kindOf x=some .globalImplicit
def gp (I:Inv X pins σ H s)(j:Gl X x)(hm:X.mg x=some u)(h:Q u s)
 (hd:(x==("__debug__":Str))=false:=by decide):wpAny (model X.prog X.w) X.A (eval (.Name x pos) X.env) Q E s:=
 Calls.Name_function_global I.ok.kind j (Calls.loadGlobal_global (by rw[I.ok.glob];exact I.mod.glob.keeps I.bk) hm h) hd
def iq (I:Inv X pins σ H s)(j:Gl X x)(hm:X.mg x=none)(y:bootBuiltins x=some u)(h:Q u s)
 (hn:x≠"__name__":=by decide) (hd:(x==("__debug__":Str))=false:=by decide):wpAny (model X.prog X.w) X.A (eval (.Name x pos) X.env) Q E s:=by
 obtain⟨z,h1,h2⟩:=I.mod.blt;exact Calls.Name_function_global I.ok.kind j (Calls.loadGlobal_builtin (by rw[I.ok.glob];exact I.mod.glob.keeps I.bk) hm (by rw[I.ok.blt];exact h1.keeps I.bk) ((h2 x hn).trans y) h) hd
def iT (j:Gl X x)(hm:X.mg x=some u)(r:RelV v u)(hd:(x==("__debug__":Str))=false:=by decide):PE X (.Name x pos) (tC v):=
 λ_ _ _ H _ I h=>gp I j hm ⟨v,H,I,r,h⟩ hd
def wU (j:Gl X x)(hm:X.mg x=none)(y:bootBuiltins x=some u)(r:RelV v u)(hn:x≠"__name__":=by decide)(hd:(x==("__debug__":Str))=false:=by decide):PE X (.Name x pos) (tC v):=
 λ_ _ _ H _ I h=>iq I j hm y ⟨v,H,I,r,h⟩ hn hd
variable{a b:Expr}{ta tb:TE}{pos:Pos}
variable{tA tB':TT}{rest:List Expr}
def gU (t u:TT):TT:=λσ H Q=>t σ H λc H1=>if c=true then u σ H1 Q else Q false H1
def cq (t u:TT):TT:=λσ H Q=>t σ H λc H1=>if c=true then Q true H1 else u σ H1 Q
def bB (t:TT):TT:=λσ H Q=>t σ H λc H1=>Q (!c) H1
def G5 (j:PT X a tA):PW X (.BoolOp .And [a] pos) tA:=by
 intro y pins s σ H Q I h;refine isTrue_and (aY (j pins s σ H Q I h) λc s1 e=>?_);cases c with
 |true=>exact isTrue_and_nil e
 |false=>exact e
def JP (j:PT X a tA):PW X (.BoolOp .Or [a] pos) tA:=by
 intro y pins s σ H Q I h;refine isTrue_or (aY (j pins s σ H Q I h) λc s1 e=>?_);cases c with
 |false=>exact isTrue_or_nil e
 |true=>exact e
def JQ (z:PT X a tA)(B:PW X (.BoolOp .And (b::rest) pos) tB'):PW X (.BoolOp .And (a::b::rest) pos) (gU tA tB'):=by
 intro F pins s σ H Q I h;refine isTrue_and (aY (z pins s σ H _ I h) λc s1 ⟨H1,j,y⟩=>?_);cases c with
 |true=>exact B F pins s1 σ H1 Q j y
 |false=>exact⟨H1,j,y⟩
def MJ (z:PT X a tA)(B:PW X (.BoolOp .Or (b::rest) pos) tB'):PW X (.BoolOp .Or (a::b::rest) pos) (cq tA tB'):=by
 intro F pins s σ H Q I h;refine isTrue_or (aY (z pins s σ H _ I h) λc s1 ⟨H1,j,y⟩=>?_);cases c with
 |true=>exact⟨H1,j,y⟩
 |false=>exact B F pins s1 σ H1 Q j y
def JR (j:PT X a tA):PT X (.UnaryOp .Not a pos) (bB tA):=by
 intro pins s σ H Q I h;exact isTrue_not (j pins s σ H (λc H1=>Q (!c) H1) I h)
def Ms (ta tb:TE):TE:=λσ H Q=>ta σ H λx H1=>∃c,x=.bl c/\if c=true then tb σ H1 Q else Q (.bl false) H1
def OF (ta tb:TE):TE:=λσ H Q=>ta σ H λx H1=>∃c,x=.bl c/\if c=true then Q (.bl true) H1 else tb σ H1 Q
def Mp (ta:TE):TE:=λσ H Q=>ta σ H λx H1=>∃c,x=.bl c/\Q (.bl (!c)) H1
def J1 {op}(h:PE X a t):PE X (.BoolOp op [a] pos) t:=λpins s σ H Q I j=>BoolOp_one (h pins s σ H Q I j)
def J6 (z:PE X a ta)(B:PE X (.BoolOp .And (b::rest) pos) tb):PE X (.BoolOp .And (a::b::rest) pos) (Ms ta tb):=by
 intro pins s σ H Q I h;refine BoolOp_and (aY (z pins s σ H _ I h) λv s1 ⟨x,H1,y,r1,j⟩=>?_);obtain⟨c,rfl,j⟩:=j;cases r1;refine tqp ?_;cases c with
 |true=>exact B pins s1 σ H1 Q y j
 |false=>exact{.bl false,H1,y,rfl,j}
def MM (z:PE X a ta)(B:PE X (.BoolOp .Or (b::rest) pos) tb):PE X (.BoolOp .Or (a::b::rest) pos) (OF ta tb):=by
 intro pins s σ H Q I h;refine BoolOp_or (aY (z pins s σ H _ I h) λv s1 ⟨x,H1,y,r1,j⟩=>?_);obtain⟨c,rfl,j⟩:=j;cases r1;refine tqp ?_;cases c with
 |false=>exact B pins s1 σ H1 Q y j
 |true=>exact{.bl true,H1,y,rfl,j}
def J2 (z:PE X a ta):PE X (.UnaryOp .Not a pos) (Mp ta):=by
 intro pins s σ H Q I h;refine UnaryOp_ (aY (z pins s σ H _ I h) λv s1 ⟨x,H1,y,r1,j⟩=>?_);obtain⟨c,rfl,j⟩:=j;cases r1;exact not_of (tqp {.bl (!c),H1,y,rfl,j})
def tIf (t:TT)(ta tb:TE):TE:=λσ H Q=>t σ H λc H1=>if c=true then ta σ H1 Q else tb σ H1 Q
def uR (F:PT X c tA)(z:PE X a ta)(B:PE X b tb):PE X (.IfExp c a b pos) (tIf tA ta tb):=by
 intro pins s σ H Q I h;refine wpAny_IfExp (aY (F pins s σ H _ I h) λd s1 ⟨H1,j,y⟩=>?_);cases d with
 |true=>exact z pins s1 σ H1 Q j y
 |false=>exact B pins s1 σ H1 Q j y
end
def dC (K:Qf)(H:Hp)(a:Addr)(xs:List V):Prop:=
 Rd H a (.lst xs)\/
  ∃(o:Obj) (j:Array Qj) (n:Nat),K.lookup a=some o/\o.cls=.type "list"/\o.dict=none/\o.data=.seq j n/\j.size<=sizeLine/\Vals xs j.toList
def d9 (K:Qf)(H:Hp)(a:Addr)(xs:List V):Prop:=
 Rd H a (.tup xs)\/
  ∃(o:Obj) (j:Array Qj) (n:Nat),K.lookup a=some o/\o.cls=.type "tuple"/\o.data=.seq j n/\j.size<=sizeLine/\Vals xs j.toList
noncomputable def PR:Qj->Option V
 |.none=>some .non
 |.bool b=>some (.bl b)
 |.int i _=>some (.int i)
 |.str x _=>some (.str x)
 |.bytes b _=>some (.byt b)
 |.float b _=>some (.flt b)
 |.ref a=>some (.ref a)
 |.type n=>some (.ty n)
 |_=>none
def RelV.abs (r:RelV x u):PR u=some x:=by
 cases x with
 |non=>cases r;rfl
 |bl _=>cases r;rfl
 |int _=>obtain⟨t,rfl⟩:=r;rfl
 |str _=>obtain⟨t,rfl⟩:=r;rfl
 |byt _=>obtain⟨t,rfl⟩:=r;rfl
 |flt _=>obtain⟨t,rfl⟩:=r;rfl
 |ref _=>cases r;rfl
 |ty _=>cases r;rfl
def RelV.inj (r:RelV x u)(q:RelV y u):x=y:=Qp (r.abs.symm.trans q.abs)
noncomputable def Vals.inj:∀{xs ys:List V}{us:List Qj},Vals xs us->Vals ys us->xs=ys
 |_,_,_,.nil,.nil=>rfl
 |_,_,_,.cons r t,.cons j y=>by rw[r.inj j,Vals.inj t y]
section
variable{X:Cx}{pins:List (Addr×Obj)}{σ:St}{H:Hp}{s:Qn}{a:Addr}{xs ys:List V}
def dC.of {K:Qf}(h:H a=some (.lst xs)):dC K H a xs:=.inl (.inl h)
def d9.of {K:Qf}(h:H a=some (.tup xs)):d9 K H a xs:=.inl (.inl h)
def Inv.list (I:Inv X pins σ H s)(h:dC X.K H a xs):∃j:List Qj,Vals xs j/\PlainL s.heap a j.toArray/\xs.length<=sizeLine:=by
 rcases h with h|⟨o,j,n,hk,y,hd,hs,B,r⟩
 ·obtain⟨z,j,n,r,e⟩:=h.ok I.hok;exact{j,r,{_,n,e,rfl,rfl,rfl},z}
 ·refine{j.toList,r,{o,n,I.kIn a o hk,y,hd,by simpa using hs},?_}
  have e:=r.length;simp only[RW] at e;omega
def Inv.tuple (I:Inv X pins σ H s)(h:d9 X.K H a xs):∃j:List Qj,Vals xs j/\IsTup s.heap a j.toArray/\xs.length<=sizeLine:=by
 rcases h with h|⟨o,j,n,hk,y,hs,B,r⟩
 ·obtain⟨z,j,r,p⟩:=h.ok I.hok;exact⟨j,r,p,z⟩
 ·refine{j.toList,r,{o,I.kIn a o hk,y,n,by simpa using hs},?_}
  have e:=r.length;simp only[RW] at e;omega
def Inv.list_inj (I:Inv X pins σ H s)(h:dC X.K H a xs)(h':dC X.K H a ys):xs=ys:=by
 obtain⟨y,r,⟨o,n,e,_,_,d⟩,_⟩:=I.list h;obtain⟨j,F,⟨o',J,B,_,_,z⟩,_⟩:=I.list h';rw[e] at B;cases B;rw[d] at z;injection z with d1 _
 have:y=j:=by simpa using congrArg Array.toList d1
 subst this;exact r.inj F
def Inv.tuple_inj (I:Inv X pins σ H s)(h:d9 X.K H a xs)(h':d9 X.K H a ys):xs=ys:=by
 obtain⟨y,r,⟨o,e,_,n,d⟩,_⟩:=I.tuple h;obtain⟨j,F,⟨o',B,_,J,z⟩,_⟩:=I.tuple h';rw[e] at B;cases B;rw[d] at z;injection z with d1 _
 have:y=j:=by simpa using congrArg Array.toList d1
 subst this;exact r.inj F
end
section
variable{X:Cx}{st:Stmt}{rest:List Stmt}{t u:TS}{e:Expr}{te:TE}{pos:Pos}
def EF:TS:=λD σ H=>D.nx σ H
def OC (t u:TS):TS:=λD σ H=>t {D with nx:=u D} σ H
def wM:mr X [] EF:=λ_ _ σ H _ I h=>wpAny_execs_nil ⟨σ,H,I,h⟩
def oP (h1:PS X st t)(h2:mr X rest u):mr X (st::rest) (OC t u):=by
 intro pins s σ H D I h;refine wpAny_execs_cons (aY (h1 pins s σ H {D with nx:=u D} I h) λf s1 q=>?_)
 cases f with
 | next=>
   obtain⟨j,H',y,q⟩:=q;exact h2 pins s1 j H' D y q
 |ret v=>exact q
 |brk=>exact q
 |cont=>exact q
def G9:PS X (.Pass pos) EF:=λ_ _ σ H _ I h=>wpAny_Pass ⟨σ,H,I,h⟩
def Inv.quiet (I:Inv X pins σ H s):interactive X.env=false:=by simp[interactive,I.ok.kind]
def Mq (te:TE):TS:=λD σ H=>te σ H λ_ H1=>D.nx σ H1
def ny (he:PE X e te)(hs:swapsWith e none pos.line X.env=pure false:=by rfl):PS X (.Expr e pos) (Mq te):=by
 intro pins s σ H D I h;exact wpAny_Expr_any (aY (he pins s σ H _ I h) (by rintro v s1 ⟨x,H1,j,r1,y⟩;exact⟨σ,H1,j,y⟩)) I.quiet hs
def OD (te:TE):TS:=λD σ H=>te σ H D.rt
def As (he:PE X e te):PS X (.Return (some e) pos) (OD te):=by
 intro pins s σ H D I h;exact wpAny_Return_some (aY (he pins s σ H _ I h) (by rintro v s1 ⟨x,H1,j,r1,y⟩;exact⟨x,σ,H1,j,r1,y⟩))
def Mn:TS:=λD _ H=>D.rt .non H
def G8:PS X (.Return none pos) Mn:=λ_ _ σ H _ I h=>wpAny_Return_none {.non,σ,H,I,rfl,h}
def OJ (c:TT)(t u:TS):TS:=λD σ H=>c σ H λb H1=>if b=true then t D σ H1 else u D σ H1
def MK (F:PT X c tc)(z:mr X a t)(B:mr X b u):PS X (.If c a b pos) (OJ tc t u):=by
 intro pins s σ H D I h;refine wpAny_If (aY (F pins s σ H _ I h) λd s1 ⟨H1,j,y⟩=>?_);cases d with
 |true=>exact z pins s1 σ H1 D j y
 |false=>exact B pins s1 σ H1 D j y
end
abbrev TG:=V->St->Hp->(St->Hp->Prop)->Prop
abbrev xI:=List V->St->Hp->(St->Hp->Prop)->Prop
def PG (X:Cx)(j:Expr)(t:TG):Prop:=
 ∀(pins:List (Addr×Obj)) (s:Qn) (σ:St) (H:Hp) (v:V) (u:Qj) (Q:St->Hp->Prop),Inv X pins σ H s->RelV v u->t v σ H Q->
  wpAny (model X.prog X.w) X.A (assign j X.env u) (λ_ s'=>∃y H',Inv X pins y H' s'/\Q y H') X.xe s
def vZ (X:Cx)(ts:List Expr)(t:xI):Prop:=
 ∀(pins:List (Addr×Obj)) (s:Qn) (σ:St) (H:Hp) (z:List V) (y:List Qj) (Q:St->Hp->Prop),Inv X pins σ H s->Vals z y->t z σ H Q->
  wpAny (model X.prog X.w) X.A (assignInOrder ((assignEach ts X.env).map (·.2)) y) (λ_ s'=>∃j H',Inv X pins j H' s'/\Q j H') X.xe s
abbrev L0:=V->V->V->Hp->(Hp->Prop)->Prop
def L4 (X:Cx)(t:L0):Prop:=
 ∀(pins:List (Addr×Obj)) (s:Qn) (σ:St) (H:Hp) (o i v:V) (y j u:Qj) (Q:Hp->Prop),Inv X pins σ H s->RelV o y->RelV i j->RelV v u->t o i v H Q->
  wpAny (model X.prog X.w) X.A (setItem y j u) (λ_ s'=>∃H',Inv X pins σ H' s'/\Q H') X.xe s
section
variable{X:Cx}{pos:Pos}
def Ni (i:Nat):TG:=λv σ H Q=>Q (σ.set i (some v)) H
def qR (y:X.N.Nodup)(hi:X.N[i]?=some x)(z:Loc X.env.scope x)(hf:X.fn x=true\/X.env.scope.names.lookup x=some .local:=by first|exact .inl rfl|exact .inr rfl|assumption):PG X (.Name x pos) (Ni i):=by
 intro pins s σ H v u Q I r h;exact wpAny_assign_Name (lI I y hi z r (λs' j=>{_,H,j,h}) hf)
noncomputable def b9:xI:=λj σ H Q=>j=[]/\Q σ H
def ix (t:TG)(u:xI):xI:=λy σ H Q=>∃v r,y=v::r/\t v σ H λj H'=>u r j H' Q
def wO:vZ X [] b9:=by
 intro pins s σ H y j Q I r h;obtain⟨e,h⟩:=h;subst e;cases r;exact assignInOrder_nil ⟨σ,H,I,h⟩
def oS (h1:PG X e t)(h2:vZ X es u)
 (hs:(assignEach (e::es) X.env).map (·.2)=assign e X.env::(assignEach es X.env).map (·.2):=by rfl):vZ X (e::es) (ix t u):=by
 intro pins s σ H J F Q I r h;obtain⟨v,vr,e1,h⟩:=h;subst e1;cases r with
 | cons r B=>
   rw[hs];refine assignInOrder_cons (aY (h1 pins s σ H _ _ _ I r h) λ_ s1 ⟨j,H1,y,z⟩=>?_);exact h2 pins s1 j H1 _ _ Q y B z
def bc (K:Qf)(n:Nat)(t:xI):TG:=λv σ H Q=>∃a xs,v=.ref a/\d9 K H a xs/\xs.length=n/\t xs σ H Q
def uO (F:X.calm=true)(h:vZ X es t)
 (hn:(assignEach es X.env).length=n:=by rfl) (j:(assignEach es X.env).findIdx? (·.1)=none:=by rfl):PG X (.Tuple es k pos) (bc X.K n t):=by
 intro pins s σ H v u Q I r y;obtain⟨a,xs,e1,J,hl,y⟩:=y;subst e1;cases r;obtain⟨O,z,L,R⟩:=I.tuple J;refine assign_Tuple_tuple (I.ok.hd F) L (by simp[hn,<- hl,z.length]) j λh' M=>?_
 have B:=I.kept (t':=s.toks) λb o e=>M b o (Q3 (Qy e)) e;exact h pins _ σ H xs _ Q B (by simpa using z) y
def Pq (to y:TE)(t:L0):TG:=λv σ H Q=>to σ H λo H1=>y σ H1 λi H2=>t o i v H2 λj=>Q σ j
def JX (ho:PE X o to)(hi:PE X i ti)(hs:L4 X t)
 (M:∀v,assign (.Subscript o i pos) X.env v=(do
  let j <- holding [v] (eval o X.env)
  let z <- holding [v,j] (eval i X.env)
  standAt pos
  holding [v,j,z] (setItem j z v)
  release [v,j,z] []):=by intro _;rfl):PG X (.Subscript o i pos) (Pq to ti t):=by
 intro pins s σ H v u Q I r h;rw[M];refine tqa (tqo (aY (ho pins s σ H _ I h) λj s1 ⟨x,H1,F,r1,O⟩=>?_));refine tqa (tqo (aY (hi pins s1 σ H1 _ F O) λz s2 ⟨y,H2,J,r2,R⟩=>?_));refine tqa (wpAny_standAt (tqa (tqo (aY (hs pins s2 σ H2 x y v j z u _ J r1 r2 r R) λ_ U ⟨B,L,S⟩=>?_))));exact wpAny_release ⟨σ,B,L,S⟩
def OL (te:TE)(g:TG):TS:=λD σ H=>te σ H λx H1=>g x σ H1 D.nx
def uL (he:PE X e te)(y:PG X tg g)(hs:swapsWithSole [tg] e pos.line X.env=pure false:=by rfl)(z:swappedStores [tg] e X.env=pure none:=by rfl)
 (h1:(assignEach [tg] X.env).map (·.2)=[assign tg X.env]:=by rfl):PS X (.Assign [tg] e pos) (OL te g):=by
 intro pins s σ H D I h;refine wpAny_Assign_stores (aY (he pins s σ H _ I h) λv s1 ⟨x,H1,j,r1,B⟩=>?_) hs z;rw[h1];exact aY (y pins s1 σ H1 x v _ j r1 B) λ_ s2 q=>q
def OE (i j:Nat)(ta:TA):TS:=λD σ H=>ta σ H λy H1=>∃v w,y=[v,w]/\D.nx ((σ.set i (some v)).set j (some w)) H1
def JS {kt k2 pt2}(hc:X.calm=true)(R:X.N.Nodup)(hi:X.N[i]?=some x)(hj:X.N[j]?=some y)(F:i≠j)
 (S:X.env.scope.names.lookup x=some .local) (U:X.env.scope.names.lookup y=some .local) (ha:PA X [a,b] ta)
 (hw:swappedStores [.Tuple [.Name x px,.Name y py] kt pt] (.Tuple [a,b] k2 pt2) X.env=pure (some [x,y]))
 (hs:swapsWithSole [.Tuple [.Name x px,.Name y py] kt pt] (.Tuple [a,b] k2 pt2) pos.line X.env=pure false:=by rfl) :
 PS X (.Assign [.Tuple [.Name x px,.Name y py] kt pt] (.Tuple [a,b] k2 pt2) pos) (OE i j ta):=by
 intro pins s σ H D I h;rw[exec_Assign_arm];refine tqa (wpAny_standAt ?_);rw[hs];refine tqa (tqb ?_);rw[if_neg `d]
 refine tqa (Tuple_ (aY (ha _ pins s σ H _ I h) λus s1 ⟨vs,H1,W,r1,L⟩=>?_));obtain⟨v,w,e1,L⟩:=L;subst e1;obtain⟨z,B,rfl,rv,M⟩:∃z B,us=[z,B]/\RelV v z/\RelV w B:=by
  cases r1 with
  | cons p q=>
    cases q with
    | cons p' q'=>
      cases q';exact{_,_,rfl,p,p'}
 refine wpAny_newObj_type ?_ (by show 2<=sizeLine;decide)
 have Y:Inv X pins σ H1 {s1 with heap:=s1.heap.push {cls:=.type "tuple",data:=.seq [z,B].toArray}}:=W.kept λb o e=>Qi _ e
 rw[hw];refine tqa (tqb ?_);refine tqa (wpAny_rule (tqa (unpackItems_tuple (items:=#[z,B]) (I.ok.hd hc) (IsTup.new s1.heap _) λh' J=>?_)));have I3:=Y.kept (t':=s1.toks) λb o e=>J b o (Q3 (Qy e)) e;refine tqa (assignInOrder_cons (wpAny_bindName (lI I3 R hj (.inl U) M (λs2 I4=>?_) (.inr U))));refine assignInOrder_cons (wpAny_bindName (lI I4 R hi (.inl S) rv (λs3 O=>assignInOrder_nil (tqb ?_)) (.inr S)));rw[List.set_comm _ _ (Ru F)] at O;exact{_,H1,O,L}
end
structure It where
 go:Nat->Hp->Prop
 yld:Nat->Hp->V->Hp->Prop
 stop:Nat->Hp->Prop
def gA (X:Cx)(pins:List (Addr×Obj))(H:Hp)(b:Addr):Prop:=
 H b=none/\b≠X.env.locals/\b∉X.fs/\(b∈X.ex\/X.s₀.heap.objs.size<=b)/\(∀x c,X.env.cells.lookup x=some c->c≠b)/\∀p∈X.pn++pins,p.1≠b
def Inv.fpOk (I:Inv X pins σ H s)(j:s.heap.objs.size<=b)(hn:H' b=none):gA X pins H' b:=by
 refine{hn,Rv (QI I.lt j),I.nofs j,.inr (Qs I.sz j),λx c e z=>?_,λp y z=>?_}
 ·obtain⟨v,q⟩:=I.cell x c e;exact absurd (QI q.lt (by rw[z];exact j)) (Rt _)
 ·exact absurd (QI (Qy (I.pin p y).1) (by rw[z];exact j)) (Rt _)
structure Turn (P:Q0) (w:QX) (K:Qf) (tg:Expr) (J:It) (fp:List Addr) (it:Addr) (tn:Nat->Heap->Prop):Prop where
 mem:it∈fp
 obj:∀i h,tn i h->∀b∈fp,∃o,h.get? b=some o/\∀v,o.data≠.cell v
 keep:∀i h h',tn i h->(∀b∈fp,∀o,h.get? b=some o->h'.get? b=some o)->tn i h'
 item:∀(X:Cx),X.prog=P->X.w=w->X.K=K->X.calm=true->∀(i:Nat) (pins:List (Addr×Obj)) (s:Qn) (σ:St) (H:Hp) (E:Qj->Qn->Prop),Inv X pins σ H s->(∀b∈fp,gA X pins H b)->tn i s.heap->J.go i H->
  wpAny (model P w) X.A (pyNext (.ref it)) (λr s1=>∃u,r=some u/\
   wpAny (model P w) X.A (letOwnedTupleGo tg (.ref it) u) (λ_ s2=>∃x H',Inv X pins σ H' s2/\RelV x u/\J.yld i H x H'/\tn (i+1) s2.heap/\∀b∈fp,H' b=none) E s1) E s
 done:∀(X:Cx),X.prog=P->X.w=w->X.K=K->X.calm=true->∀(i:Nat) (pins:List (Addr×Obj)) (s:Qn) (σ:St) (H:Hp) (E:Qj->Qn->Prop),Inv X pins σ H s->(∀b∈fp,gA X pins H b)->tn i s.heap->J.stop i H->
  wpAny (model P w) X.A (pyNext (.ref it)) (λr s1=>r=none/\Inv X pins σ H s1) E s
 self:∀(A:Rz) (i:Nat) (s:Qn) (Q:Qj->Qn->Prop) (E:Qj->Qn->Prop),tn i s.heap->Q (.ref it) s->wpAny (model P w) A (pyIter (.ref it)) Q E s
abbrev TI:=St->Hp->(It->Hp->Prop)->Prop
def L5 (X:Cx)(pins:List (Addr×Obj))(σ:St)(tg:Expr)(R:It->Hp->Prop)(j:Qj)(s2:Qn):Prop:=
 ∃(z:Addr) (y:List Addr) (B:Nat->Heap->Prop) (J:It) (H':Hp),j=.ref z/\Inv X pins σ H' s2/\Turn X.prog X.w X.K tg J y z B/\B 0 s2.heap/\(∀b∈y,gA X pins H' b)/\R J H'
def PI (X:Cx)(tg j:Expr)(y:TI):Prop:=
 ∀(pins:List (Addr×Obj)) (s:Qn) (σ:St) (H:Hp) (R:It->Hp->Prop),Inv X pins σ H s->y σ H R->
  wpAny (model X.prog X.w) X.A (eval j X.env) (λv s1=>wpAny (model X.prog X.w) X.A (pyIter v) (L5 X pins σ tg R) X.xe s1) X.xe s
def tP (ho:s.heap.get? it=some o)(y:o.cls=.type n)(hd:o.data=.fields vs)
 (hn:["enumerate","zip","dict_itemiterator","dict_reverseitemiterator","odict_iterator","itertools.zip_longest","itertools.pairwise"].contains n=false) (j:Q () s):wpAny M A (letOwnedTupleGo tg (.ref it) u) Q E s:=by
 cases tg<;>first
  |exact tqb j
  |(cases u<;>first
   |exact tqb j
   | (refine tqa (wpAny_load ho ?_)
      rw[y,hd];show wpAny M A (if (["enumerate","zip","dict_itemiterator","dict_reverseitemiterator","odict_iterator","itertools.zip_longest","itertools.pairwise"].contains n&&vs[0]?==some (rawInt _))=true then _ else _) Q E s;rw[if_neg (by intro h;rw[hn,Bool.false_and] at h;cases h)]
      exact tqb j))
def Mb (K:Qf)(a:Addr):It:=
 {λi H=>∃xs x,dC K H a xs/\xs[i]?=some x,λi H x H'=>H'=H/\∀xs,dC K H a xs->xs[i]?=some x,λi H=>∃xs,dC K H a xs/\xs.length<=i}
def L9 (K:Qf)(a:Addr):It:=
 {λi H=>∃xs x,d9 K H a xs/\xs[i]?=some x,λi H x H'=>H'=H/\∀xs,d9 K H a xs->xs[i]?=some x,λi H=>∃xs,d9 K H a xs/\xs.length<=i}
def FV (lo:Int)(n:Nat):It:={λi _=>i<n,λi H x H'=>H'=H/\x=.int (lo+i),λi _=>n<=i}
def zE {K:Qf}(a y:Addr):Turn P w K tg (Mb K a) [y] y (λi h=>h.IsListIter y a i) where
 mem:=`s
 obj:=λi h st b j=>by
  have e:b=y:=by simpa using j
  subst e;obtain⟨o,e,c,d⟩:=st;exact{o,e,λv z=>by rw[d] at z;cases z}
 keep:=λi h h' st k=>st.at λo e=>k y `s o e
 item:=by
  intro X S Y R hc i pins s σ H E I hf st U;subst S Y R;obtain⟨xs,x,F,hx⟩:=U;obtain⟨its,rv,p,hz⟩:=I.list F;obtain⟨u,hu,ru⟩:=rv.get hx;obtain⟨J,f1,f2,L,M,O⟩:=hf y `s
  refine wpAny_pyNext_list_item st p.isList (by simpa using hu) λh' B sb=>?_
  have I1:=I.turned (t':=s.toks) (λb o j e=>(sb.2 b j).trans e) J f1 L M O;obtain⟨o,e,c,d⟩:=id B;exact{u,rfl,tP e c d `d {x,H,I1,ru,{rfl,λys hy=>by rw[I.list_inj hy F];exact hx},B,λb j=>(hf b j).1}}
 done:=by
  intro X S Y R hc i pins s σ H E I hf st U;subst S Y R;obtain⟨xs,F,hx⟩:=U;obtain⟨its,rv,p,hz⟩:=I.list F;obtain⟨J,f1,f2,L,M,O⟩:=hf y `s
  have hl:=rv.length;exact wpAny_pyNext_list_end (I.ok.hd hc) st p.isList `o λh' eb=>{rfl,I.turned (λb o j e=>eb b o j e) J f1 L M O}
 self:=λ_ _ _ _ _ st h=>wpAny_pyIter_listiter st h
def xN {K:Qf}(a y:Addr):Turn P w K tg (L9 K a) [y] y (λi h=>h.IsTupleIter y a i) where
 mem:=`s
 obj:=λi h st b j=>by
  have e:b=y:=by simpa using j
  subst e;obtain⟨o,e,c,d⟩:=st;exact{o,e,λv z=>by rw[d] at z;cases z}
 keep:=λi h h' st k=>st.at λo e=>k y `s o e
 item:=by
  intro X S Y R hc i pins s σ H E I hf st U;subst S Y R;obtain⟨xs,x,F,hx⟩:=U;obtain⟨its,rv,p,hz⟩:=I.tuple F;obtain⟨u,hu,ru⟩:=rv.get hx;obtain⟨J,f1,f2,L,M,O⟩:=hf y `s
  refine wpAny_pyNext_tuple_item st (p) (by simpa using hu) λh' B sb=>?_
  have I1:=I.turned (t':=s.toks) (λb o j e=>(sb.2 b j).trans e) J f1 L M O;obtain⟨o,e,c,d⟩:=id B;exact{u,rfl,tP e c d `d {x,H,I1,ru,{rfl,λys hy=>by rw[I.tuple_inj hy F];exact hx},B,λb j=>(hf b j).1}}
 done:=by
  intro X S Y R hc i pins s σ H E I hf st U;subst S Y R;obtain⟨xs,F,hx⟩:=U;obtain⟨its,rv,p,hz⟩:=I.tuple F;obtain⟨J,f1,f2,L,M,O⟩:=hf y `s
  have hl:=rv.length;exact wpAny_pyNext_tuple_end (I.ok.hd hc) st (p) `o λh' eb=>{rfl,I.turned (λb o j e=>eb b o j e) J f1 L M O}
 self:=λ_ _ _ _ _ st h=>wpAny_pyIter_tupleiter st h
def xO {K:Qf}(j:Addr)(lo:Int)(n:Nat):Turn P w K tg (FV lo n) [j] j (λi h=>IsRangeIter h j (lo+(i:Nat)*1) ((n:Int)-(i:Nat)) 1) where
 mem:=`s
 obj:=λi h st b y=>by
  have e:b=j:=by simpa using y
  subst e;exact{_,st,λv z=>by
   have z':=z;cases z'}
 keep:=λi h h' st k=>k j `s _ st
 item:=by
  intro X R Y O S i pins s σ H E I hf st U;subst R Y O;obtain⟨F,f1,f2,J,L,M⟩:=hf j `s
  have W:=Walks.range (prog:=X.prog) (w:=X.w) (I.ok.hd S) j lo 1 n;refine W.item i s _ _ U st λv h' tk hv B kk=>?_;obtain⟨t,rfl⟩:=hv;have I1:Inv X pins σ H {s with heap:=h',toks:=tk}:=I.turned (λb o y e=>kk b o (by simpa using y) e) F f1 J L M
  refine{_,rfl,tP B rfl rfl `d {.int (lo+i),H,I1,{t,?_},⟨rfl,rfl⟩,B,λb y=>(hf b y).1}}
  rw[Int.mul_one]
 done:=by
  intro X R Y O S i pins s σ H E I hf st U;subst R Y O;obtain⟨F,f1,f2,J,L,M⟩:=hf j `s
  exact wpAny_pyNext_range_end (I.ok.hd S) st (by have:n<=i:=U;omega) λh' eb=>{rfl,I.turned (λb o y e=>eb b o y e) F f1 J L M}
 self:=λ_ _ _ _ _ st h=>wpAny_pyIter_rangeiter st h
section
variable{X:Cx}{tg:Expr}
def Nh (K:Qf)(tl:TE):TI:=λσ H R=>tl σ H λx H1=>∃a,x=.ref a/\(∃xs,dC K H1 a xs)/\R (Mb K a) H1
def Pp (K:Qf)(tl:TE):TI:=λσ H R=>tl σ H λx H1=>∃a,x=.ref a/\(∃xs,d9 K H1 a xs)/\R (L9 K a) H1
def Hd (hl:PE X l tl):PI X tg l (Nh X.K tl):=by
 intro pins s σ H R I h;refine aY (hl pins s σ H _ I h) ?_;rintro v s1 ⟨x,H1,j,r1,F⟩;obtain⟨a,e,⟨xs,z⟩,q⟩:=F;subst e;cases r1;obtain⟨B,L,p,J⟩:=j.list z;refine wpAny_pyIter_list p.isList ?_;refine{s1.heap.objs.size,[s1.heap.objs.size],_,_,H1,rfl,j.kept λb o e=>Qi _ e,zE a _,{_,QD _ rfl,rfl,rfl},λb y=>?_,q};have e:b=s1.heap.objs.size:=by simpa using y
 subst e;exact j.fpOk (Qo _) (j.hok.fresh (Qo _))
def JV (hl:PE X l tl):PI X tg l (Pp X.K tl):=by
 intro pins s σ H R I h;refine aY (hl pins s σ H _ I h) ?_;rintro v s1 ⟨x,H1,j,r1,F⟩;obtain⟨a,e,⟨xs,z⟩,q⟩:=F;subst e;cases r1;obtain⟨B,L,p,J⟩:=j.tuple z;refine wpAny_pyIter_tuple (p) ?_;refine{s1.heap.objs.size,[s1.heap.objs.size],_,_,H1,rfl,j.kept λb o e=>Qi _ e,xN a _,{_,QD _ rfl,rfl,rfl},λb y=>?_,q};have e:b=s1.heap.objs.size:=by simpa using y
 subst e;exact j.fpOk (Qo _) (j.hok.fresh (Qo _))
def CS {lo hi:Int}(I:Inv X pins σ H s)(h1:-(2^62)<=lo)(h2:lo<2^62)(h3:-(2^62)<=hi)(h4:hi<2^62)
 (q:R (FV lo (hi-lo).toNat) H):wpAny (model X.prog X.w) X.A (pyIter (.ref s.heap.objs.size)) (L5 X pins σ tg R) E {s with heap:=s.heap.push {cls:=.type "range",data:=.fields #[.int lo t,.int hi u,.int 1 v]},toks:=tk}:=by
 refine wpAny_pyIter_range (IsRange.new ..) (small_one h1 h2 h3 h4) ?_;have j:Inv X pins σ H {s with heap:=s.heap.push {cls:=.type "range",data:=.fields #[.int lo t,.int hi u,.int 1 v]},toks:=tk}:=I.kept λb o e=>Qi _ e
 refine{(s.heap.push {cls:=.type "range",data:=.fields #[.int lo t,.int hi u,.int 1 v]}).objs.size,[(s.heap.push {cls:=.type "range",data:=.fields #[.int lo t,.int hi u,.int 1 v]}).objs.size],_,_,H,rfl,
  j.kept λb o e=>Qi _ e,xO _ lo (hi-lo).toNat,?_,λb y=>?_,q}
 ·have e1:lo+((0:Nat):Int)*1=lo:=`s
  have e2:(((hi-lo).toNat:Nat):Int)-((0:Nat):Int)=Builtin.Range.rangeSize lo hi 1:=by rw[rangeSize_one];split<;>omega
  rw[e1,e2];exact QD _ rfl
 ·have e:b=(s.heap.push {cls:=.type "range",data:=.fields #[.int lo t,.int hi u,.int 1 v]}).objs.size:=by simpa using y
  subst e;exact j.fpOk (Qo _) (j.hok.fresh (Qo _))
def Ng (ta:TA):TI:=λσ H R=>ta σ H λy H1=>∃j:Int,y=[.int j]/\-(2^62)<=j/\j<2^62/\R (FV 0 j.toNat) H1
def Aw {ta:TA}{p pos:Pos}(F:Gl X "range")(hm:X.mg "range"=none)(B:PA X [a] ta)(hs:starEach [a] X.env=[(false,eval a X.env)]:=by rfl):PI X tg (.Call (.Name "range" p) [a] [] pos) (Ng ta):=by
 intro pins s σ H R I h;refine Call_ (iq I F hm boot_range (Ro (aY (B pos pins s σ H _ I h) λM s1 ⟨O,H1,z,r1,y⟩=>?_) hs rfl));obtain⟨j,e,y,J,q⟩:=y;subst e;cases r1 with
 | cons r L=>
   cases L;obtain⟨t,rfl⟩:=r;exact call_range_1 (CS z `a `a y J (by simpa using q))
def OK (wi:TI)(g:TG)(tb:TS):TS:=λD σ H=>wi σ H λJ H1=>∃W:Nat->Nat->St->Hp->Prop,(∃m,W 0 m σ H1)/\∀i m σ H,W i m σ H->
 (J.stop i H/\D.nx σ H)\/(J.go i H/\∃N:St->Hp->Prop,(∀σ' H',N σ' H'->∃m',m'<m/\W (i+1) m' σ' H')/\∀x H',J.yld i H x H'->g x σ H' λσ2 H2=>tb {D with nx:=N,ct:=N,bk:=D.nx} σ2 H2)
noncomputable def pV (j:List Addr)(h:Heap):List (Addr×Obj):=j.filterMap λb=>(h.get? b).map λo=>(b,o)
def jF (j:b∈fp)(e:h.get? b=some o):(b,o)∈pV fp h:=List.mem_filterMap.mpr {b,j,by rw[e];rfl}
def AG (z:p∈pV fp h):p.1∈fp/\h.get? p.1=some p.2:=by
 obtain⟨b,y,e⟩:=List.mem_filterMap.mp z;cases q:h.get? b with
 |none=>rw[q] at e;cases e
 | some o=>
   rw[q] at e;have j:=Qp e;subst j;exact⟨y,q⟩
def Inv.pinned (I:Inv X pins σ H s)(hf:∀b∈y,gA X pins H b)(ho:∀b∈y,∃o,s.heap.get? b=some o/\∀v,o.data≠.cell v):Inv X (pins++pV y s.heap) σ H s:=
 I.pins_of λp L=>(QM.mp L).elim (λz=>I.pin p (Q2 _ z)) λz=>by
  obtain⟨B,e⟩:=AG z;obtain⟨F,f1,J,_⟩:=hf p.1 B;obtain⟨o,j,d⟩:=ho p.1 B;rw[e] at j;cases j;exact⟨e,F,f1,J,d⟩
def Inv.unpinned (I:Inv X (pins++pl) σ H s):Inv X pins σ H s:=I.pins_of λp j=>I.pin p (Q2 _ (RA _ j))
def JT (hp:PassesOwn (model X.prog X.w) X.A X.env X.xe)(hc:X.calm=true)(hi:PI X tg iter wi)(hg:PG X tg g)(F:mr X body tb)
 (hs:∀x,foldedSetIterable iter X.env x=pure x:=by intro _;rfl):PS X (.For tg iter body [] pos) (OK wi g tb):=by
 intro pins s σ H D I h;refine wpAny_For (aY (hi pins s σ H _ I h) λv s1 h1=>aY h1 λitv s2 h2=>?_) hs;obtain⟨it,U,tn,J,H2,e,I2,T,st2,f2,W,⟨m0,w0⟩,turn⟩:=h2;subst e;have L:∀{H':Hp},(∀b∈U,H' b=none)->∀b∈U,gA X pins H' b:=λhn b F=>{hn b F,(f2 b F).2};refine codeAny_forLoop_any (λn s'=>∃i M H',Inv X pins M H' s'/\tn i s'.heap/\(∀b∈U,H' b=none)/\W i n M H') ?_ m0 {0,σ,H2,I2,st2,λb F=>(f2 b F).1,w0};rintro n s3 ⟨i,O,H3,I3,st3,Y,w3⟩;rcases turn i n O H3 w3 with⟨stop,qn⟩|⟨go,N,hN,step⟩
 ·refine wpAny_passesOwn hp (aY (T.done X rfl rfl rfl hc i pins s3 O H3 X.xe I3 (L Y) st3 stop) λr s4 ⟨hr,I4⟩=>?_);subst hr;exact wpAny_execs_nil ⟨O,H3,I4,qn⟩
 ·refine wpAny_passesOwn hp (aY (T.item X rfl rfl rfl hc i pins s3 O H3 X.xe I3 (L Y) st3 go) λr s4 ⟨u,hr,h4⟩=>?_);subst hr;refine wpAny_passesOwn hp (aY h4 λ_ s5 ⟨x,H5,I5,r5,y5,S,fr5⟩=>?_);have I5':=I5.pinned (L fr5) (T.obj _ _ S);refine wpAny_passesOwn hp (aY (hg _ s5 O H5 x u _ I5' r5 (step x H5 y5)) λ_ s6 ⟨σ6,H6,I6,q6⟩=>?_);refine wpAny_passesOwn hp (aY (F _ s6 σ6 H6 _ I6 q6) λf s7 R=>?_);have B:∀{j:St}{y:Hp},Inv X (pins++pV U s5.heap) j y s7->N j y->∃m,m<n/\∃i M H',Inv X pins M H' s7/\tn i s7.heap/\(∀b∈U,H' b=none)/\W i m M H':=λ{j y} z n7=>by
   obtain⟨m',hm,w7⟩:=hN j y n7;refine{m',hm,i+1,j,y,z.unpinned,T.keep _ _ _ S λb F o e=>(z.pin (b,o) (Q2 _ (Q2 _ (jF F e)))).1,λb F=>?_,w7};obtain⟨o,e,d⟩:=T.obj _ _ S b F;exact(z.pin (b,o) (Q2 _ (Q2 _ (jF F e)))).2.1
  cases f with
  |next=>obtain⟨j,y,z,n7⟩:=R;exact B z n7
  |cont=>obtain⟨j,y,z,n7⟩:=R;exact B z n7
  |brk=>obtain⟨j,y,z,R⟩:=R;exact⟨j,y,z.unpinned,R⟩
  |ret v=>obtain⟨x7,j,y,z,r7,R⟩:=R;exact⟨x7,j,y,z.unpinned,r7,R⟩
end
abbrev R2:=V->V->Hp->VK->Prop
def bU (X:Cx)(f:Qj->Qj->Sem Qj)(r:R2):Prop:=
 ∀(pins:List (Addr×Obj)) (s:Qn) (σ:St) (H:Hp) (x y:V) (v u:Qj) (Q:VK),Inv X pins σ H s->RelV x v->RelV y u->r x y H Q->
  wpAny (model X.prog X.w) X.A (f v u) (EP X pins σ Q) X.xe s
def LZ (X:Cx)(f:Qj->Sem Qj)(r:V->Hp->VK->Prop):Prop:=
 ∀(pins:List (Addr×Obj)) (s:Qn) (σ:St) (H:Hp) (x:V) (v:Qj) (Q:VK),Inv X pins σ H s->RelV x v->r x H Q->
  wpAny (model X.prog X.w) X.A (f v) (EP X pins σ Q) X.xe s
def c4 (X:Cx)(f:Qj)(r:List V->Hp->VK->Prop):Prop:=
 ∀(pins:List (Addr×Obj)) (s:Qn) (σ:St) (H:Hp) (xs:List V) (j:List Qj) (Q:VK),Inv X pins σ H s->Vals xs j->r xs H Q->
  wpAny (model X.prog X.w) X.A (call f j) (EP X pins σ Q) X.xe s
def PV (X:Cx)(r:V->Hp->(Bool->Hp->Prop)->Prop):Prop:=
 ∀(pins:List (Addr×Obj)) (s:Qn) (σ:St) (H:Hp) (x:V) (v:Qj) (Q:Bool->Hp->Prop),Inv X pins σ H s->RelV x v->r x H Q->
  wpAny (model X.prog X.w) X.A (truthy v) (TP X pins σ Q) X.xe s
def zK (r:R2)(ta tb:TE):TE:=λσ H Q=>ta σ H λx H1=>tb σ H1 λy H2=>r x y H2 Q
def tUn (r:V->Hp->VK->Prop)(ta:TE):TE:=λσ H Q=>ta σ H λx H1=>r x H1 Q
def rI (C:Int->Int->Prop)(g:Int->Int->V):R2:=λx y H Q=>∃i j,x=.int i/\y=.int j/\C i j/\Q (g i j) H
def sg (g:Int->Int->V):R2:=λx y H Q=>∃i j,x=.int i/\y=.int j/\Q (g i j) H
def rU (g:Int->V):V->Hp->VK->Prop:=λx H Q=>∃i,x=.int i/\Q (g i) H
section
variable{X:Cx}{a b c:Expr}{ta tb tc:TE}{pos:Pos}
def D7 (J:PE X a ta)(L:PE X b tb){R:V->V->Hp->Prop}(I:Inv X pins σ H s)
 (h:ta σ H λx H1=>tb σ H1 λy H2=>R x y H2) {f:Qj->Qj->Sem Qj}
 (hf:∀v u s2 x y H2,Inv X pins σ H2 s2->RelV x v->RelV y u->R x y H2->wpAny (model X.prog X.w) X.A (f v u) Q X.xe s2) :
 wpAny (model X.prog X.w) X.A (eval a X.env) (λv j=>wpAny (model X.prog X.w) X.A (eval b X.env) (λu z=>wpAny (model X.prog X.w) X.A (f v u) Q X.xe z) X.xe j) X.xe s:=by
 refine aY (J pins s σ H _ I h) ?_;rintro v s1 ⟨x,H1,B,r1,M⟩;refine aY (L pins s1 σ H1 _ B M) ?_;rintro u s2 ⟨y,H2,F,r2,O⟩;exact hf v u s2 x y H2 F r1 r2 O
def MN {r:R2}(ho:bU X (binaryOp op) r)(z:PE X a ta)(B:PE X b tb):PE X (.BinOp a op b pos) (zK r ta tb):=by
 intro pins s σ H Q I h;exact wpAny_BinOp (D7 z B I h λv u s2 x y H2 j F J q=>ho pins s2 σ H2 x y v u Q j F J q)
def EN (ho:LZ X (unaryOp op) r)(y:PE X a ta):PE X (.UnaryOp op a pos) (tUn r ta):=by
 intro pins s σ H Q I h;exact UnaryOp_ (aY (y pins s σ H _ I h) (by rintro v s1 ⟨x,H1,j,r1,z⟩;exact ho pins s1 σ H1 x v Q j r1 z))
def ES {g:Int->Int->Int}
 (rule:∀(i j:Int) (t u:Tok) (s:Qn) (Q:Qj->Qn->Prop) (E:Qj->Qn->Prop),C i j->Q (.int (g i j) s.toks) {s with toks:=s.toks+1}->wpAny (model X.prog X.w) X.A (f (.int i t) (.int j u)) Q E s) :
 bU X f (rI C λi j=>.int (g i j)):=by
 intro pins s σ H x y v u Q I B F h;obtain⟨i,j,rfl,rfl,z,q⟩:=h;obtain⟨t,rfl⟩:=B;obtain⟨J,rfl⟩:=F;exact rule i j t J s _ _ z {.int (g i j),H,I.tok _,{_,rfl},q}
def Kg {g:Int->Int->Int}
 (rule:∀(i j:Int) (t u:Tok) (s:Qn) (Q:Qj->Qn->Prop) (E:Qj->Qn->Prop),Q (.int (g i j) s.toks) {s with toks:=s.toks+1}->wpAny (model X.prog X.w) X.A (f (.int i t) (.int j u)) Q E s) :
 bU X f (sg λi j=>.int (g i j)):=by
 intro pins s σ H x y v u Q I z B h;obtain⟨i,j,rfl,rfl,q⟩:=h;obtain⟨t,rfl⟩:=z;obtain⟨F,rfl⟩:=B;exact rule i j t F s _ _ {.int (g i j),H,I.tok _,{_,rfl},q}
def yi {g:Int->Int->Bool}
 (rule:∀(i j:Int) (t u:Tok) (s:Qn) (Q:Qj->Qn->Prop) (E:Qj->Qn->Prop),Q (.bool (g i j)) s->wpAny (model X.prog X.w) X.A (f (.int i t) (.int j u)) Q E s) :
 bU X f (sg λi j=>.bl (g i j)):=by
 intro pins s σ H x y v u Q I z B h;obtain⟨i,j,rfl,rfl,q⟩:=h;obtain⟨t,rfl⟩:=z;obtain⟨F,rfl⟩:=B;exact rule i j t F s _ _ {.bl (g i j),H,I,rfl,q}
def Mf (i j:Int):Prop:=0<j/\j<1073741824
def Me (i j:Int):Prop:=0<=j/\j<=1000000/\i.natAbs<2^64
def Eg (i j:Int):Prop:=(-(2^64)<i/\i<2^64)\/(-(2^64)<j/\j<2^64)
def Eg.ok {i j:Int}(h:Eg i j):IntMulOk i j:=by
 rcases h with⟨h1,h2⟩|⟨h1,h2⟩
 ·exact .of_left (intBits_le_64 h1 h2)
 ·exact .of_right (intBits_le_64 h1 h2)
def Kf:bU X (binaryOp .Add) (sg λi j=>.int (i+j)):=Kg λ_ _ _ _ _ _ _ q=>add_int q
def J8:bU X (binaryOp .Sub) (sg λi j=>.int (i-j)):=Kg λ_ _ _ _ _ _ _ q=>sub_int q
def Kb:bU X (binaryOp .Mult) (rI Eg λi j=>.int (i*j)):=ES λ_ _ _ _ _ _ _ y q=>mul_int q y.ok
def Hh:bU X (binaryOp .FloorDiv) (rI Mf λi j=>.int (i / j)):=ES λi j _ _ _ _ _ y q=>by
 have h1:=y.1;have h2:=y.2;exact floordiv_int `a (by rw[Int.fdiv_eq_ediv_of_nonneg i `a];exact q) (.inl (PyProof.noPylong_small `a))
def Kc:bU X (binaryOp .Mod) (rI (λ_ j=>0<j) λi j=>.int (i % j)):=ES λi j _ _ _ _ _ y q=>by
 have h1:=y;exact mod_int' `a (by rw[Int.fmod_eq_emod_of_nonneg i `a];exact q)
def Ka:bU X (binaryOp .Pow) (rI Me λi j=>.int (i^j.toNat)):=ES λ_ _ _ _ _ _ _ y q=>pow_int_small y.1 y.2.1 y.2.2 q
def unI {g:Int->Int}
 (rule:∀(i:Int) (t:Tok) (s:Qn) (Q:Qj->Qn->Prop) (E:Qj->Qn->Prop),Q (.int (g i) s.toks) {s with toks:=s.toks+1}->wpAny (model X.prog X.w) X.A (f (.int i t)) Q E s) :
 LZ X f (rU λi=>.int (g i)):=by
 intro pins s σ H x v Q I j h;obtain⟨i,rfl,q⟩:=h;obtain⟨t,rfl⟩:=j;exact rule i t s _ _ {.int (g i),H,I.tok _,{_,rfl},q}
def zv:LZ X (unaryOp .USub) (rU λi=>.int (-i)):=unI λ_ _ _ _ _ q=>neg_int q
end
noncomputable def Jq:V->V->Bool
 |.non,.non=>true|.non,.int _=>true|.int _,.non=>true|.non,.bl _=>true|.bl _,.non=>true|.non,.str _=>true|.str _,.non=>true
 |.int _,.int _=>true|.bl _,.bl _=>true|.str _,.str _=>true|.byt _,.byt _=>true
 |.int _,.str _=>true|.str _,.int _=>true|.bl _,.str _=>true|.str _,.bl _=>true
 |_,_=>false
def rEq:R2:=λx y H Q=>Jq x y=true/\Q (.bl (decide (x=y))) H
def rNe:R2:=λx y H Q=>Jq x y=true/\Q (.bl (!decide (x=y))) H
def xu {i j:Int}:decide (V.int i=V.int j)=(i==j):=by
 rw[RR];simp
def Bs:decide (V.bl i=V.bl j)=(i==j):=by
 rw[RR];simp
def nR:decide (V.str i=V.str j)=(i==j):=by
 rw[RR];simp
def xv:decide (V.byt i=V.byt j)=(i.toList==j.toList):=by
 rw[RR];cases i;cases j;simp
section
variable{X:Cx}{a b c:Expr}{ta tb tc:TE}{pos:Pos}
def bE (I:Inv X pins σ H s)(q:Q (.bl k) H)(e:k=k'):EP X pins σ Q (.bool k') s:=by
 subst e;exact{.bl k,H,I,rfl,q}
def MX:bU X (compareOp .Eq) rEq:=by
 intro pins s σ H x y v u Q I F z h;obtain⟨hs,q⟩:=h;cases x with
 | non=>
   cases F;cases y with
   |non=>cases z;exact PySem.EqNone.eq_none_none (bE I q `s)
   |bl j=>cases z;exact PySem.EqNone.eq_none_bool (bE I q `s)
   |int j=>obtain⟨B,rfl⟩:=z;exact PySem.EqNone.eq_none_int (bE I q `s)
   |str j=>obtain⟨B,rfl⟩:=z;exact PySem.EqNone.eq_none_str (bE I q `s)
   |_=>exact absurd (hs) QF
 | bl i=>
   cases F;cases y with
   |non=>cases z;exact PySem.EqNone.eq_bool_none (bE I q `s)
   |bl j=>cases z;exact eq_bool (bE I q Bs)
   |str j=>obtain⟨B,rfl⟩:=z;exact PySem.EqMixed.eq_bool_str (bE I q `s)
   |_=>exact absurd (hs) QF
 | int i=>
   obtain⟨t,rfl⟩:=F;cases y with
   |non=>cases z;exact PySem.EqNone.eq_int_none (bE I q `s)
   |int j=>obtain⟨B,rfl⟩:=z;exact eq_int (bE I q xu)
   |str j=>obtain⟨B,rfl⟩:=z;exact PySem.EqMixed.eq_int_str (bE I q `s)
   |_=>exact absurd (hs) QF
 | str i=>
   obtain⟨t,rfl⟩:=F;cases y with
   |non=>cases z;exact PySem.EqNone.eq_str_none (bE I q `s)
   |bl j=>cases z;exact PySem.EqMixed.eq_str_bool (bE I q `s)
   |int j=>obtain⟨B,rfl⟩:=z;exact PySem.EqMixed.eq_str_int (bE I q `s)
   |str j=>obtain⟨B,rfl⟩:=z;exact eq_str (bE I q nR)
   |_=>exact absurd (hs) QF
 | byt i=>
   obtain⟨t,rfl⟩:=F;cases y with
   |byt j=>obtain⟨B,rfl⟩:=z;exact PySem.W.eq_bytes (bE I q xv)
   |_=>exact absurd (hs) QF
 |_=>cases y<;>exact absurd (hs) QF
def MS:bU X (compareOp .NotEq) rNe:=by
 intro pins s σ H x y v u Q I F z h;obtain⟨hs,q⟩:=h;cases x with
 | non=>
   cases F;cases y with
   |non=>cases z;exact PySem.EqNone.ne_none_none (bE I q `s)
   |bl j=>cases z;exact PySem.EqNone.ne_none_bool (bE I q `s)
   |int j=>obtain⟨B,rfl⟩:=z;exact PySem.EqNone.ne_none_int (bE I q `s)
   |str j=>obtain⟨B,rfl⟩:=z;exact PySem.EqNone.ne_none_str (bE I q `s)
   |_=>exact absurd (hs) QF
 | bl i=>
   cases F;cases y with
   |non=>cases z;exact PySem.EqNone.ne_bool_none (bE I q `s)
   |bl j=>cases z;exact ne_bool (bE I q (congrArg not Bs))
   |str j=>obtain⟨B,rfl⟩:=z;exact PySem.EqMixed.ne_bool_str (bE I q `s)
   |_=>exact absurd (hs) QF
 | int i=>
   obtain⟨t,rfl⟩:=F;cases y with
   |non=>cases z;exact PySem.EqNone.ne_int_none (bE I q `s)
   |int j=>obtain⟨B,rfl⟩:=z;exact ne_int (bE I q (congrArg not xu))
   |str j=>obtain⟨B,rfl⟩:=z;exact PySem.EqMixed.ne_int_str (bE I q `s)
   |_=>exact absurd (hs) QF
 | str i=>
   obtain⟨t,rfl⟩:=F;cases y with
   |non=>cases z;exact PySem.EqNone.ne_str_none (bE I q `s)
   |bl j=>cases z;exact PySem.EqMixed.ne_str_bool (bE I q `s)
   |int j=>obtain⟨B,rfl⟩:=z;exact PySem.EqMixed.ne_str_int (bE I q `s)
   |str j=>obtain⟨B,rfl⟩:=z;exact ne_str (bE I q (congrArg not nR))
   |_=>exact absurd (hs) QF
 | byt i=>
   obtain⟨t,rfl⟩:=F;cases y with
   |byt j=>obtain⟨B,rfl⟩:=z;exact PySem.W.ne_bytes (bE I q (congrArg not xv))
   |_=>exact absurd (hs) QF
 |_=>cases y<;>exact absurd (hs) QF
def MT:bU X (compareOp .Lt) (sg λi j=>.bl (decide (i<j))):=yi λ_ _ _ _ _ _ _ q=>lt_int q
def MU:bU X (compareOp .LtE) (sg λi j=>.bl (decide (i<=j))):=yi λ_ _ _ _ _ _ _ q=>le_int q
def MV:bU X (compareOp .Gt) (sg λi j=>.bl (decide (j<i))):=yi λ_ _ _ _ _ _ _ q=>gt_int q
def MW:bU X (compareOp .GtE) (sg λi j=>.bl (decide (j<=i))):=yi λ_ _ _ _ _ _ _ q=>ge_int q
def AE:bU X (compareOp .In) (λx y H Q=>∃i j,x=.str i/\y=.str j/\Q (.bl (!(Builtin.Str.occurrences j i 0 j.length 1).isEmpty)) H):=by
 intro pins s σ H x y v u Q I z B h;obtain⟨i,j,rfl,rfl,q⟩:=h;obtain⟨t,rfl⟩:=z;obtain⟨F,rfl⟩:=B;exact in_str (bE I q rfl)
def Kd:bU X (compareOp .Is) (λx y H Q=>y=.non/\Q (.bl (decide (x=.non))) H):=by
 intro pins s σ H x y v u Q I j z h;obtain⟨rfl,q⟩:=h;cases z;refine is_none_gen (bE I q ?_);cases x<;>first
  |(cases j;rfl)
  |(obtain⟨t,rfl⟩:=j;rfl)
def Hg:bU X (compareOp .IsNot) (λx y H Q=>y=.non/\Q (.bl (!decide (x=.non))) H):=by
 intro pins s σ H x y v u Q I j z h;obtain⟨rfl,q⟩:=h;cases z;refine isnot_none_gen (bE I q ?_);cases x<;>first
  |(cases j;rfl)
  |(obtain⟨t,rfl⟩:=j;rfl)
def uV:bU X (compareOp .NotIn) (λx y H Q=>∃i j,x=.str i/\y=.str j/\Q (.bl (!(!(Builtin.Str.occurrences j i 0 j.length 1).isEmpty))) H):=by
 intro pins s σ H x y v u Q I z B h;obtain⟨i,j,rfl,rfl,q⟩:=h;obtain⟨t,rfl⟩:=z;obtain⟨F,rfl⟩:=B;exact notIn_str (bE I q rfl)
def wR {r:R2}(ho:bU X (compareOp op) r)(z:PE X a ta)(B:PE X b tb)(hm:behindInMarks op b=false):PE X (.Compare a [op] [b] pos) (zK r ta tb):=by
 intro pins s σ H Q I h;exact wpAny_Compare1 (D7 z B I h λv u s2 x y H2 j F J q=>ho pins s2 σ H2 x y v u Q j F J q) hm
def EE (t:TE):TT:=λσ H Q=>t σ H λx H'=>∃k,x=.bl k/\Q k H'
def wL (ho:bU X (compareOp op) r)(L:PE X a ta)(M:PE X b tb)(hm:behindInMarks op b=false):PT X (.Compare a [op] [b] pos) (EE (zK r ta tb)):=by
 intro pins s σ H Q I h;refine wpAny_isTrue_Compare1 (aY (L pins s σ H _ I h) λv s1 ⟨x,H1,B,r1,O⟩=>aY (M pins s1 σ H1 _ B O) λu s2 ⟨y,H2,F,r2,R⟩=>
  aY (ho pins s2 σ H2 x y v u _ F r1 r2 R) λc W ⟨z,j,J,U,k,e,S⟩=>?_) hm
 subst e;cases U;exact tqp ⟨j,J,S⟩
def ui (r r':R2)(ta tb tc:TE):TE:=λσ H Q=>ta σ H λx H1=>tb σ H1 λy H2=>r x y H2 λz j=>∃k,z=.bl k/\
 (if k=true then tc σ j λF B=>r' y F B Q else Q (.bl false) j)
def CY (ho:bU X (compareOp op) r)(j:bU X (compareOp op') r')(S:PE X a ta)(U:PE X b tb)(W:PE X c tc)
 (hm:lastMarks [op,op'] [b,c]=false:=by with_unfolding_all rfl):PE X (.Compare a [op,op'] [b,c] pos) (ui r r' ta tb tc):=by
 intro pins s σ H Q I h;refine Compare_chain (aY (S pins s σ H _ I h) λv s1 ⟨x,H1,M,r1,Y⟩=>chain_link (aY (U pins s1 σ H1 _ M Y) λu s2 ⟨y,H2,O,r2,q2⟩=>
  aY (ho pins s2 σ H2 x y v u _ O r1 r2 q2) λd s3 ⟨z,B,F,r3,k,e,J⟩=>?_)) hm
 subst e;cases r3;refine tqp ?_;cases k with
 |false=>exact ite_ff {.bl false,B,F,rfl,J}
 |true=>exact ite_tt (chain_last (aY (W pins s3 σ B _ F J) (by rintro w' s4 ⟨z',L,R,r4,q4⟩;exact j pins s4 σ L y z' u w' Q R r2 r4 q4)))
def CU (ho:bU X (compareOp op) r)(j:bU X (compareOp op') r')(Y:PE X a ta)(hb:PE X b tb)(hc:PE X c tc)
 (hm:lastMarks [op,op'] [b,c]=false:=by with_unfolding_all rfl):PT X (.Compare a [op,op'] [b,c] pos) (EE (ui r r' ta tb tc)):=by
 intro pins s σ H Q I h;refine isTrue_chain (aY (Y pins s σ H _ I h) λv s1 ⟨x,H1,O,r1,q1⟩=>test_link (aY (hb pins s1 σ H1 _ O q1) λu s2 ⟨y,H2,R,r2,q2⟩=>
  aY (ho pins s2 σ H2 x y v u _ R r1 r2 q2) λd s3 ⟨z,B,F,r3,k,e,J⟩=>?_)) hm
 subst e;cases r3;refine tqp ?_;cases k with
 | false=>
   obtain⟨k',W,q'⟩:=J;cases W;exact ite_ff ⟨B,F,q'⟩
 | true=>
   refine ite_tt (test_last (aY (hc pins s3 σ B _ F J) λw' s4 ⟨z',L,S,r4,q4⟩=>aY (j pins s4 σ L y z' u w' _ S r2 r4 q4) λd' s5 ⟨z2,M,U,r5,k2,e2,q5⟩=>?_));subst e2;cases r5;exact tqp ⟨M,U,q5⟩
def Eb (K:Qf)(x:V)(H:Hp)(k:Bool):Prop:=
 match x with
 |.non=>k=false
 |.bl b=>k=b
 |.int i=>k=(i != 0)
 |.str y=>y.length<=sizeLine/\k=((y.length:Int) != 0)
 |.byt y=>y.size<=sizeLine/\k=((y.size:Int) != 0)
 |.ref p=>(∃xs,dC K H p xs/\k=!xs.isEmpty)\/(∃xs,d9 K H p xs/\k=!xs.isEmpty)\/∃kvs,H p=some (.dK kvs)/\k=!kvs.isEmpty
 |_=>False
def yF {κ:Type}{kvs:List (κ×V)}{vs:List (κ×Qj)}(r:KV kvs vs):(!vs.isEmpty)=!kvs.isEmpty:=by
 cases r<;>rfl
def qk {xs:List V}{its:List Qj}(r:Vals xs its):(!its.toArray.isEmpty)=!xs.isEmpty:=by
 cases r<;>simp
def j7:(sizeLine:Nat)<2^63:=by rw[sizeLine_eq];decide
def Jc:PV X (λx H Q=>∃k,Eb X.K x H k/\Q k H):=by
 intro pins s σ H x v Q I rx h;obtain⟨k,e,q⟩:=h;have hl:=j7;have hs:=sizeLine_eq;cases x with
 | non=>
   cases rx;have e':=e;subst e';exact truthy_none ⟨H,I,q⟩
 | bl b=>
   cases rx;have e':=e;subst e';exact tqp ⟨H,I,q⟩
 | int i=>
   obtain⟨t,rfl⟩:=rx;have e':=e;subst e';exact PySem.P.truthy_int ⟨H,I,q⟩
 | str y=>
   obtain⟨t,rfl⟩:=rx;obtain⟨hy,e'⟩:y.length<=sizeLine/\k=((y.length:Int) != 0):=e;subst e';exact PySem.P.truthy_str `a {H,I.tok _,q}
 | byt y=>
   obtain⟨t,rfl⟩:=rx;obtain⟨hy,e'⟩:y.size<=sizeLine/\k=((y.size:Int) != 0):=e;subst e';exact PySem.W.truthy_bytes `a {H,I.tok _,q}
 | ref p=>
   cases rx;have e':=e;rcases e' with⟨xs,hx,e'⟩|⟨xs,hx,e'⟩|⟨kvs,hx,e'⟩
   ·subst e';obtain⟨its,r,pl,hz⟩:=I.list hx;have hlen:=r.length;exact wpAny_truthy_list pl.isList (by simp only[Qw];omega) {H,I.tok _,by rw[qk r];exact q}
   ·subst e';obtain⟨its,r,pl,hz⟩:=I.tuple hx;have hlen:=r.length;exact truthy_tuple pl (by simp only[Qw];omega) {H,I.tok _,by rw[qk r];exact q}
   ·subst e';obtain⟨hz,hS,vs,r,m⟩:kvs.length<=sizeLine/\(p==sysModules)=false/\∃vs,KV kvs vs/\s.heap.DictOf (lg X.prog X.w) p vs:=I.hok p _ hx;have hlen:=Paired.length r;exact wpAny_truthy_dict hS m `a {H,I.tok _,by rw[yF r];exact q}
 |_=>exact(e).elim
def CT (y:PE X a ta)(he:∀whole,isTrue a X.env whole=(do let v <- whole;standAt a.pos;holding [v] (truthy v))) :
 PT X a (λσ H Q=>ta σ H λx H'=>∃k,Eb X.K x H' k/\Q k H'):=by
 intro pins s σ H Q I h;exact isTrue_plain (aY (y pins s σ H _ I h) (by rintro v s1 ⟨x,H1,j,r1,z⟩;exact Jc pins s1 σ H1 x v Q j r1 z)) (he _)
def yh:bU X (binaryOp .Add) (λx y H Q=>∃i j,x=.str i/\y=.str j/\i.length+j.length<=sizeLine/\Q (.str (i++j)) H):=by
 intro pins s σ H x y v u Q I B F h;obtain⟨i,j,rfl,rfl,z,q⟩:=h;obtain⟨t,rfl⟩:=B;obtain⟨J,rfl⟩:=F;exact add_str (λJ tk=>{.str (i++j),H,I.tok _,{_,rfl},q}) z
def vals1 (r:Vals [x] us):∃u,us=[u]/\RelV x u:=by
 cases r with
 |cons r1 r2=>cases r2;exact{_,rfl,r1}
def vals2 (r:Vals [x,y] us):∃u j,us=[u,j]/\RelV x u/\RelV y j:=by
 cases r with
 | cons r1 r2=>
   cases r2 with
   |cons z B=>cases B;exact{_,_,rfl,r1,z}
end
structure Ee (h:Heap) (x dx C:Addr) (mA:Str->Option Qj):Prop where
 obj:h.get? x=some (PySem.W.instObj C dx)
 ns:h.Ns1 dx mA
 ne:dx≠x
set_option tactic.hygienic true in
def sq {h:Heap}(n:h.Ns1 dx mA):∃od,h.get? dx=some od/\∀name,PySem.W.lookIn name od=some (mA name):=by
 obtain⟨o,es,I,ho,hd,hk,_,hm⟩:=n;refine{o,ho,λname=>?_};have e:=hm name;unfold nsFind findBy at e;rw[<- Array.find?_toList] at e;unfold PySem.W.lookIn;rw[hd];dsimp only;split
 ·rename_i y q;rw[q] at e;exact congrArg some e
 ·rename_i q;rw[q] at e;have a:es.toList.any (·.refKey)=false:=by
   rw[List.any_eq_false];intro y F;obtain⟨z,t,j⟩:=hk y (Array.mem_toList_iff.mp F);simp[DictEntry.refKey,j]
  have B:¬ es.toList.any (·.refKey)=true:=by rw[a];exact QF
  rw[if_neg B];exact congrArg some e
def Ee.look (I:Ee h x dx C mA):∃od,RO h x (PySem.W.instObj C dx) C (some od)/\∀name,PySem.W.lookIn name od=some (mA name):=
 let⟨od,ho,hl⟩:=sq I.ns
 {od,⟨I.obj,rfl,rfl,ho⟩,hl}
def rK.some_of (r:rK (some v) o):∃u,o=some u/\RelV v u:=by
 cases o with
 |none=>exact(r).elim
 |some u=>exact⟨u,rfl,r⟩
section
variable{P:Q0}{w:QX}{H H':Hp}{h h':Heap}{a C dx:Addr}{fs fs':List (Str×V)}
def HC (hok:eU P w H h)(e:H a=some (.ins C dx fs)):∃mA,Ee h a dx C mA/\(∀f,rK (fs.lookup f) (mA f))/\PySem.Within mA (fs.map (·.1))/\fs.length<=1000/\H dx=some (.own a):=by
 obtain⟨d,z,ne,ob,mA,n,r,q⟩:=(hok a _ e);exact{mA,⟨ob,n,ne⟩,r,q,z,d}
end
structure xJ (K:Qf) (C:Addr):Prop where
 pg:PySem.W.plainGet K C Str.empty=true
 hd:PySem.W.hasDictIn K C=true
 po:PySem.W.plainOver K C=true
 sa:PySem.W.findIn K (.ref C) "__setattr__"=some (some (.builtin "object.__setattr__"))
def xJ.get {K:Qf}(c:xJ K C)(f:Str):PySem.W.plainGet K C f=true:=c.pg
def L7 (K:Qf)(C:Addr)(f:Str):Prop:=PySem.W.findIn K (.ref C) f=some none
structure Meth (K:Qf) (C:Addr) (m:Str) (f:Addr):Prop where
 at_:PySem.W.findIn K (.ref C) m=some (some (.ref f))
 fn:PySem.W.isFn K (.ref f)=true
 kp:PySem.W.keepIn K (.ref f)=true
section
variable{X:Cx}{pins:List (Addr×Obj)}{σ:St}{H:Hp}{s:Qn}{a C dx:Addr}{fs:List (Str×V)}{f:Str}{v:V}{A:Rz}{E:Qj->Qn->Prop}
def Iq (y:attributeBase e f env (eval e env)=eval e env)
 (h:wpAny (model prog w) A (eval e env) (λo j=>wpAny (model prog w) A (getAttr o f true) Q E j) E s):wpAny (model prog w) A (eval (.Attribute e f pos) env) Q E s:=
 Attribute_any_ h (by rw[arm_eval_Attribute,y])
end
section
variable{X:Cx}{pins:List (Addr×Obj)}{σ:St}{H:Hp}{s:Qn}{A:Rz}{E:Qj->Qn->Prop}{Q:Qj->Qn->Prop}{c:Qj}{b:Bool}
inductive jB (K:Qf) (H:Hp):V->Qj->Prop where
 |non:jB K H .non (.type "NoneType")
 |bl (x:Bool):jB K H (.bl x) (.type "bool")
 |int (i:Int):jB K H (.int i) (.type "int")
 |str (x:Str):jB K H (.str x) (.type "str")
 |flt (x:UInt64):jB K H (.flt x) (.type "float")
 |lst {a:Addr}{xs:List V} (e:H a=some (.lst xs)):jB K H (.ref a) (.type "list")
 |frz {a:Addr}{o:Obj}{xs:List V} (e:H a=some (.frz o (.lst xs))):jB K H (.ref a) (.type "list")
 |tup {a:Addr}{xs:List V} (e:H a=some (.tup xs)):jB K H (.ref a) (.type "tuple")
 |dK {a:Addr}{kvs:List (Key×V)} (e:H a=some (.dK kvs)):jB K H (.ref a) (.type "dict")
 |dT {a:Addr}{kvs:List (List Key×V)} (e:H a=some (.dT kvs)):jB K H (.ref a) (.type "dict")
 |ins {a C dx:Addr}{fs:List (Str×V)} (e:H a=some (.ins C dx fs)) (cl:xJ K C) (ha:PySem.W.findIn K (.ref C) "__class__"=some (some (.builtin "object.__class__")))
  (hn:PySem.W.specialIn K (.builtin "object.__class__") "__get__"=some (some (.builtin "getset_descriptor.__get__"))) (htk:PySem.W.takesIn K (.builtin "object.__class__")=some true)
  (hm:PySem.W.mroIn K C (.type "object")=some true):jB K H (.ref a) (.ref C)
def kD (I:Inv X pins σ H s)(B:RelV x u)(ty:jB X.K H x t)(e:PySem.W.kitOne X.K t c=some b)(h:∀tk,Q (.bool b) {s with toks:=tk}) :
 wpAny (model X.prog X.w) A (call (.builtin "isinstance") [u,c]) Q E s:=by
 cases ty with
 |non=>cases (B);exact Rf PySem.W.kitx_none I.kIn True.intro e (λz=>nomatch z) h
 |bl y=>cases (B);exact Rf PySem.W.kitx_bool I.kIn True.intro e (λz=>nomatch z) h
 |int i=>obtain⟨t,q⟩:=(B);cases q;exact Rf PySem.W.kitx_int I.kIn True.intro e (λz=>nomatch z) h
 |str y=>obtain⟨t,q⟩:=(B);cases q;exact Rf PySem.W.kitx_str I.kIn True.intro e (λz=>nomatch z) h
 |flt y=>obtain⟨t,q⟩:=(B);cases q;exact Rf PySem.W.kitx_float I.kIn True.intro e (λz=>nomatch z) h
 | @lst a xs j=>
   cases (B);obtain⟨_,_,n,_,h1⟩:=(I.hok a _ j);exact Rf PySem.W.kitx_list I.kIn {_,h1,rfl} e (λz=>nomatch z) h
 | @frz a ob xs j=>
   cases (B);obtain⟨_,_,_,n,_,h1⟩:=(I.hok a _ j);exact Rf PySem.W.kitx_list I.kIn {_,h1,rfl} e (λz=>nomatch z) h
 | @tup a xs j=>
   cases (B);obtain⟨_,_,_,p⟩:=(I.hok a _ j);obtain⟨o,h1,h2,_⟩:=p;exact Rf PySem.W.kitx_tuple I.kIn ⟨o,h1,h2⟩ e (λz=>nomatch z) h
 | @dK a L j=>
   cases (B);obtain⟨_,_,S,_,p⟩:=(I.hok a _ j);obtain⟨o,es,M,h1,h2,_⟩:=p;exact Rf PySem.W.kitx_dict I.kIn ⟨o,h1,h2.1⟩ e (λz=>nomatch z) h
 | @dT a L j=>
   cases (B);obtain⟨_,_,xs,_,o,es,M,h1,h2,_⟩:=(I.hok a _ j);exact Rf PySem.W.kitx_dict I.kIn ⟨o,h1,h2.1⟩ e (λz=>nomatch z) h
 | @ins a C dx fs j cl R hn F hm=>
   cases (B);obtain⟨mA,O,_⟩:=HC I.hok j;obtain⟨od,J,_⟩:=O.look;exact Rf (PySem.W.kitx_own (cl.get _) cl.hd R hn F hm) I.kIn J e (λz=>nomatch z) h
end
structure cF (k:Nat) (A:Rz):Prop where
 hd:A.handled=none
 dp:A.depth+3*k+5<recursionLimit
 un:A.units+16*k+200<cLine
 gd:A.guards=some []
def cF.mono (r:cF k A)(h:j<=k):cF j A:={r.hd,by have:=r.dp;omega,by have:=r.un;omega,r.gd}
def cF.deeper (r:cF (k+1) A)(env:Env):cF k (A.deeper env):=
 {r.hd,by have:=r.dp;show A.depth+1+3*k+5<_;omega,by have:=r.un;show A.units+3+16*k+200<_;omega,r.gd}
def yt {A:Rz}:(A.under (.builtin "type.__call__" {.ref C::us,kw})).depth=A.depth+1:=by
 first|rfl|simp[Around.under,Code.weight,Code.isCreation,Code.isGuard,Code.isCaller,Code.frames,Code.isFrame,guardIds]
def yr {A:Rz}:(A.under (.builtin "type.__call__" {.ref C::us,kw})).units=A.units+1:=by
 first|rfl|simp[Around.under,Code.cUnits,Code.frames,Code.isFrame]
def cF.make (r:cF (k+1) A)(C:Addr)(us:List Qj)(j:List (Str×Qj)):cF k (A.under (.builtin "type.__call__" {.ref C::us,j})):=
 {r.hd,by have:=r.dp;rw[yt];omega,by have:=r.un;rw[yr];omega,r.gd}
def cF.depth (r:cF k A):A.depth<recursionLimit:=by have:=r.dp;omega
def cF.units (r:cF k A):A.units+64<cLine:=by have:=r.un;omega
def OG:TA:=λ_ H Q=>Q [] H
def Mr (ta:TE)(j:TA):TA:=λσ H Q=>ta σ H λx H1=>j σ H1 λxs H2=>Q (x::xs) H2
section
variable{X:Cx}{e:Expr}{es:List Expr}{te:TE}{t:TA}{pos:Pos}
def eA:PA X [] OG:=λ_ _ _ _ H Q I h=>Calls.spliced_nil {[],H,I,.nil,h}
def bS (z:PE X e te)(hr:PA X es t)(hs:starEach (e::es) X.env=(false,eval e X.env)::starEach es X.env:=by rfl):PA X (e::es) (Mr te t):=by
 intro pos pins s σ H Q I h;rw[hs];refine Calls.spliced_cons (aY (z pins s σ H _ I h) λu s1 ⟨x,H1,j,r1,B⟩=>?_);exact aY (hr pos pins s1 σ H1 _ j B) (by rintro J s2 ⟨xs,H2,y,r2,F⟩;exact{x::xs,H2,y,.cons r1 r2,F})
def OB (t:TA):TE:=λσ H Q=>t σ H λxs H1=>xs.length<=sizeLine/\∀p,H1 p=none->Q (.ref p) (upd H1 p (.tup xs))
def OH (t:TA):TE:=λσ H Q=>t σ H λxs H1=>xs.length<=sizeLine/\∀p,H1 p=none->Q (.ref p) (upd H1 p (.lst xs))
def JY {x1}(h:PA X es t):PE X (.Tuple es x1 pos) (OB t):=by
 intro pins s σ H Q I y;refine wpAny_Tuple_spliced (aY (h pos pins s σ H _ I y) λB s1 ⟨xs,H1,j,r,z,q⟩=>{by rw[<- r.length];exact z,?_})
 have hf:=j.hok.fresh (Qo _);refine{.ref s1.heap.objs.size,upd H1 s1.heap.objs.size (.tup xs),j.laid (λb u e=>Qi _ e) (Qo _) ?_,rfl,q _ hf};exact{z,B,r,{_,QD _ rfl,rfl,_,rfl}}
def J4 (h:PA X es t):PE X (.List es pos) (OH t):=by
 intro pins s σ H Q I y;refine wpAny_List_spliced (aY (h pos pins s σ H _ I y) λB s1 ⟨xs,H1,j,r,z,q⟩=>{by rw[<- r.length];exact z,?_})
 have hf:=j.hok.fresh (Qo _);refine{.ref s1.heap.objs.size,upd H1 s1.heap.objs.size (.lst xs),j.laid (λb u e=>Qi _ e) (Qo _) ?_,rfl,q _ hf};exact{z,B,0,r,QD _ rfl}
end
abbrev Sp:=List V->Hp->VK->XK->Prop
abbrev v7:=List Env->Hp->Qn->XK->Qj->Qn->Prop
structure pD (P:Q0) (w:QX) (K:Qf) (mg:Str->Option Qj) (base:Heap) (A:Rz) (outer:List Env) (s:Qn) (H:Hp):Prop where
 frames:A.frames=some outer
 mod:Mod K mg base
 bs:∀b o,base.get? b=some o->s.heap.get? b=some o/\H b=none
 bsz:base.objs.size<=s.heap.objs.size
 funs:s.heap.FunFrames base outer
 frf:∀b∈gF outer,H b=none
 hok:eU P w H s.heap
 bare:AllBare s.gens
def CE (outer:List Env)(P:Q0)(w:QX)(H:Hp)(s:Qn)(Q:VK)(u:Qj)(s':Qn):Prop:=
 ∃v H',s'.os=s.os/\AllBare s'.gens/\Un (gF outer) [] H H' s.heap s'.heap/\eU P w H' s'.heap/\RelV v u/\Q v H'
def CR (CX:v7)(outer:List Env)(P:Q0)(w:QX)(H:Hp)(s:Qn)(Q:VK)(E:XK)(r:Result)(s':Qn):Prop:=
 match r with
 |.ok (.ret u)=>CE outer P w H s Q u s'
 |.ok _=>False
 |.error e=>CX outer H s E e s'
structure kY (P:Q0) (w:QX) (K:Qf) (mg:Str->Option Qj) (base:Heap) (CX:v7) (k:Nat) (f:Addr) (fd:FuncData) (ps:List Str) (sp:Sp):Prop where
 len:∀vs H Q E,sp vs H Q E->vs.length=ps.length
 run:∀(A:Rz) (outer:List Env) (s:Qn) (H:Hp) (args:Args) (us:List Qj) (vs:List V) (Q:VK) (E:XK),cF k A->pD P w K mg base A outer s H->BindsTo s fd args (ps.zip us)->Vals vs us->sp vs H Q E->
  codeAny (model P w) A (.call (.ref f) args) (CR CX outer P w H s Q E) s
def pD.make {K:Qf}(e:pD P w K mg base A outer s H)(C:Addr)(us:List Qj)(j:List (Str×Qj)) :
 pD P w K mg base (A.under (.builtin "type.__call__" {.ref C::us,j})) outer s H:={by first|exact e.frames|(simpa[Around.under,Code.envs,Code.isFrame,pushEnvs] using e.frames),e.mod,e.bs,e.bsz,e.funs,e.frf,e.hok,e.bare}
section
variable{X:Cx}{pins:List (Addr×Obj)}{σ:St}{H:Hp}{s s':Qn}
def Inv.env0 (I:Inv X pins σ H s):pD X.prog X.w X.K X.mg X.base X.A X.stack s H:=
 {I.ok.frames,I.ok.mod,I.bs,Qs I.ok.bsz I.sz,I.stack,I.stkFree,I.hok,I.bare}
def Inv.after (I:Inv X pins σ H s)(h:CE X.stack X.prog X.w H s Q u s'):EP X pins σ Q u s':=by
 obtain⟨v,H',os,bare,un,hok,r,q⟩:=h;obtain⟨y,g,d,t,j⟩:=s';obtain rfl:j=s.os:=os;exact{v,H',I.call un hok bare (λb z=>absurd z `s),r,q}
end
def EG (sp:Sp)(dvs:List V)(E:XK)(t:TA):TE:=λσ H Q=>t σ H λvs H1=>sp (vs++dvs) H1 Q E
def Binds (K:Qf)(fd:FuncData)(ps:List Str)(ds:List Qj):Prop:=
 ∀(s:Qn) (j:List Qj),K.In s.heap->(j++ds).length=ps.length->BindsTo s fd {j,[]} (ps.zip (j++ds))
def Binds.all {K:Qf}(h:∀us:List Qj,us.length=ps.length->bindArgs fd {us,[]}=pure (ps.zip us)):Binds K fd ps []:=λs us _ hl=>by
 rw[List.append_nil] at hl ⊢;exact .of_eq (h us hl)
def Passes (CX:v7)(X:Cx)(E:XK):Prop:=∀(pins:List (Addr×Obj)) (σ:St) (H:Hp) (s:Qn) (e:Qj) (s':Qn),Inv X pins σ H s->CX X.stack H s E e s'->X.xe e s'
section
variable{X:Cx}{CX:v7}{k:Nat}{f C:Addr}{fd:FuncData}{ps:List Str}{sp:Sp}{dvs:List V}{ds:List Qj}{E:XK}{x m:Str}{p pos apos:Pos}{e o:Expr}{es:List Expr}{ta:TE}{t:TA}
def An (F:kY X.prog X.w X.K X.mg X.base CX k f fd ps sp)(hr:cF k X.A)(y:Binds X.K fd ps ds)(hd:Vals dvs ds)(z:Passes CX X E)
 (I:Inv X pins σ H s) (r:Vals vs us) (h:sp (vs++dvs) H Q E):wpAny (model X.prog X.w) X.A (call (.ref f) us) (EP X pins σ Q) X.xe s:=by
 have r2:=r.append hd;have hl:(us++ds).length=ps.length:=by rw[<- r2.length];exact F.len _ _ _ _ h
 refine wpAny_call (codeAny_mono (F.run X.A X.stack s H {us,[]} (us++ds) (vs++dvs) Q E hr I.env0 (y s us I.kIn hl) r2 h) λr s' j=>?_);cases r with
 |error e=>exact z pins σ H s e s' I j
 | ok fl=>
   cases fl with
   |ret u=>exact I.after j
   |next=>exact False.elim j
   |brk=>exact False.elim j
   |cont=>exact False.elim j
def He (F:kY X.prog X.w X.K X.mg X.base CX k f fd ps sp)(hr:cF k X.A)(L:Gl X x)(hm:X.mg x=some (.ref f))(hk:PySem.W.keepIn X.K (.ref f)=true)(J:Binds X.K fd ps ds)(hd:Vals dvs ds)(M:Passes CX X E)
 (B:PA X (e::es) t) (j:(x==("__debug__":Str))=false:=by decide) (he:starEach (e::es) X.env=(false,eval e X.env)::starEach es X.env:=by rfl) (y:(backTo pos (starEach es X.env)).any (·.1)=false:=by rfl) :
 PE X (.Call (.Name x p) (e::es) [] pos) (EG sp dvs E t):=by
 intro pins s σ H Q I h;refine wpAny_Call_Name_kw (gp I L hm ?_ j);refine PySem.W.callWith_K I.ok.mod.kin hk (aY (B pos pins s σ H _ I h) λO s1 ⟨R,H1,z,r,q⟩=>{z.kIn,?_}) he y;exact An F hr J hd M z r q
structure Mk (K:Qf) (C f:Addr):Prop where
 makes:PySem.W.makesIn K C=true
 init:PySem.W.findIn K (.ref C) "__init__"=some (some (.ref f))
 fn:PySem.W.isFn K (.ref f)=true
 kp:PySem.W.keepIn K (.ref C)=true
end
structure hR (N P:List Str) (sc:Scope):Prop where
 kind:sc.kind=.function
 co:sc.isCoroutine=false
 gen:sc.isGenerator=false
 nd:N.Nodup
 pre:N.take P.length=P
 par:∀x∈P,sc.names.lookup x=some .local\/sc.names.lookup x=some .cell
 nofree:∀y∈sc.names,y.2≠.free
noncomputable def sQ {j:Str->Option NameKind}:∀{binds:List (Str×Qj)}{m:Str->Option Qj},(∀v,(x,v)∉binds)->bindL j binds m x=m x
 |[],_,_=>rfl
 | (n,v)::r,m,h=>by
   unfold bindL;rw[sQ λw y=>h w (Qm _ y)];split
   ·have:x≠n:=by rintro rfl;exact h v Qv
    simp[this]
   ·rfl
noncomputable def sS {j:Str->Option NameKind}:∀{binds:List (Str×Qj)}{m:Str->Option Qj},(∀v,(x,v)∉binds)->bindC j binds m x=m x
 |[],_,_=>rfl
 | (n,v)::r,m,h=>by
   unfold bindC;rw[sS λw y=>h w (Qm _ y)];split
   ·rfl
   ·have:x≠n:=by rintro rfl;exact h v Qv
    simp[this]
theorem sR {j:Str->Option NameKind}:∀{P:List Str}{vs:List Qj}{i:Nat}{m:Str->Option Qj},P.Nodup->P[i]?=some x->vs[i]?=some v->j x=some .local->
 bindL j (P.zip vs) m x=some v
 |[],_,_,_,_,h,_,_=>by simp at h
 |_::_,[],_,_,_,_,h,_=>by simp at h
 | p::P,w::vs,0,m,nd,h1,h2,hk=>by
   simp at h1 h2;subst h1;subst h2;show bindL j ((p,w)::P.zip vs) m p=_;unfold bindL;rw[sQ λv y=>(List.nodup_cons.mp nd).1 (List.of_mem_zip y).1,if_pos hk];simp
 | p::P,w::vs,i+1,m,nd,h1,h2,hk=>by
   unfold bindL;exact sR (List.nodup_cons.mp nd).2 (by simpa using h1) (by simpa using h2) hk
theorem sT {j:Str->Option NameKind}:∀{P:List Str}{vs:List Qj}{i:Nat}{m:Str->Option Qj},P.Nodup->P[i]?=some x->vs[i]?=some v->j x≠some .local->
 bindC j (P.zip vs) m x=some v
 |[],_,_,_,_,h,_,_=>by simp at h
 |_::_,[],_,_,_,_,h,_=>by simp at h
 | p::P,w::vs,0,m,nd,h1,h2,hk=>by
   simp at h1 h2;subst h1;subst h2;show bindC j ((p,w)::P.zip vs) m p=_;unfold bindC;rw[sS λv y=>(List.nodup_cons.mp nd).1 (List.of_mem_zip y).1,if_neg hk];simp
 | p::P,w::vs,i+1,m,nd,h1,h2,hk=>by
   unfold bindC;exact sT (List.nodup_cons.mp nd).2 (by simpa using h1) (by simpa using h2) hk
noncomputable def start (N:List Str)(vs:List V):St:=vs.map some++List.replicate (N.length-vs.length) none
noncomputable def fy (CX:v7)(P:Q0)(w:QX)(K:Qf)(mg:Str->Option Qj)(base:Heap)(N:List Str)(qual:Str)(j:Scope)(f:Addr)(cd:Qj)(A:Rz)(outer:List Env)(s:Qn)(H:Hp)(E:XK):Cx where
 prog:=P
 w:=w
 K:=K
 mg:=mg
 base:=base
 A:=A.deeper (envOfC qual j s.heap.objs.size f cd)
 N:=N
 s₀:=s
 H₀:=H
 env:=envOfC qual j s.heap.objs.size f cd
 outer:=outer
 stack:=envOfC qual j s.heap.objs.size f cd::outer
 ex:=[]
 calm:=true
 fn:=λ_=>true
 pn:=[]
 xe:=λe s'=>wpAny (model P w) (A.deeper (envOfC qual j s.heap.objs.size f cd)) (leaving (envOfC qual j s.heap.objs.size f cd) e) (λ_ y=>CX outer H s E e y) (λz y=>CX outer H s E z y) s'
def vI {sc:Scope}(h:sc.names.lookup x=some .cell):∃c,(cellsFrom n sc.names []).lookup x=some c:=by
 have q:=PySem.W.cellsFrom_some sc.names n [] (.inl h);exact Option.isSome_iff_exists.mp q
def A8 {K:Qf}
 (S:hR N ps scope) (hd:A.handled=none) (j:pD P w K mg base A outer s H) (hl:vs.length=ps.length) (r:Vals vs us)
 (x:InCallC s s.heap.objs.size (bindL (envOfC qual scope s.heap.objs.size f cd).kindOf (ps.zip us) λ_=>none) (cellsFrom (s.heap.objs.size+1) scope.names []) (bindC (envOfC qual scope s.heap.objs.size f cd).kindOf (ps.zip us) λ_=>none) s1) :
 Inv (fy CX P w K mg base N qual scope f cd A outer s H E) [] (start N vs) H s1:=by
 have O:ps.length<=N.length:=by have:=congrArg List.length S.pre;rw[Rj] at this;omega
 obtain⟨h1,tk,rfl,hk⟩:=x.done;have F:∀b:Addr,b∉(fy CX P w K mg base N qual scope f cd A outer s H E).ex:=λb z=>absurd (show b∈([]:List Addr) from z) `s
 refine{{j.mod,S.kind,rfl,rfl,Qo _,λy z c h1 h2=>?_,λy B=>?_,λy c _ h=>?_,λ_=>hd,Around.frames_deeper j.frames,.inr ⟨rfl,rfl⟩,λb z=>absurd z (F b),j.bs,j.bsz,λb _ _=>F b,λb z=>absurd z (F b),j.funs,j.frf},
  rfl,j.bare,Un.kept hk,{_,x.toInCall.ns,λi y v h1 h2 h3=>?_},λy c h=>{_,x.cell y c h},j.hok.fresh (Qo _),λy c h=>?_,λp I=>absurd (show p∈([]:List (Addr×Obj)) from I) `s,j.hok.kept hk,?_}
 ·exact name_of_addr x.apart (R9 h1) (R9 h2)
 ·have B:=B;rcases B with B|B
  ·exact vI B
  ·exact absurd rfl (S.nofree _ (R9 B))
 ·exact Nat.le_of_lt (x.above y c (R9 h))
 ·have hi:i<vs.length:=by
   unfold start at h2;by_cases hi:i<vs.length
   ·exact hi
   ·rw[Rq (by simpa using hi)] at h2
    rw[RZ] at h2;split at h2<;>cases h2
  have M:vs[i]?=some v:=by
   unfold start at h2;rw[QR (by simpa using hi),QK] at h2
   cases e:vs[i]? with
   |none=>rw[e] at h2;cases h2
   |some a=>rw[e] at h2;cases h2;rfl
  obtain⟨u,L,R⟩:=r.get M;have I:ps[i]?=some y:=by
   rw[<- S.pre,List.getElem?_take_of_lt `a];exact h1
  have J:ps.Nodup:=by rw[<- S.pre];exact S.nd.sublist (List.take_sublist _ _)
  refine{u,R,?_};rcases S.par y (QG I) with k|k
  ·exact .inl {k,sR J I L k}
  ·obtain⟨c,e⟩:=vI k;refine .inr {.inl k,c,e,?_};have q:=x.cell y c e;rw[sT J I L (by show scope.names.lookup y≠_;rw[k];decide)] at q
   exact q
 ·exact j.hok.fresh (Nat.le_of_lt (x.above y c (R9 h)))
 ·unfold start;show _=N.length;rw[QJ,Qk,List.length_replicate];omega
def Nj {K:Qf}{dV kV L pm j ct oc:Qj}
 (lk:K.lookup f=some {oc,od,.func (PySem.W.fnOf name qual params body scope dV kV L pm an j ct),osl}) (U:PySem.W.codeIn K j qual=true) (S:hR N ps scope)
 (len:∀vs H Q E,sp vs H Q E->vs.length=ps.length)
 (B:∀(A:Rz) (outer:List Env) (s:Qn) (H:Hp) (vs:List V) (Q:VK) (E:XK),cF k (A.deeper (envOfC qual scope s.heap.objs.size f j))->sp vs H Q E->
  ∃t,mr (fy CX P w K mg base N qual scope f j A outer s H E) body t/\t {nx:=λ_ H'=>Q .non H',rt:=Q} (start N vs) H) :
 kY P w K mg base CX (k+1) f (PySem.W.fnOf name qual params body scope dV kV L pm an j ct) ps sp:=by
 refine{len,λA outer s H args us vs Q E hr M hb r R=>?_};have hl:=len _ _ _ _ R;have KX:=M.mod.kin.keeps λb o e=>(M.bs b o e).1;have Y:=M.mod.nolimit.keeps λb o e=>(M.bs b o e).1;have F:∀y∈ps.zip us,scope.names.lookup y.1=some .local\/(scope.names.lookup y.1=some .cell/\((cellsFrom (s.heap.objs.size+1) scope.names []).lookup y.1).isSome=true):=λ⟨n,v⟩ hy=>by
  rcases S.par n (List.of_mem_zip hy).1 with q|q
  ·exact .inl q
  ·exact .inr {q,PySem.W.cellsFrom_some _ _ _ (.inl q)}
 refine codeAny_call_function hr.depth (KX _ _ lk) rfl S.co S.gen rfl (PySem.W.codeRec_of KX U) (hb _ _ _ _ ?_);refine wpAny_newFunctionEnv_cells S.kind F λenv he s1 x=>?_;subst he;refine{Y.keeps x.toInCall.keep,codeAny_func ?_};obtain⟨t,ht,hq⟩:=B A outer s H vs Q E (hr.deeper _) R;have I:Inv (fy CX P w K mg base N qual scope f j A outer s H E) [] (start N vs) H s1:=A8 S hr.hd M hl r x;refine wpAny_mono (ht [] s1 (start N vs) H _ I hq) (λfl s' hs=>?_) λe s' hs=>hs;have O:∀{z:St}{H':Hp}{v:V}{u:Qj},Inv (fy CX P w K mg base N qual scope f j A outer s H E) [] z H' s'->RelV v u->Q v H'->CE outer P w H s Q u s':=
  λ{z H' v u} J rv q=>⟨v,H',J.os,J.bare,J.base,J.hok,rv,q⟩
 cases fl with
 | ret u=>
   obtain⟨v,z,H',J,rv,q⟩:=hs;exact O J rv q
 | next=>
   obtain⟨z,H',J,q⟩:=hs;exact O (v:=V.non) J rfl q
 | brk=>
   obtain⟨_,_,_,q⟩:=hs;exact False.elim q
 | cont=>
   obtain⟨_,_,_,q⟩:=hs;exact False.elim q
section
variable{X:Cx}{x:Str}{p pos:Pos}{e:Expr}{es:List Expr}{t:TA}{id T:String}{r:List V->Hp->VK->Prop}
def N5 (r:List V->Hp->VK->Prop)(t:TA):TE:=λσ H Q=>t σ H λj H1=>r j H1 Q
def iU (F:c4 X (.builtin id) r)(J:Gl X x)(hm:X.mg x=none)(L:bootBuiltins x=some (.builtin id))(B:PA X (e::es) t)(hn:x≠"__name__":=by decide)(j:(x==("__debug__":Str))=false:=by decide)
 (he:starEach (e::es) X.env=(false,eval e X.env)::starEach es X.env:=by rfl) (y:(backTo pos (starEach es X.env)).any (·.1)=false:=by rfl):PE X (.Call (.Name x p) (e::es) [] pos) (N5 r t):=by
 intro pins s σ H Q I h;refine wpAny_Call_Name_kw (iq I J hm L ?_ hn j);exact PyProof.Rows.callWith_builtin1 (aY (B pos pins s σ H _ I h) (by rintro O s1 ⟨R,H1,z,r1,M⟩;exact F pins s1 σ H1 R O Q z r1 M)) he y
def Ay (F:c4 X (.type T) r)(J:Gl X x)(hm:X.mg x=none)(L:bootBuiltins x=some (.type T))(B:PA X (e::es) t)(hn:x≠"__name__":=by decide)(j:(x==("__debug__":Str))=false:=by decide)
 (he:starEach (e::es) X.env=(false,eval e X.env)::starEach es X.env:=by rfl) (y:(backTo pos (starEach es X.env)).any (·.1)=false:=by rfl):PE X (.Call (.Name x p) (e::es) [] pos) (N5 r t):=by
 intro pins s σ H Q I h;refine wpAny_Call_Name_kw (iq I J hm L ?_ hn j);exact Ro (aY (B pos pins s σ H _ I h) (by rintro O s1 ⟨R,H1,z,r1,M⟩;exact F pins s1 σ H1 R O Q z r1 M)) he y
end
end L2
namespace HT
open PySem PyProof.Rows
section
variable{prog:Q0}{w:QX}{A:Rz}{E:Qj->Qn->Prop}{s:Qn}
def Il (W:IsTup s.heap t vs.toArray)(S:IsTup s.heap b ws.toArray)(R:vs≠[])
 (h1:ws=[]->Q (.ref t) s) (h2:ws≠[]->Q (.ref s.heap.objs.size) {s with heap:=s.heap.push {cls:=.type "tuple",data:=.seq (vs++ws).toArray}})
 (hsz:vs.length+ws.length<=sizeLine):wpAny (model prog w) A (binaryOp .Add (.ref t) (.ref b)) Q E s:=by
 obtain⟨⟨cls,O,data,sl⟩,ho,U,n,hd⟩:=id W;obtain⟨⟨M,y,I,z⟩,j,J,n2,L⟩:=id S;subst U hd J L;have e:vs.toArray++ws.toArray=(vs++ws).toArray:=`s
 by_cases B:ws=[]
 ·exact concat_meets {_,ho,rfl} {_,j,rfl} noFill_tuple_add seq_tuple_add PySem.F.slot_tuple_add PySem.F.entry_tuple_add (PySem.F.args_tuple_add_2 _ _)
   (tuple_addW1 t b vs.toArray ws.toArray n n2 O y sl z (by simpa using R) (by simp[B])) {ho,j,h1 B}
 ·refine concat_meets {_,ho,rfl} {_,j,rfl} noFill_tuple_add seq_tuple_add PySem.F.slot_tuple_add PySem.F.entry_tuple_add (PySem.F.args_tuple_add_2 _ _)
   (tuple_addW2 t b vs.toArray ws.toArray n n2 O y sl z (by simpa using R) (by simpa using B) (by rw[Qw,Qw];exact hsz)) {ho,j,?_}
  rw[e];exact h2 B
noncomputable def aM (n d:Nat):Option Int->Nat
 |none=>d
 |some v=>if v<0 then(v+(n:Int)).toNat else min v.toNat n
def xy (v:Int)(n d:Nat):(if v<0 then max (v+(n:Int)) 0 else min v (n:Int))=((aM n d (some v):Nat):Int):=by
 show(if v<0 then max (v+(n:Int)) 0 else min v (n:Int))=(((if v<0 then(v+(n:Int)).toNat else min v.toNat n):Nat):Int);by_cases j:v<0
 ·simp only[if_pos j];omega
 ·simp only[if_neg j];omega
def y4 (lo hi:Option Int)(n:Nat):Builtin.Slice.sliceAdjust lo hi 1 (n:Int)=(((aM n 0 lo:Nat):Int),((aM n n hi:Nat):Int)):=by
 refine Prod.ext ?_ ?_
 ·cases lo with
  |none=>rfl
  |some v=>exact xy v n 0
 ·cases hi with
  |none=>rfl
  |some v=>exact xy v n n
def yc (i j:Nat):Builtin.Slice.slicePlaces (i:Int) (j:Int) 1=j-i:=by
 unfold Builtin.Slice.slicePlaces;split<;>omega
def pP (p:IsPart v o)(h:Q o s):wpAny (model prog w) A (Builtin.Slice.slicePartIndex v) Q E s:=by
 cases p with
 |none=>exact slicePart_none h
 |int i t=>exact slicePart_int h
def jW {lo hi:Option Int}{Q:Int×Int×Nat->Qn->Prop}(hs:s.heap.IsSliceOf sl vl vu .none)(pl:IsPart vl lo)(B:IsPart vu hi)
 (h:Q (((aM n 0 lo:Nat):Int),1,aM n n hi-aM n 0 lo) s):wpAny (model prog w) A (Builtin.Slice.sliceApplied (.ref sl) (pure (n:Int))) Q E s:=by
 obtain⟨os,y,z,j⟩:=id hs;refine tqa (tqa (tqf y j rfl (tqa (tqf y j rfl (tqa (tqf y j rfl (tqb ?_)))))));refine tqa (slicePart_none ?_);rw[if_neg `d]
 refine tqa (pP pl (tqa (pP B (tqa (tqb ?_)))));show wpAny _ _ (match Builtin.Slice.sliceAdjust lo hi 1 (n:Int) with|(lo,hi)=>pure (lo,(1:Int),Builtin.Slice.slicePlaces lo hi 1)) _ _ s
 rw[y4 lo hi n];show wpAny _ _ (pure (((aM n 0 lo:Nat):Int),(1:Int),Builtin.Slice.slicePlaces ((aM n 0 lo:Nat):Int) ((aM n n hi:Nat):Int) 1)) _ _ s;rw[yc];exact tqb h
def CW (xs:Array Qj)(i k:Nat):((List.range k).filterMap λ(m:Nat)=>xs[((i:Int)+(m:Int)*1).toNat]?).toArray=((xs.toList.drop i).take k).toArray:=by
 have e:(λ(m:Nat)=>xs[((i:Int)+(m:Int)*1).toNat]?)=λm=>xs[i+m]?:=by
  funext m
  have:((i:Int)+(m:Int)*1).toNat=i+m:=`a
  rw[this]
 rw[e];have:=pick_run xs i k;rw[List.filterMap_map] at this;have e2:((λx=>xs[x]?)∘λx=>i+x)=λm=>xs[i+m]?:=rfl;rw[e2] at this;rw[this]
def og {lo hi:Option Int}(y:IsTup s.heap t items)(hs:s.heap.IsSliceOf sl vl vu .none)(pl:IsPart vl lo)(M:IsPart vu hi)
 (L:¬ (aM items.size 0 lo=0/\aM items.size items.size hi=items.size))
 (h:Q (.ref s.heap.objs.size) {s with heap:=s.heap.push {cls:=.type "tuple",data:=.seq ((items.toList.drop (aM items.size 0 lo)).take (aM items.size items.size hi-aM items.size 0 lo)).toArray}})
 (hsz:items.size<=sizeLine):wpAny (model prog w) A (getItem (.ref t) (.ref sl)) Q E s:=by
 have j:sizeOk (.seq ((items.toList.drop (aM items.size 0 lo)).take (aM items.size items.size hi-aM items.size 0 lo)).toArray):=by
  show((items.toList.drop (aM items.size 0 lo)).take (aM items.size items.size hi-aM items.size 0 lo)).toArray.size<=sizeLine;rw[Qw,Rj,R8,RW];omega
 obtain⟨os,I,B,J⟩:=id hs;have z:s.TypeIs (.ref sl) "slice":=⟨os,I,B⟩;unfold getItem;try with_reducible refine tqo ?_
 first|refine tqa (tqb ?_)|skip
 refine tqa (wpAny_sequenceKey y.typeIs `d ?_)
 refine tqa (wpAny_callSpecial?_slot y.typeIs Q1
  (wpAny_call_entry Q1 y.typeIs entry_tuple_getitem ?_ (args_tuple_getitem _ _)))
 show wpAny _ _ (Builtin.Tuple.tupleItemsOf (.ref t) >>= _) _ _ s;refine tqa (tupleItemsOf_ y ?_);refine tqa (wpAny_typeOf z ?_);rw[if_pos `d]
 refine tqa (jW hs pl M ?_);have F:¬ ((((aM items.size 0 lo:Nat):Int)==0&&(1:Int)==1&&(aM items.size items.size hi-aM items.size 0 lo)==items.size)=true):=by
  intro q;rw[Qh,Qh] at q;have O:=eq_of_beq q.1.1;have R:=eq_of_beq q.2;exact L {`a,`a}
 show wpAny _ _ (if (((aM items.size 0 lo:Nat):Int)==0&&(1:Int)==1&&(aM items.size items.size hi-aM items.size 0 lo)==items.size)=true then _ else _) _ _ s;rw[if_neg F,CW];first
  |exact tqa (wpAny_newObj_type (tqb {_,rfl,tqb h}) j)
  |exact tqa (wpAny_newObj_type (tqa (tqb (tqb {_,rfl,tqb h}))) j)
  |exact tqa (tqa (wpAny_newObj_type (tqb (tqb {_,rfl,tqb h})) j))
  |exact tqa (tqa (wpAny_newObj_type (tqb {_,rfl,tqb h}) j))
end
end HT
namespace L2
open PySem PySem.Spec PyProof.Rows
abbrev TO:=St->Hp->(Option Int->Hp->Prop)->Prop
def PO (X:Cx)(e:Option Expr)(t:TO):Prop:=
 ∀(pins:List (Addr×Obj)) (s:Qn) (σ:St) (H:Hp) (Q:Option Int->Hp->Prop),Inv X pins σ H s->t σ H Q->
  wpAny (model X.prog X.w) X.A (evalPart e X.env) (λu s'=>∃o H',Inv X pins σ H' s'/\IsPart u o/\Q o H') X.xe s
def Gu:TO:=λ_ H Q=>Q none H
def Mo (t:TE):TO:=λσ H Q=>t σ H λx H1=>∃i,x=.int i/\Q (some i) H1
section
variable{X:Cx}{e:Expr}{te:TE}{lo hi:Option Expr}{tl th:TO}{pos p2:Pos}
def Hb:PO X none Gu:=by
 intro pins s σ H Q I h;rw[evalPart_none];exact tqb {none,H,I,.none,h}
def Ha (h:PE X e te):PO X (some e) (Mo te):=by
 intro pins s σ H Q I y;rw[evalPart_some];refine aY (h pins s σ H _ I y) ?_;rintro u s1 ⟨x,H1,j,r1,z⟩;obtain⟨i,rfl,q⟩:=z;obtain⟨t,rfl⟩:=r1;exact{some i,H1,j,.int i t,q}
def mn (X:Cx)(r:V->Option Int->Option Int->Hp->VK->Prop):Prop:=
 ∀(pins:List (Addr×Obj)) (s:Qn) (σ:St) (H:Hp) (x:V) (v j y:Qj) (lo hi:Option Int) (sl:Addr) (Q:VK),Inv X pins σ H s->RelV x v->s.heap.IsSliceOf sl j y .none->IsPart j lo->IsPart y hi->r x lo hi H Q->
  ∃T id,typeLookup (.type T) "__getitem__"=pure (some (.builtin id))/\s.TypeIs v T/\wpAny (model X.prog X.w) X.A (getItem v (.ref sl)) (EP X pins σ Q) X.xe s
def mn.or (h:mn X r)(h':mn X r'):mn X (λx lo hi H Q=>r x lo hi H Q\/r' x lo hi H Q):=by
 intro pins s σ H x v z B lo hi sl Q I y hs pl j q;rcases q with q|q
 ·exact h pins s σ H x v z B lo hi sl Q I y hs pl j q
 ·exact h' pins s σ H x v z B lo hi sl Q I y hs pl j q
def tSl (r:V->Option Int->Option Int->Hp->VK->Prop)(te:TE)(tl th:TO):TE:=λσ H Q=>te σ H λx H1=>tl σ H1 λl H2=>th σ H2 λu j=>r x l u j Q
def uQ (hr:mn X r)(he:PE X e te)(hl:PO X lo tl)(U:PO X hi th):PE X (.Subscript e (.Slice lo hi none p2) pos) (tSl r te tl th):=by
 intro pins s σ H Q I h;refine Subscript_ (aY (he pins s σ H _ I h) λv s1 ⟨x,H1,F,r1,Y⟩=>?_);refine wpAny_Slice (aY (hl pins s1 σ H1 _ F Y) λy s2 ⟨l,H2,J,pl,q2⟩=>aY (U pins s2 σ H2 _ J q2) λz j ⟨u,B,L,W,q3⟩=>?_);rw[evalPart_none];refine tqb ?_;have M:Inv X pins σ B {j with heap:=j.heap.push {cls:=.type "slice",data:=.fields #[y,z,.none]}}:=L.kept λb ob q=>Qi _ q
 obtain⟨T,id,O,S,R⟩:=hr pins {j with heap:=j.heap.push {cls:=.type "slice",data:=.fields #[y,z,.none]}} σ B x v y z l u j.heap.objs.size Q M r1 (Heap.IsSliceOf.new ..) pl W q3
 exact tail_any S O R (by with_unfolding_all rfl)
def rA (xs:List V)(lo hi:Option Int):List V:=(xs.drop (HT.aM xs.length 0 lo)).take (HT.aM xs.length xs.length hi-HT.aM xs.length 0 lo)
def oo (xs:List V)(lo hi:Option Int):(rA xs lo hi).length<=xs.length:=by
 unfold rA;rw[Rj,R8];omega
def JH (K:Qf):V->Option Int->Option Int->Hp->VK->Prop:=λx lo hi H Q=>∃a xs,x=.ref a/\d9 K H a xs/\
 ¬ (HT.aM xs.length 0 lo=0/\HT.aM xs.length xs.length hi=xs.length)/\∀p,H p=none->Q (.ref p) (upd H p (.tup (rA xs lo hi)))
def Jl:mn X (JH X.K):=by
 intro pins s σ H x v O R lo hi sl Q I M hs pl L h;obtain⟨a,xs,rfl,J,F,q⟩:=h;cases M;obtain⟨y,r,z,B⟩:=I.tuple J;have j:y.toArray.size=xs.length:=by rw[Qw];exact r.length.symm
 refine{"tuple",_,Q1.lookup,z.typeIs,?_};refine HT.og z hs pl L (by rw[j];exact F) ?_ (by rw[j];exact B)
 rw[j];refine{.ref s.heap.objs.size,_,I.laid (λb ob q=>Qi _ q) (Qo _) ?_,rfl,q _ (I.hok.fresh (Qo _))};exact{Qs (oo xs lo hi) B,_,(r.drop (HT.aM xs.length 0 lo)).take (HT.aM xs.length xs.length hi-HT.aM xs.length 0 lo),IsTup.new _ _}
def MI (K:Qf):R2:=λx y H Q=>∃a b xs ys,x=.ref a/\y=.ref b/\d9 K H a xs/\d9 K H b ys/\xs≠[]/\xs.length+ys.length<=sizeLine/\
 (ys=[]->Q (.ref a) H)/\(ys≠[]->∀p,H p=none->Q (.ref p) (upd H p (.tup (xs++ys))))
def Vals.nil_iff (r:Vals xs us):us=[]↔xs=[]:=by
 cases r with
 |nil=>simp
 |cons _ _=>simp
def Hi:bU X (binaryOp .Add) (MI X.K):=by
 intro pins s σ H x y v u Q I S U h;obtain⟨a,b,xs,ys,rfl,rfl,F,J,L,j,O,R⟩:=h;cases S;cases U;obtain⟨M,r1,p1,_⟩:=I.tuple F;obtain⟨B,r2,p2,_⟩:=I.tuple J;refine HT.Il p1 p2 (λz=>L (r1.nil_iff.mp z)) (λz=>{.ref a,H,I,rfl,O (r2.nil_iff.mp z)}) (λz=>?_) (by rw[<- r1.length,<- r2.length];exact j)
 refine{.ref s.heap.objs.size,_,I.laid (λb ob q=>Qi _ q) (Qo _) ?_,rfl,R (λw=>z (r2.nil_iff.mpr w)) _ (I.hok.fresh (Qo _))};exact{by rw[QJ];exact j,_,r1.append r2,IsTup.new _ _}
end
def bC (n:Nat)(i:Int):Option Nat:=if 0<=i then(if i<n then some i.toNat else none) else if -(n:Int)<=i then some (i+n).toNat else none
def sW {y:Type}(xs:List y)(i:Int):Option y:=(bC xs.length i).bind λj=>xs[j]?
def xl {n:Nat}{i:Int}{j:Nat}(h:bC n i=some j):seqIndex? i n=some j/\j<n/\-(n:Int)<=i/\i<n:=by
 unfold bC at h;by_cases y:0<=i
 ·rw[if_pos y] at h;by_cases h1:i<n
  ·rw[if_pos h1] at h;have e:=Qp h;exact{by rw[seqIndex_of y h1,e],`a,`a,h1}
  ·rw[if_neg h1] at h;cases h
 ·rw[if_neg y] at h;by_cases h1:-(n:Int)<=i
  ·rw[if_pos h1] at h;have e:=Qp h;exact{by rw[seqIndex_neg `a h1,e],`a,h1,`a}
  ·rw[if_neg h1] at h;cases h
def rH {y:Type}{xs:List y}{i:Int}{v:y}(h:sW xs i=some v):∃j,seqIndex? i xs.length=some j/\xs[j]?=some v/\j<xs.length/\-(xs.length:Int)<=i/\i<xs.length:=by
 unfold sW at h;cases e:bC xs.length i with
 |none=>rw[e] at h;cases h
 | some j=>
   rw[e] at h;obtain⟨h1,h2,h3,h4⟩:=xl e;exact⟨j,h1,h,h2,h3,h4⟩
def lA (b:Expr):Prop:=∀o i,subscripted b false o i=operate [o,i] (getItem o i)
def lC (X:Cx)(r:R2):Prop:=
 ∀(value j:Expr) (pins:List (Addr×Obj)) (s:Qn) (σ:St) (H:Hp) (x y:V) (v u:Qj) (Q:VK),Inv X pins σ H s->RelV x v->RelV y u->r x y H Q->
  subscripted j false v u=operate [v,u] (getItem v u)->wpAny (model X.prog X.w) X.A (subscriptTail value j v u) (EP X pins σ Q) X.xe s
def L8 (X:Cx)(id:String)(r:V->List V->Hp->VK->Prop):Prop:=
 ∀(pins:List (Addr×Obj)) (s:Qn) (σ:St) (H:Hp) (x:V) (xs:List V) (v:Qj) (j:List Qj) (Q:VK),Inv X pins σ H s->RelV x v->Vals xs j->r x xs H Q->
  wpAny (model X.prog X.w) X.A (call (.builtin id) (v::j)) (EP X pins σ Q) X.xe s
section
variable{X:Cx}{a b:Expr}{ta tb:TE}{pos:Pos}
def lC.or (h:lC X r)(h':lC X r'):lC X (λx y H Q=>r x y H Q\/r' x y H Q):=by
 intro value j pins s σ H x y v u Q I z B q hs;rcases q with q|q
 ·exact h value j pins s σ H x y v u Q I z B q hs
 ·exact h' value j pins s σ H x y v u Q I z B q hs
def EO (hr:lC X r)(z:PE X a ta)(B:PE X b tb)(hs:lA b):PE X (.Subscript a b pos) (zK r ta tb):=by
 intro pins s σ H Q I h;exact Subscript_ (D7 z B I h λv u s2 x y H2 j F J q=>hr a b pins s2 σ H2 x y v u Q j F J q (hs _ _))
def JM (K:Qf):R2:=λx y H Q=>∃p xs i v,x=.ref p/\y=.int i/\dC K H p xs/\sW xs i=some v/\Q v H
def JK (K:Qf):R2:=λx y H Q=>∃p xs i v,x=.ref p/\y=.int i/\d9 K H p xs/\sW xs i=some v/\Q v H
def JL:R2:=λx y H Q=>∃z i c,x=.str z/\y=.int i/\z.length<=sizeLine/\sW z.cps.toList i=some c/\Q (.str {#[c]}) H
def HA:lC X (JM X.K):=by
 intro value M pins s σ H x y v u Q I W Y h hs;obtain⟨p,xs,i,z,rfl,rfl,U,he,q⟩:=h;cases W;obtain⟨t,rfl⟩:=Y;obtain⟨J,r,pl,hz⟩:=I.list U;obtain⟨j,h1,h2,h3,h4,S⟩:=rH he;obtain⟨w,O,L⟩:=r.get h2;have hl:=r.length;have hn:=j7;have B:EP X pins σ Q w s:=⟨z,H,I,L,q⟩;by_cases R:0<=i
 ·have F:i.toNat=j:=by
   rw[seqIndex_of R S] at h1;exact Qp h1
  exact item_listR pl.isList R `a (by rw[F];simpa using O) B hs
 ·have F:(i+(J.toArray.size:Int)).toNat=j:=by
   rw[seqIndex_neg `a h4] at h1
   rw[Qw,<- hl];exact Qp h1
  exact subscriptTail_builtinR pl.isList.typeIs slot_list_getitem.lookup
   (wpAny_getItem_list_neg pl.isList `a (by rw[Qw]<;>omega) `a (by rw[F];simpa using O) ⟨rfl,B⟩) hs
def K9:lC X (JK X.K):=by
 intro value J pins s σ H x y v u Q I R S h hs;obtain⟨p,xs,i,z,rfl,rfl,M,he,q⟩:=h;cases R;obtain⟨t,rfl⟩:=S;obtain⟨O,r,pl,W⟩:=I.tuple M;obtain⟨j,h1,h2,h3,h4,U⟩:=rH he;obtain⟨w,L,F⟩:=r.get h2;have hl:=r.length;have hn:=j7;have B:EP X pins σ Q w s:=⟨z,H,I,F,q⟩;exact subscriptTail_builtinR pl.typeIs slot_tuple_getitem.lookup
  (getItem_tuple pl `a `a (by rw[Qw,<- hl];exact h1) (by simpa using L) ⟨rfl,B⟩) hs
def La:lC X JL:=by
 intro value B pins s σ H x y v u Q I J L h hs;obtain⟨z,i,c,rfl,rfl,M,he,q⟩:=h;obtain⟨t,rfl⟩:=J;obtain⟨O,rfl⟩:=L;obtain⟨j,h1,h2,h3,h4,F⟩:=rH he;have hl:z.cps.toList.length=z.length:=by simp[Str.length]
 rw[hl] at h1 h4 F;have hn:=j7;exact tail_any (typeIs_str s z t) slot_str_getitem.lookup (getItem_str (by
  have e1:decide (i < -(2^63:Int))=false:=decide_eq_false `a
  have e2:decide (i≥2^63)=false:=decide_eq_false `a
  rw[e1,e2,Bool.or_false]) (by rw[h1];simpa using h2) {.str {#[c]},H,I.tok _,{_,rfl},q}) hs
def JN (K:Qf):R2:=λx y H Q=>JM K x y H Q\/JK K x y H Q\/JL x y H Q
def Lb:lC X (JN X.K):=HA.or (K9.or La)
def yq (its:List Qj)(n j:Nat)(u:Qj):Obj.mapSeq (·.setIfInBounds j u) {cls:=.type "list",data:=.seq its.toArray n}={cls:=.type "list",data:=.seq (its.set j u).toArray n}:=by
 simp[Obj.mapSeq]
def Inv.lst (I:Inv X pins σ H s)(h:H p=some (.lst xs)) :
 ∃(j:List Qj) (n:Nat),Vals xs j/\s.heap.get? p=some {cls:=.type "list",data:=.seq j.toArray n}/\xs.length<=sizeLine:=by
 obtain⟨z,j,n,r,e⟩:=I.hok p _ h;exact⟨j,n,r,e,z⟩
def Inv.lstUpd {pins:List (Addr×Obj)}{σ:St}{H:Hp}{s:Qn}{p:Addr}{xs ys:List V}{j its':List Qj}{n n':Nat}{f:Obj->Obj}(I:Inv X pins σ H s)(h:H p=some (.lst xs))
 (ho:s.heap.get? p=some {cls:=.type "list",data:=.seq j.toArray n}) (hf:f {cls:=.type "list",data:=.seq j.toArray n}={cls:=.type "list",data:=.seq its'.toArray n'}) (r:Vals ys its') (hz:ys.length<=sizeLine) (t:Nat) :
 Inv X pins σ (upd H p (.lst ys)) {s with heap:=s.heap.update p f,toks:=t}:=by
 have e:(s.heap.update p f).get? p=some {cls:=.type "list",data:=.seq its'.toArray n'}:=by
  rw[RH f ho (by rw[hf]<;>rfl),hf]
 refine I.write (by rw[h];trivial) (.inl rfl) (λb u y q=>(Rh _ _ (Ru y)).trans q) {_,e} ?_
 exact⟨hz,its',n',r,e⟩
def EM:V->V->V->Hp->(Hp->Prop)->Prop:=λo i v H Q=>∃p xs k j,o=.ref p/\i=.int k/\H p=some (.lst xs)/\bC xs.length k=some j/\Q (upd H p (.lst (xs.set j v)))
def set_list:L4 X EM:=by
 intro pins s σ H o i v S R u Q I ro M O h;obtain⟨p,xs,k,j,rfl,rfl,F,J,q⟩:=h;cases ro;obtain⟨t,rfl⟩:=M;obtain⟨y,n,r,ho,L⟩:=I.lst F;obtain⟨h1,h2,h3,h4⟩:=xl J;have hl:=r.length;have hn:=j7;have z:Inv X pins σ (upd H p (.lst (xs.set j v))) {s with heap:=s.heap.update p (Obj.mapSeq (·.setIfInBounds j u))}:=
  I.lstUpd F ho (yq y n j u) (r.set O j) (by rw[List.length_set];exact L) s.toks
 by_cases B:0<=k
 ·have hk:k.toNat=j:=by
   rw[seqIndex_of B h4] at h1;exact Qp h1
  exact PySem.W.ki_setAt ho B `a (by rw[Qw,<- hl];exact h4) (by rw[hk];exact{_,z,q})
 ·have hk:(k+(y.toArray.size:Int)).toNat=j:=by
   rw[seqIndex_neg `a h3] at h1
   rw[Qw,<- hl];exact Qp h1
  exact PySem.W.ki_setBack ho `a (by rw[Qw,<- hl];exact h3) `a (by rw[hk];exact{_,z,q})
def uz (lo hi:Option Int)(n:Nat):(sliceBounds lo hi none n).1=((HT.aM n 0 lo:Nat):Int)/\(sliceBounds lo hi none n).2.1=((HT.aM n n hi:Nat):Int)/\(sliceBounds lo hi none n).2.2=1:=by
 refine{?_,?_,rfl}
 ·cases lo with
  |none=>simp[sliceBounds,HT.aM]
  | some i=>
    simp only[sliceBounds,HT.aM,Option.getD_none,show(1:Int) > 0 by decide,if_true]
    by_cases h:i<0
    ·simp only[h,if_true]<;>omega
    ·simp only[h,if_false]<;>omega
 ·cases hi with
  |none=>simp[sliceBounds,HT.aM]
  | some i=>
    simp only[sliceBounds,HT.aM,Option.getD_none,show(1:Int) > 0 by decide,if_true]
    by_cases h:i<0
    ·simp only[h,if_true]<;>omega
    ·simp only[h,if_false]<;>omega
def td (j:List Qj)(lo hi:Option Int):slicePick j.toArray lo hi none=((j.drop (HT.aM j.length 0 lo)).take (HT.aM j.length j.length hi-HT.aM j.length 0 lo)).toArray:=by
 obtain⟨h1,h2,h3⟩:=uz lo hi j.toArray.size;unfold slicePick;rw[h1,h2,h3];simp only[sliceRange_one,pick_run,Qw]<;>rfl
def JI (K:Qf):V->Option Int->Option Int->Hp->VK->Prop:=λx lo hi H Q=>∃a xs,x=.ref a/\dC K H a xs/\∀p,H p=none->Q (.ref p) (upd H p (.lst (rA xs lo hi)))
def GO:mn X (JI X.K):=by
 intro pins s σ H x v M O lo hi sl Q I L hs pl J h;obtain⟨a,xs,rfl,z,q⟩:=h;cases L;obtain⟨F,r,y,B⟩:=I.list z;have j:=r.length;refine{"list",_,slot_list_getitem.lookup,y.isList.typeIs,?_};refine wpAny_getItem_list_slice y.isList hs pl J .none `s ?_ (by rw[Qw]<;>omega)
 rw[td,<- j];refine{.ref s.heap.objs.size,_,I.laid (λb ob q=>Qi _ q) (Qo _) ?_,rfl,q _ (I.hok.fresh (Qo _))};exact{Qs (oo xs lo hi) B,_,0,(r.drop (HT.aM xs.length 0 lo)).take (HT.aM xs.length xs.length hi-HT.aM xs.length 0 lo),QD _ rfl}
def vL:c4 X (.builtin "len") (λxs H Q=>∃p ys,xs=[.ref p]/\(dC X.K H p ys\/d9 X.K H p ys)/\Q (.int ys.length) H):=by
 intro pins s σ H xs L Q I r h;obtain⟨p,ys,rfl,y,q⟩:=h;obtain⟨u,rfl,J⟩:=vals1 r;cases J;have hn:=j7;rcases y with y|y
 ·obtain⟨z,B,pl,F⟩:=I.list y;have j:=B.length;exact Calls.call_len_list pl.isList (by simp only[Qw]<;>omega) {.int ys.length,H,I.tok _,{s.toks+1,by rw[Qw,j]},q}
 ·obtain⟨z,B,pl,F⟩:=I.tuple y;have j:=B.length;exact len_tuple pl (by simp only[Qw]<;>omega) {.int ys.length,H,I.tok _,{s.toks+1,by rw[Qw,j]},q}
def vK:c4 X (.builtin "len") (λxs H Q=>∃z,xs=[.str z]/\z.length<=sizeLine/\Q (.int z.length) H):=by
 intro pins s σ H xs y Q I r h;obtain⟨z,rfl,j,q⟩:=h;obtain⟨u,rfl,t,rfl⟩:=vals1 r;have hn:=j7;exact len_str `a {.int z.length,H,I.tok _,{_,rfl},q}
def c4.or (h:c4 X f r)(h':c4 X f r'):c4 X f (λxs H Q=>r xs H Q\/r' xs H Q):=by
 intro pins s σ H xs j Q I rs q;rcases q with q|q
 ·exact h pins s σ H xs j Q I rs q
 ·exact h' pins s σ H xs j Q I rs q
def vJ:c4 X (.type "list") (λxs H Q=>∃p ys,xs=[.ref p]/\(dC X.K H p ys\/d9 X.K H p ys)/\∀l,H l=none->Q (.ref l) (upd H l (.lst ys))):=by
 intro pins s σ H xs R Q I r h;obtain⟨p,ys,rfl,J,q⟩:=h;obtain⟨u,rfl,O⟩:=vals1 r;cases O;have B:∀(j:List Qj),Vals ys j->ys.length<=sizeLine->∀(h':Heap) (y:Nat),(∀b o',s.heap.get? b=some o'->h'.get? b=some o')->
  h'.get? s.heap.objs.size=some {cls:=.type "list",dict:=none,data:=.seq j.toArray y,slots:=#[]}->EP X pins σ Q (.ref s.heap.objs.size) {s with heap:=h'}:=λj z L h' y kp e=>
  {.ref s.heap.objs.size,_,I.laid kp (Qo _) (show eK X.prog X.w _ h' _ (.lst ys) from⟨L,j,y,z,e⟩),rfl,q _ (I.hok.fresh (Qo _))}
 rcases J with J|J
 ·obtain⟨j,z,pl,L⟩:=I.list J;have F:=z.length;obtain⟨o,ho,M,n,hd⟩:=pl.isList;exact call_list_seq p (.inl rfl) ho M hd (λh' y kp e=>B j z L h' y kp e) (by simp only[Qw]<;>omega)
 ·obtain⟨j,z,pl,L⟩:=I.tuple J;have F:=z.length;obtain⟨o,ho,M,n,hd⟩:=pl;exact call_list_seq p (.inr rfl) ho M hd (λh' y kp e=>B j z L h' y kp e) (by simp only[Qw]<;>omega)
def tq:c4 X (.type "tuple") (λxs H Q=>∃p ys,xs=[.ref p]/\((dC X.K H p ys/\∀l,H l=none->Q (.ref l) (upd H l (.tup ys)))\/(d9 X.K H p ys/\Q (.ref p) H))):=by
 intro pins s σ H xs O Q I r h;obtain⟨p,ys,rfl,h⟩:=h;obtain⟨u,rfl,M⟩:=vals1 r;cases M;rcases h with⟨y,q⟩|⟨y,q⟩
 ·obtain⟨j,z,pl,J⟩:=I.list y;have F:=z.length;refine call_tuple_list pl.isList (λh' kp=>?_) (by simp only[Qw]<;>omega)
  have B:=I.kept (t':=s.toks) kp;have L:Inv X pins σ (upd H h'.objs.size (.tup ys)) {s with heap:=h'.push {cls:=.type "tuple",data:=.seq j.toArray}}:=
   B.laid (λb o e=>Qi _ e) (Qo _) ({J,j,z,IsTup.new _ _})
  exact{.ref h'.objs.size,_,L,rfl,q _ (B.hok.fresh (Qo _))}
 ·obtain⟨j,z,pl,J⟩:=I.tuple y;exact call_tuple_same pl {.ref p,H,I,rfl,q}
def N0 (K:Qf)(T:String)(x:V)(H:Hp):Prop:=match x with
 |.str _=>T="str"
 |.int _=>T="int"
 |.ref p=>(T="list"/\∃xs,dC K H p xs)\/(T="tuple"/\∃o,K.lookup p=some o/\o.cls=.type "tuple"/\o.dict=none)\/
  (T="dict"/\((∃kvs,H p=some (.dK kvs))\/(∃kvs,H p=some (.dT kvs))\/∃es,H p=some (.dn es)))\/(T="set"/\∃S n,H p=some (.set S n))
 |_=>False
def I9 (I:Inv X pins σ H s)(r:RelV x v)(ty:N0 X.K T x H) :
 s.TypeIs v T/\∀a,v=.ref a->∃ob,s.heap.get? a=some ob/\ob.dict=none:=by
 cases x with
 | str z=>
   obtain⟨t,rfl⟩:=r;cases (ty);exact{typeIs_str s z t,λ_ e=>nomatch e}
 | int i=>
   obtain⟨t,rfl⟩:=r;cases (ty);exact{typeIs_int s i t,λ_ e=>nomatch e}
 | ref p=>
   cases r;rcases ty with⟨rfl,xs,B⟩|⟨rfl,o,hk,y,hd⟩|⟨rfl,hk⟩|⟨rfl,S,n,hk⟩
   ·obtain⟨F,_,pl,_⟩:=I.list B;refine{pl.isList.typeIs,λa e=>?_};cases e;obtain⟨o,n,e,c,hd,_⟩:=pl;exact⟨o,e,hd⟩
   ·refine{{o,I.kIn p o hk,y},λa e=>?_};cases e;exact{o,I.kIn _ o hk,hd}
   ·have z:∃o,s.heap.get? p=some o/\o.ExactDict:=by
     rcases hk with⟨j,hk⟩|⟨j,hk⟩|⟨es,hk⟩
     rotate_left 2
     ·obtain⟨_,_,o,e,ex,_⟩:=I.hok p _ hk;exact⟨o,e,ex⟩
     ·obtain⟨_,_,_,_,o,_,_,e,ex,_⟩:=I.hok p _ hk;exact⟨o,e,ex⟩
     ·obtain⟨_,_,_,_,o,_,_,e,ex,_⟩:=I.hok p _ hk;exact⟨o,e,ex⟩
    obtain⟨o,e,ex⟩:=z;refine{⟨o,e,ex.1⟩,λa e2=>?_};cases e2;exact⟨o,e,ex.2.1⟩
   ·obtain⟨o,_,_,_,e,ex,_⟩:=I.hok p _ hk;refine{⟨o,e,ex.1⟩,λa e2=>?_};cases e2;exact⟨o,e,ex.2.1⟩
 |_=>exact False.elim ty
def tBM (K:Qf)(T:String)(r:V->List V->Hp->VK->Prop)(to:TE)(t:TA):TE:=λσ H Q=>to σ H λx H1=>N0 K T x H1/\t σ H1 λxs H2=>r x xs H2 Q
variable{o e:Expr}{es:List Expr}{to:TE}{t:TA}{name:Str}{apos cpos:Pos}{T id:String}{r:V->List V->Hp->VK->Prop}
def yd (R:PlainAttrs T)(slot:Slot T name id)(F:typeOf (.builtin id)=pure (.type "method_descriptor"))(hm:L8 X id r)(ho:PE X o to)(O:PA X (e::es) t)
 (y:attributeBase o name X.env (eval o X.env)=eval o X.env:=by rfl)
 (B:((backTo cpos (starEach (e::es) X.env)).all (λx=>!x.1)&&(backToKw cpos (keywordEach [] X.env)).all (λx=>x.1.isSome)
  && decide ((e::es).length+([]:List Keyword).length+(if ([]:List Keyword).isEmpty then 0 else 1)<30))=true:=by rfl)
 (z:(apos.endLine==cpos.line)=true:=by rfl) (hs:starEach (e::es) X.env=(false,eval e X.env)::starEach es X.env:=by rfl) (j:(backTo cpos (starEach es X.env)).any (·.1)=false:=by rfl) :
 PE X (.Call (.Attribute o name apos) (e::es) [] cpos) (tBM X.K T r to t):=by
 intro pins s σ H Q I h;refine wpAny_Call_method_late y B z rfl (aY (ho pins s σ H _ I h) λv s1 ⟨x,H1,J,r1,ty,S⟩=>?_);obtain⟨h1,h2⟩:=I9 J r1 ty;refine{T,id,R,slot,F,h1,h2,?_};have L:=O cpos pins s1 σ H1 _ J S;rw[hs] at L ⊢;refine Calls.callWith_builtin (by show(false||(backTo cpos (starEach es X.env)).any (·.1))=false;rw[j]<;>rfl) (Calls.evalArgs_plain ?_)
 exact aY L (by rintro W s2 ⟨Y,H2,M,r2,U⟩;exact hm pins s2 σ H2 x Y v W Q M r1 r2 U)
end
def MtM (X:Cx)(id:String)(r:V->List V->Hp->VK->Prop):Prop:=
 ∀(pins:List (Addr×Obj)) (s:Qn) (σ:St) (H:Hp) (x:V) (xs:List V) (v:Qj) (j:List Qj) (Q:VK),Inv X pins σ H s->RelV x v->Vals xs j->r x xs H Q->
  wpAny (model X.prog X.w) X.A (call (.builtin id) (v::j)) (EP X pins σ Q) X.xe s
def Vals.one:∀{x:V}{us:List Qj},Vals [x] us->∃u,us=[u]/\RelV x u
 |_,_,.cons r .nil=>{_,rfl,r}
noncomputable def Vals.rep (h:Vals xs us):∀k:Nat,Vals (List.replicate k xs).flatten (List.replicate k us).flatten
 |0=>.nil
 | k+1=>by
   rw[RK,RK,R4,R4];exact Vals.append h (Vals.rep h k)
theorem foldl_rep (j:List Qj):∀(k:Nat) (acc:List Qj),
 List.foldl (λx1 x2=>x1++x2) acc.toArray (List.replicate k j.toArray)=(acc++(List.replicate k j).flatten).toArray
 |0,acc=>`s
 | k+1,acc=>by
   have e:acc.toArray++j.toArray=(acc++j).toArray:=`s
   have e2:(acc++j)++(List.replicate k j).flatten=acc++(List.replicate (k+1) j).flatten:=by
    rw[RK,R4,List.append_assoc]
   rw[<- e2,<- foldl_rep j k (acc++j),<- e,RK,List.foldl_cons]
section
variable{X:Cx}{pins:List (Addr×Obj)}{σ:St}{H:Hp}{s:Qn}{l b:Addr}{xs ys zs:List V}
def Inv.lset {j its':List Qj}(I:Inv X pins σ H s)(y:H l=some (.lst xs))
 (e:s.heap.get? l=some {cls:=.type "list",data:=.seq j.toArray n}) (hf:f j.toArray=its'.toArray) (F:Vals ys its') (hz:ys.length<=sizeLine) :
 Inv X pins σ (upd H l (.lst ys)) {s with heap:=s.heap.update l (Obj.mapSeq f),toks:=t'}:=by
 have q:=PySem.IsL.update e f;rw[hf] at q;refine I.write (by rw[y];exact trivial) (.inl rfl) (λJ u z B=>(Rh s.heap (Obj.mapSeq f) (Ru z)).trans B) {_,q} ?_
 exact{hz,its',_,F,q}
def Inv.lnew (I:Inv X pins σ H s)(j:Vals ys its)(hz:ys.length<=sizeLine) :
 Inv X pins σ (upd H s.heap.objs.size (.lst ys)) {s with heap:=s.heap.push {cls:=.type "list",data:=.seq its.toArray},toks:=t'}:=
 I.laid (λ_ _ q=>Qi _ q) (Qo _) {hz,its,0,j,QD _ rfl}
def Inv.fresh (I:Inv X pins σ H s):H s.heap.objs.size=none:=I.hok.fresh (Qo _)
def Inv.lstM (I:Inv X pins σ H s)(y:H l=some (.lst xs)):xs.length<=sizeLine/\∃(j:List Qj) (n:Nat),Vals xs j/\xs.length=j.length/\s.heap.get? l=some {cls:=.type "list",data:=.seq j.toArray n}:=by
 obtain⟨z,j,n,r,e⟩:=I.hok l _ y;exact⟨z,j,n,r,r.length,e⟩
def C8 (h:n<=sizeLine):Builtin.List.listTooLong n=false:=by
 exact decide_eq_false `a
end
section
variable{X:Cx}
def G3:V->List V->Hp->VK->Prop:=λx j H Q=>∃l xs y,x=.ref l/\j=[y]/\H l=some (.lst xs)/\xs.length<sizeLine/\Q .non (upd H l (.lst (xs++[y])))
def sk:MtM X "list.append" G3:=by
 intro pins s σ H x S v R Q I M L h;obtain⟨l,xs,y,rfl,rfl,B,O,q⟩:=h;cases M;obtain⟨u,rfl,J⟩:=L.one;obtain⟨z,j,n,r,hl,e⟩:=I.lstM B;refine call_meets F.slot_list_append {_,e,rfl} F.entry_list_append (F.args_list_append_2 _ _) (PySem.list_append l j.toArray n u (by rw[Qw];omega)) {e,?_}
 refine{.non,_,I.lset B e `s (r.append (.cons J .nil)) ?_,rfl,q}
 rw[QJ,List.length_singleton];omega
def OV:R2:=λx y H Q=>∃l b xs zs,x=.ref l/\y=.ref b/\H l=some (.lst xs)/\H b=some (.lst zs)/\xs.length+zs.length<=sizeLine/\∀p,H p=none->Q (.ref p) (upd H p (.lst (xs++zs)))
def Ke:bU X (binaryOp .Add) OV:=by
 intro pins s σ H x y v u Q I O R h;obtain⟨l,b,xs,zs,rfl,rfl,L,J,S,q⟩:=h;cases O;cases R;obtain⟨z,B,n,r,hl,e⟩:=I.lstM L;obtain⟨U,j,n2,r2,M,e2⟩:=I.lstM J;refine PySem.P.add_list e e2 ?_ (by rw[Qw,Qw];omega)
 have F:B.toArray++j.toArray=(B++j).toArray:=`s
 rw[F];exact{.ref _,_,I.lnew (r.append r2) (by rw[QJ];omega),rfl,q _ I.fresh}
def OR:R2:=λx y H Q=>∃l k xs,x=.ref l/\y=.int k/\H l=some (.lst xs)/\-(2^63)<=k/\k<2^63/\xs.length*k.toNat<=sizeLine/\
 ∀p,H p=none->Q (.ref p) (upd H p (.lst (List.replicate k.toNat xs).flatten))
def len_rep {y:Type}(xs:List y)(k:Nat):(List.replicate k xs).flatten.length=k*xs.length:=by
 induction k with
 |zero=>simp
 |succ k j=>rw[RK,R4,QJ,j,Nat.succ_mul,Nat.add_comm]
def J9:bU X (binaryOp .Mult) OR:=by
 intro pins s σ H x y v u Q I W Y h;obtain⟨l,k,xs,rfl,rfl,U,h1,h2,R,q⟩:=h;cases W;obtain⟨t,rfl⟩:=Y;obtain⟨z,j,n,r,hl,e⟩:=I.lstM U;have M:j.toArray.size*k.toNat<=sizeLine:=by rw[Qw,<- hl];exact R
 have J:¬ j.toArray.size*k.toNat > (2^63-1) / 8:=by
  have:(sizeLine:Nat)<=(2^63-1) / 8:=`d
  omega
 have L:¬ (!Builtin.List.listFitsIndex k)=true:=by
  rw[fitsIndex_both h1 h2];exact QF
 have B:¬ Builtin.List.listTooLong (j.toArray.size*k.toNat)=true:=by
  rw[C8 M];exact QF
 have O:List.foldl (λx1 x2=>x1++x2) #[] (List.replicate (if j.toArray.isEmpty=true then 0 else k.toNat) j.toArray)=(List.replicate k.toNat j).flatten.toArray:=by
  have S:=λm=>by
   have:=foldl_rep j m [];rw[R1] at this;exact this
  rw[S];cases j with
  |nil=>simp
  |cons a r'=>rw[if_neg `s]
 refine wpAny_binaryOp_repeat_ref `d {_,e,rfl} (λs'=>typeIs_int s' k t) noFill_list_mul F.fills_int_mul F.slot_int_rmul repeat_list F.slot_int_index.lookup
  (call_meets F.slot_int_rmul (typeIs_int s k t) F.entry_int_rmul (F.args_int_rmul_2 _ _) (int___rmul___int_list k t l j.toArray n)
   {e,rfl,{_,e,rfl},call_meets F.slot_list_mul {_,e,rfl} F.entry_list_mul (F.args_list_mul_2 _ _) (AutoListH.list___mul___list_int_3 l j.toArray n k t L J B) {e,?_}})
 rw[O];exact{.ref _,_,I.lnew (r.rep k.toNat) (by rw[len_rep,Nat.mul_comm];exact R),rfl,q _ I.fresh}
end
end L2
namespace Att
open PySem PySem.W PySem.Calls PyProof.Rows
def ql:∀(ns:List Int) (vs:List Qj),WellAll P h vs (ns.map WData.int)->IntsAre vs ns:=by
 intro ns;induction ns with
 | nil=>
   intro vs w;rw[List.map_nil] at w;cases w;exact .nil
 | cons n ns j=>
   intro vs w;rw[Sb] at w;cases w with
   | cons a b=>
     cases a;exact .cons _ _ (j _ b)
def Af {l:OpenLaw}(hn:l.most=some n)
 (j:l.row.toRowW.claim.pre args=true) (I:WellAll P h vals args) :
 ∃a vs ns,vals=[Value.ref a]/\args=[WData.list (ns.map WData.int)]/\h.get? a=some {cls:=.type "list",data:=.seq vs.toArray}/\IntsAre vs ns/\ns.length<=n:=by
 have F:WShape.hasAll [] args [.list .int]=true:=(pre_splitW j).1;have J:l.pre.holds [] {args:=args}=true:=(pre_splitW j).2;obtain⟨d,r,rfl,h1,h2⟩:=hasAllW_cons F;obtain rfl:=hasAllW_nil h2;obtain⟨xs,rfl,h3⟩:=hasW_list h1;obtain⟨ns,rfl⟩:=items_int h3;have z:ns.length<=n:=by
  have h4:(WTm.not (.lt (.lit (.int (n:Int))) (.len (.arg 0)))).holds [] {args:=[.list (ns.map .int)]}=true:=by
   have h4:=(holds_andW J).1;rw[hn] at h4;exact h4
  have B:=condW_of h4 (w_not (w_lt w_lit (w_len_list (w_arg rfl))));rw[Qk] at B;refine Nat.le_of_not_lt λq=>?_;first
   |(rw[decide_eq_true q'] at B;exact absurd B `d)
   |(simp at B;omega)
 cases I with
 | cons L w2=>
   cases w2;cases L with
   |list ho y=>exact{_,_,ns,rfl,rfl,ho,ql ns _ y,z}
def Av (l:OpenLaw)(args:List WData):l.row.toRowW.claim.post args (.bool true) args=true:=
 postW_of
  (show WShape.has [] (.bool true) .bool=true by first|rfl|decide|simp[WShape.has,WShape.arms,WShape.armsAll])
  (w_eq_bool (w_res rfl) w_lit) rfl
def attach_call {l:OpenLaw}
 (hn:l.most=some n) (L:d.params.defaults=[])
 (call:∀(w:QX) (s₀ j:Qn) (mg R:Str->Option Qj) (fa:Addr) (o:Obj) (pm cd y:Qj) (a:Addr) (vs:List Qj) (ns:List Int),
  Ground q loose [] XP w s₀ mg R j.heap->YP w j.heap->
  j.heap.get? fa=some o->o.data=.func (docDef d.name d.params d.body d.scope pm cd y)->j.heap.CodeRec cd d.name->mg d.name=some (.ref fa)->
  j.heap.get? a=some {cls:=.type "list",data:=.seq vs.toArray}->IntsAre vs ns->ns.length<=n->j.gens=#[]->
  codeAny (model l.prog w) callerA (.call (.ref fa) {[.ref a],[]}) (λr s'=>r=.ok (.ret (.bool true))/\OldK j.heap s'.heap/\s'.os=j.os/\AllBare s'.gens) j) :
 WalkO q loose XP YP l.row.toRowW d [] (λf vs=>PySem.call f vs):=by
 intro w s₀ j mg R G Y fa o pm cd y dV kV ho hd J U M hg S vals as I W hrd O hlo;obtain rfl:dV=.none:=Dflts.none U L;obtain rfl:kV=.none:=Dflts.noKw U;obtain⟨a,vs,ns,rfl,rfl,F,z,B⟩:=Af hn I O;refine enter_call (codeAny_mono (call w s₀ j mg R fa o pm cd y a vs ns G Y ho (fd_plain hd) J M F z B hg) λr s' hq=>?_);obtain⟨rfl,h2,h3,h4⟩:=hq;exact{.inl {.bool true,.bool true,[],rfl,λ_=>rfl,.bool true,Av l _,λ_=>{List.Pairwise.nil,λ_ hm=>(nomatch hm)}},h2,h3,h4}
end Att
namespace L2
open PySem PySem.Spec PyProof.Rows
noncomputable def rQ:∀{vs:List Qj}{ns:List Int},IntsAre vs ns->Vals (ns.map V.int) vs
 |_,_,.nil=>.nil
 |_,_,.cons n t h=>.cons ⟨t,rfl⟩ (rQ h)
def zc (H:Hp):Prop:=∀b,H b=none\/∃o xs,H b=some (.frz o (.lst xs))
def Dk {K:Qf}
 (KX:K.In s₁.heap) (M:s₁.heap.Ns mainGlobals mg) (j:s₁.heap.Ns builtinsNs mb) (hbb:∀x:Str,x≠"__name__"->mb x=bootBuiltins x) (L:s₁.heap.NoLimit) (hg:s₁.gens=#[])
 (Y:s₁.heap.get? a=some {cls:=.type "list",data:=.seq vs.toArray}) (hi:IntsAre vs ns) (hl:ns.length<=sizeLine) (hr:cF k callerA)
 (F:∀base:Heap,K.In base->base.Ns mainGlobals mg->kY P w K mg base CX k fa fd [x] sp) (I:∀(s:Qn) (u:Qj),BindsTo s fd {[u],[]} [(x,u)])
 (hsp:∀H:Hp,zc H->dC K H a (ns.map V.int)->sp [.ref a] H (λv _=>v=.bl true) λ_ _ _=>False)
 (hCX:∀H e s',CX [] H s₁ (λ_ _ _=>False) e s'->False) :
 codeAny (model P w) callerA (.call (.ref fa) {[.ref a],[]}) (λr s'=>r=.ok (.ret (.bool true))/\OldK s₁.heap s'.heap/\s'.os=s₁.os/\AllBare s'.gens) s₁:=by
 have rv:=rQ hi;have R:=hi.length;have B:∀H:Hp,zc H->dC K H a (ns.map V.int)->eU P w H s₁.heap->(∀b,H b≠none->b=a)->(H a≠none->K.lookup a=none)->
  codeAny (model P w) callerA (.call (.ref fa) {[.ref a],[]}) (λr s'=>r=.ok (.ret (.bool true))/\OldK s₁.heap s'.heap/\s'.os=s₁.os/\AllBare s'.gens) s₁:=by
  intro H hO hS hok hA hK;have i5:∀{b:Addr}{o:Obj},s₁.heap.get? b=some o->H b=none->(mR s₁.heap H).get? b=some o:=λe n=>Dv e n;have noA:∀{b:Addr}{o:Obj}{es:Array RU}{U:Nat},s₁.heap.get? b=some o->o.data=.dict es U->H b=none:=λ{b o es U} e d=>by
   cases q:H b with
   |none=>rfl
   | some u=>
     have e':=hA b (by rw[q];simp)
     subst e';rw[Y] at e;cases e;have d':=d;cases d'
  have y:∀{b:Addr}{m:Str->Option Qj},s₁.heap.Ns b m->(mR s₁.heap H).Ns b m:=λ{b m} ⟨o,es,U,e,d,r⟩=>{o,es,U,i5 e (noA e d),d,r};have J:=λb o e=>i5 (KX b o e) (by
   cases q:H b with
   |none=>rfl
   | some u=>
     have e':=hA b (by rw[q];simp)
     subst e';rw[hK (by rw[q];simp)] at e;cases e)
  have hM:Mod K mg (mR s₁.heap H):={J,y M,{mb,y j,hbb},let⟨mc,h1,h2⟩:=L;{mc,y h1,h2}}
  have e0:pD P w K mg (mR s₁.heap H) callerA [] s₁ H:={rfl,hM,λb o e=>Hj e,Nat.le_of_eq (Be _ _),trivial,λb j=>absurd (show b∈([]:List Addr) from j) `s,hok,.of_eq hg}
  refine codeAny_mono ((F _ J (y M)).run callerA [] s₁ H {[.ref a],[]} [.ref a] [.ref a] _ _ hr e0 (I s₁ (.ref a)) (.cons rfl .nil) (hsp H hO hS)) λr s' h=>?_;cases r with
  |error e=>exact(hCX H e s' h).elim
  | ok fl=>
    cases fl with
    |next=>exact False.elim h
    |brk=>exact False.elim h
    |cont=>exact False.elim h
    | ret u=>
      obtain⟨v,H',os,bare,un,O,r',q⟩:=h;have q':=q;subst q';obtain rfl:u=Value.bool true:=r';refine{rfl,OldK.of_keep λb o e=>?_,os,bare};cases q:H b with
      |none=>exact un.keep b o e q (by intro z;exact absurd (show b∈([]:List Addr) from z) `s) `s
      | some u=>
        rcases hO b with z|⟨ob,xs,z⟩
        ·rw[q] at z;cases z
        ·have z2:=un.frzs b ob _ z;obtain⟨e1,_⟩:=hok b _ z;obtain⟨e2,_⟩:=O b _ z2;rw[e] at e1;cases e1;exact e2
 cases hk:K.lookup a with
 | some o=>
   have e:=KX a o hk;rw[Y] at e;cases e;refine B (λ_=>none) (λ_=>.inl rfl) (.inr {_,vs.toArray,_,hk,rfl,rfl,rfl,by rw[Qw,R];exact hl,by simpa using rv}) (λb u z=>by have S:=z;cases S) (λb z=>absurd rfl z) λz=>absurd rfl z
 | none=>
   refine B (λb=>if b=a then some (.frz {cls:=.type "list",data:=.seq vs.toArray} (.lst (ns.map V.int))) else none) (λb=>?_) (.inl (.inr {{cls:=.type "list",data:=.seq vs.toArray},if_pos rfl})) (λb u z=>?_) (λb z=>?_) λ_=>hk
   ·by_cases j:b=a
    ·exact .inr {_,_,if_pos j}
    ·exact .inl (if_neg j)
   ·by_cases j:b=a
    ·have S:=(if_pos j).symm.trans z;cases S;subst j;exact{Y,by rw[Qk];exact hl,vs,_,rv,Y}
    ·have S:=(if_neg j).symm.trans z;cases S
   ·by_cases j:b=a
    ·exact j
    ·exact absurd (if_neg j) z
def F5 {l:PySem.W.OpenLaw}{K:RJ->Qf}{CX:QX->v7}{sp:QX->Sp}
 (hn:l.most=some n) (M:n<=sizeLine) (J:d.params.defaults=[]) (hr:cF k callerA)
 (hY:∀(w:QX) (h:Heap),YP w h->(K w.params).In h)
 (F:∀(w:QX) (mg:Str->Option Qj) (fa:Addr) (h:Heap),(K w.params).In h->h.Ns mainGlobals mg->mg d.name=some (.ref fa)->
  ∃fd:FuncData,(∀(s:Qn) (u:Qj),BindsTo s fd {[u],[]} [(x,u)])/\
   ∀base:Heap,(K w.params).In base->base.Ns mainGlobals mg->kY l.prog w (K w.params) mg base (CX w) k fa fd [x] (sp w))
 (O:∀(w:QX) (H:Hp) (a:Addr) (ns:List Int),ns.length<=n->zc H->dC (K w.params) H a (ns.map V.int)->sp w [.ref a] H (λv _=>v=.bl true) λ_ _ _=>False)
 (I:∀(w:QX) (H:Hp) (s:Qn) (e:Qj) (s':Qn),CX w [] H s (λ_ _ _=>False) e s'->False) :
 PySem.W.WalkO q loose XP YP l.row.toRowW d [] (λf vs=>PySem.call f vs):=by
 refine Att.attach_call hn J λw s₀ B mg mb fa o pm cd S a vs ns G Y ho hd hcd L z y j hg=>?_;have R:=hY w _ Y;obtain⟨fd,hb,U⟩:=F w mg fa _ R G.T.g L;exact Dk R G.T.g G.T.b G.T.builtins G.T.nolimit hg z y (Qs j M) hr U hb (λH hO hS=>O w H a ns j hO hS) λH e s'=>I w H B e s'
noncomputable def dO (s:Stmt):Arguments:=match s with
 |.FunctionDef _ a _ _ _ _ _ _ _ _=>a
 |_=>{posonlyargs:=[],args:=[],vararg:=none,kwonlyargs:=[],kw_defaults:=[],kwarg:=none,defaults:=[]}
noncomputable def cf (s:Stmt):List Stmt:=match s with
 |.FunctionDef _ _ b _ _ _ _ _ _ _=>b
 |_=>[]
noncomputable def aN (s:Stmt):Scope:=match s with
 |.FunctionDef _ _ _ _ _ _ sc _ _ _=>sc
 |_=>{kind:=.function,names:=[],isGenerator:=false,isCoroutine:=false}
abbrev E0:XK:=λ_ _ _=>False
structure oz (K:Qf) (x qual:Str) (st:Stmt) (f:Addr) (fd:FuncData):Prop where
 ex:∃(oc:Qj) (od:Option Addr) (kV doc pm:Qj) (an:Option Addr) (cdv ct:Qj) (osl:Array (Option Qj)),
  fd=PySem.W.fnOf x qual (dO st) (cf st) (aN st) .none kV doc pm an cdv ct/\K.lookup f=some {oc,od,.func fd,osl}/\PySem.W.codeIn K cdv qual=true
 kp:PySem.W.keepIn K (.ref f)=true
section
variable{P:Q0}{w:QX}{K:Qf}{mg:Str->Option Qj}{base:Heap}
def oz.binds {x qual:Str}{st:Stmt}{f:Addr}{fd:FuncData}{ps:List Str}(F:oz K x qual st f fd)
 (h:∀(kV y pm:Qj) (z:Option Addr) (j ct:Qj) (us:List Qj),us.length=ps.length->bindArgs (PySem.W.fnOf x qual (dO st) (cf st) (aN st) .none kV y pm z j ct) {us,[]}=pure (ps.zip us)):Binds K fd ps []:=by
 obtain⟨oc,od,kV,y,pm,z,j,ct,I,rfl,lk,B⟩:=F.ex;exact .all (h kV y pm z j ct)
def Bg {x qual:Str}{st:Stmt}{f:Addr}{oc:Qj}{od B:Option Addr}{z:Array (Option Qj)}{kV y pm j ct:Qj}(l:K.lookup f=some {oc,od,.func (PySem.W.fnOf x qual (dO st) (cf st) (aN st) .none kV y pm B j ct),z})
 (c:PySem.W.codeIn K j qual=true) (k:PySem.W.keepIn K (.ref f)=true):oz K x qual st f (PySem.W.fnOf x qual (dO st) (cf st) (aN st) .none kV y pm B j ct):={⟨oc,od,kV,y,pm,B,j,ct,z,rfl,l,c⟩,k}
end
end L2
namespace LD
open PySem
inductive D where
 |non|bl (b:Bool)|int (i:Int)|str (x:Str)|tup (ds:List D)|lst (ds:List D)|frz (ds:List D)|cell (k:Nat)|fn (f:Nat)|exc (c:Nat) (p:Option Int)
 deriving Inhabited
abbrev Mem:=List (List D)
abbrev Env:=List (Option D)
inductive Res (α:Type) where
 |ok (a:α) (M:Mem)
 |err (x:D) (M:Mem)
 |bad
noncomputable def Res.bind {h j:Type}(r:Res h)(f:h->Mem->Res j):Res j:=match r with
 |.ok a M=>f a M
 |.err x M=>.err x M
 |.bad=>.bad
@[simp] theorem Res.bind_ok {h j:Type}(a:h)(M:Mem)(f:h->Mem->Res j):(Res.ok a M).bind f=f a M:=rfl
@[simp] theorem Res.bind_err {h j:Type}(x:D)(M:Mem)(f:h->Mem->Res j):(Res.err x M:Res h).bind f=.err x M:=rfl
@[simp] theorem Res.bind_bad {h j:Type}(f:h->Mem->Res j):(Res.bad:Res h).bind f=.bad:=rfl
inductive oA where
 |add|sub|mul|fdiv|mod|pow
 deriving DecidableEq
inductive kj where
 |eq|ne|lt|le|gt|ge|isN|notN|isin|notin
 deriving DecidableEq
inductive Ty where
 |int|bool|str|tuple|list|own (c:Str)
 deriving DecidableEq
inductive xK where
 |len|tuple|list (m:Bool)|listR (m:Bool)|all|sum|repr
 deriving DecidableEq
inductive gG where
 |one (i:Nat)
 |tup (l:List Nat)
 |two (i:Nat) (l:List Nat)
noncomputable def sz:Nat:=16777216
noncomputable def bu (m:Bool)(ds:List D)(M:Mem):Res D:=if ds.length<=sz then(if m then .ok (.cell M.length) (M++[ds]) else .ok (.lst ds) M) else .bad
noncomputable def lU (ds:List D)(M:Mem):Res D:=if ds.length<=sz then .ok (.tup ds) M else .bad
noncomputable def b7 (M:Mem):D->Option (List D)
 |.lst h=>some h
 |.tup h=>some h
 |.frz h=>some h
 |.cell k=>M[k]?
 |_=>none
noncomputable def gE (M:Mem):D->Option (List D)
 |.lst h=>some h
 |.frz h=>some h
 |.cell k=>M[k]?
 |_=>none
noncomputable def j4 (M:Mem):D->Option (List D)
 |.lst h=>some h
 |.cell k=>M[k]?
 |_=>none
noncomputable def aE:Nat->D->Bool
 |_,.non=>true
 |_,.bl _=>true
 |_,.int _=>true
 |_,.str x=>x.cps.all (· < 0x110000)
 |n+1,.tup h=>h.all (aE n)
 |n+1,.lst h=>h.all (aE n)
 |0,.tup _=>false
 |0,.lst _=>false
 |_,.frz _=>false
 |_,.cell _=>false
 |_,.fn _=>false
 |_,.exc _ _=>false
mutual
noncomputable def dt:D->D->Bool
 |.non,.non=>true
 |.bl a,.bl b=>a==b
 |.bl a,.int b=>(if a then 1 else 0)==b
 |.int a,.bl b=>a==(if b then 1 else 0)
 |.int a,.int b=>a==b
 |.str a,.str b=>a==b
 |.tup a,.tup b=>fN a b
 |.lst a,.lst b=>fN a b
 |_,_=>false
noncomputable def fN:List D->List D->Bool
 |[],[]=>true
 |a::r,b::t=>dt a b&&fN r t
 |[],_::_=>false
 |_::_,[]=>false
end
noncomputable def iK:D->Bool
 |.str _=>true
 |_=>false
def qt (a b:D):Option Bool:=if iK a&&iK b||aE 64 a&&aE 64 b then some (dt a b) else none
noncomputable def view (M:Mem):D->D
 | .cell k=>match M[k]? with
   |some h=>.lst h
   |none=>.cell k
 |.frz h=>.lst h
 |d=>d
noncomputable def dg:Nat->Mem->D->D
 |0,_,d=>d
 | n+1,M,.cell k=>match M[k]? with
   |some h=>.lst (h.map (dg n M))
   |none=>.cell k
 |n+1,M,.frz h=>.lst (h.map (dg n M))
 |n+1,M,.lst h=>.lst (h.map (dg n M))
 |n+1,M,.tup h=>.tup (h.map (dg n M))
 |_+1,_,d=>d
def mW (M:Mem)(a b:D):Option Bool:=match qt (view M a) (view M b) with
 |some r=>some r
 |none=>qt (dg 64 M a) (dg 64 M b)
def kM (M:Mem):D->Option Bool
 |.non=>some false
 |.bl b=>some b
 |.int i=>some (i != 0)
 |.str x=>if x.cps.size<=sz then some (x.cps.size != 0) else none
 |.tup ds=>some (!ds.isEmpty)
 |.lst ds=>some (!ds.isEmpty)
 |.frz ds=>some (!ds.isEmpty)
 |.cell k=>(M[k]?).map λds=>!ds.isEmpty
 |.fn _=>none
 |.exc _ _=>none
def bC (n:Nat)(i:Int):Option Nat:=if 0<=i then(if i<n then some i.toNat else none) else if -(n:Int)<=i then some (i+n).toNat else none
def fM (m:Bool)(o:oA)(a b:D)(M:Mem):Res D:=match o,a,b with
 |.add,.int i,.int j=>.ok (.int (i+j)) M
 |.add,.str x,.str y=>if x.cps.size+y.cps.size<=sz then .ok (.str {x.cps++y.cps}) M else .bad
 |.add,.tup x,.tup y=>lU (x++y) M
 | .add,a,b=>match j4 M a,j4 M b with
   |some x,some y=>bu m (x++y) M
   |_,_=>.bad
 |.sub,.int i,.int j=>.ok (.int (i-j)) M
 |.mul,.int i,.int j=>if (-(2^64)<i/\i<2^64)\/(-(2^64)<j/\j<2^64) then .ok (.int (i*j)) M else .bad
 |.mul,.tup x,.int j=>if x.length*j.toNat<=sz/\-(2^63)<=j/\j<2^63 then .ok (.tup (List.replicate j.toNat x).flatten) M else .bad
 | .mul,a,.int j=>match j4 M a with
   |some x=>if x.length*j.toNat<=sz/\-(2^63)<=j/\j<2^63 then bu m (List.replicate j.toNat x).flatten M else .bad
   |none=>.bad
 |.fdiv,.int i,.int j=>if 0<j/\j<1073741824 then .ok (.int (i / j)) M else .bad
 |.mod,.int i,.int j=>if 0<j then .ok (.int (i % j)) M else .bad
 |.pow,.int i,.int j=>if 0<=j/\j<=1000000/\i.natAbs<2^64 then .ok (.int (i^j.toNat)) M else .bad
 |_,_,_=>.bad
def jC (x:D)(ds:List D):Option Bool:=if aE 64 x&&ds.all (aE 63) then some (ds.any λy=>dt y x) else none
noncomputable def my (x y:Str):Bool:=!(Builtin.Str.occurrences y x 0 y.length 1).isEmpty
noncomputable def intsOf:List D->Option (List Int)
 |[]=>some []
 |.int b::r=>(intsOf r).map (b::·)
 |_=>none
def mQ:D->Option (List Int)
 |.tup h=>intsOf h
 |_=>none
noncomputable def Fc:List D->Option (List (List Int))
 |[]=>some []
 |d::r=>(mQ d).bind λk=>(Fc r).map (k::·)
def K5:D->Option (List (List Int))
 |.tup h=>Fc h
 |_=>none
def isKey (c:Int)(d:D):Bool:=if c=77 then(mQ d).isSome else if c=78 then(K5 d).isSome else false
def PB (M:Mem)(o:Nat):Option (Int×List D):=if 5000<=o then(match M[o-5000]? with
 |some (.int c::es)=>if c=77\/c=78 then some (c,es) else none
 |_=>none) else none
def Pz:D->D
 |.tup [k,_]=>k
 |d=>d
def Py:D->D
 |.tup [_,v]=>v
 |d=>d
def Nb (es:List D)(k:D):Option D:=(es.find? λe=>dt (Pz e) k).map Py
def getD (M:Mem)(o:Nat)(k:D):Option D:=(PB M o).bind λq=>if isKey q.1 k then Nb q.2 k else none
noncomputable def kF:D->Bool
 |.non=>true
 |_=>false
def br (o:kj)(a b:D)(M:Mem):Option Bool:=match o,a,b with
 |.eq,a,b=>mW M a b
 |.ne,a,b=>(mW M a b).map (!·)
 |.lt,.int i,.int j=>some (decide (i<j))
 |.le,.int i,.int j=>some (decide (i<=j))
 |.gt,.int i,.int j=>some (decide (j<i))
 |.ge,.int i,.int j=>some (decide (j<=i))
 |.isN,a,.non=>some (kF a)
 |.notN,a,.non=>some (!kF a)
 |.isin,.str x,.str y=>some (my x y)
 |.notin,.str x,.str y=>some (!my x y)
 |.isin,a,b=>(b7 M b).bind (jC (view M a))
 |.notin,a,b=>((b7 M b).bind (jC (view M a))).map (!·)
 |_,_,_=>none
def bP (a i:D)(M:Mem):Option D:=match a,i with
 |.str x,.int i=>if x.cps.size<=sz then(bC x.cps.size i).bind λj=>(x.cps[j]?).map λc=>.str {#[c]} else none
 |a,.int i=>(b7 M a).bind λh=>(bC h.length i).bind λj=>h[j]?
 |_,_=>none
noncomputable def aM (n d:Nat):D->Option Nat
 |.non=>some d
 |.int v=>some (if v<0 then(v+(n:Int)).toNat else min v.toNat n)
 |_=>none
noncomputable def cv:Bool->D->Bool
 |true,.int _=>true
 |false,.non=>true
 |_,_=>false
noncomputable def cut {h:Type}(xs:List h)(lo hi:Nat):List h:=(xs.drop lo).take (hi-lo)
def cM (m:Bool)(a lo hi:D)(M:Mem):Res D:=match a with
 | .tup xs=>match aM xs.length 0 lo,aM xs.length xs.length hi with
   |some l,some h=>.ok (.tup (cut xs l h)) M
   |_,_=>.bad
 | a=>match gE M a with
   | some xs=>match aM xs.length 0 lo,aM xs.length xs.length hi with
     |some l,some h=>bu m (cut xs l h) M
     |_,_=>.bad
   |none=>.bad
def bY (t:Ty):D->Option Bool
 |.non=>some false
 |.bl _=>some (t==.bool||t==.int)
 |.int _=>some (t==.int)
 |.str _=>some (t==.str)
 |.tup _=>some (t==.tuple)
 |.lst _=>some (t==.list)
 |.frz _=>some (t==.list)
 |.cell _=>some (t==.list)
 |.fn _=>none
 |.exc _ _=>none
noncomputable def boolsOf:List D->Option (List Bool)
 |[]=>some []
 |.bl b::r=>(boolsOf r).map (b::·)
 |_=>none
def eQ (f:xK)(ds:List D)(M:Mem):Res D:=match f,ds with
 |.len,[.str x]=>if x.cps.size<=sz then .ok (.int x.cps.size) M else .bad
 | .len,[d]=>match b7 M d with
   |some xs=>.ok (.int xs.length) M
   |none=>.bad
 |.tuple,[.tup xs]=>.ok (.tup xs) M
 | .tuple,[d]=>match gE M d with
   |some xs=>.ok (.tup xs) M
   |none=>.bad
 | .list m,[d]=>match b7 M d with
   |some xs=>bu m xs M
   |none=>.bad
 |.listR m,[.int n]=>if n<2^20 then bu m ((List.range n.toNat).map λ(k:Nat)=>D.int (k:Int)) M else .bad
 | .all,[d]=>match gE M d with
   | some xs=>match boolsOf xs with
     |some bs=>.ok (.bl (bs.all id)) M
     |none=>.bad
   |none=>.bad
 | .sum,[d]=>match gE M d with
   | some xs=>match intsOf xs with
     |some is=>.ok (.int is.sum) M
     |none=>.bad
   |none=>.bad
 |_,_=>.bad
noncomputable def dA:List Nat->List D->Env->Option Env
 |[],[],h=>some h
 |i::l,d::ds,h=>dA l ds (h.set i (some d))
 |_,_,_=>none
def cy (t:gG)(d:D)(Z:Env):Option Env:=match t,d with
 |.one i,d=>some (Z.set i (some d))
 |.tup l,.tup h=>dA l h Z
 |.two i l,.tup [d,.tup h]=>dA l h (Z.set i (some d))
 |.tup _,_=>none
 |.two _ _,_=>none
abbrev Walk:=Mem->Option (List D)
noncomputable def dH:Nat->List D->List D
 |_,[]=>[]
 |k,d::r=>.tup [.int k,d]::dH (k+1) r
noncomputable def jx:List D->List D->List D
 |a::r,b::t=>.tup [a,b]::jx r t
 |_,_=>[]
noncomputable def f9:List D->List D->List D->List D
 |a::r,b::t,c::q=>.tup [a,b,c]::f9 r t q
 |_,_,_=>[]
noncomputable def gL {h:Type}(f:h->D->Mem->Res h)(w:Walk):Nat->Nat->h->Mem->Res h
 |0,_,_,_=>.bad
 | n+1,i,a,M=>match w M with
   |none=>.bad
   | some j=>match j[i]? with
     |none=>.ok a M
     |some d=>(f a d M).bind (gL f w n (i+1))
def dU {h:Type}(f:h->D->Mem->Res h)(w:Walk)(a:h)(M:Mem):Res h:=gL f w (((w M).getD []).length+1) 0 a M
noncomputable def b8 {h:Type}(M:Mem):Option h->Res h
 |some a=>.ok a M
 |none=>.bad
@[simp] theorem C4 {h:Type}(M:Mem)(a:h):b8 M (some a)=.ok a M:=rfl
@[simp] theorem OW {h:Type}(M:Mem):(b8 M none:Res h)=.bad:=rfl
inductive Fl where
 |next (Z:Env)
 |ret (d:D)
 |exc (x:D) (Z:Env)
def yW {a b:Int}:dt (.int a) (.int b)=(a==b):=rfl
def FN:dt (.str x) (.str y)=(x==y):=rfl
end LD
namespace LD
open PySem PySem.Spec PyProof.Rows L2
structure Mu where
 pub:Nat->Option Addr
 priv:List Addr
 ob:Nat->Option Addr
def Mu.Mt (μ:Mu)(a:Addr):Prop:=(∃k,μ.pub k=some a)\/a∈μ.priv
abbrev Fa:=Nat->Option Addr
def KL (K:Qf)(a:Addr)(xs:List V):Prop:=
 ∃(o:Obj) (h:Array Qj) (n:Nat),K.lookup a=some o/\o.cls=.type "list"/\o.dict=none/\o.data=.seq h n/\h.size<=sizeLine/\Vals xs h.toList
def xG (C:Addr)(u:Option Addr)(a:Addr)(h:Heap):Prop:=∃o j,h.get? a=some o/\o.cls=.ref C/\o.dict=u/\o.data=.fields j/\1<j.size
noncomputable def fU (c:Nat):Str:=if c=1 then "number" else "place"
def y8 (H:Hp)(c:Nat)(h:Option Addr):Option Int->Prop
 |none=>h=none
 |some i=>∃d,h=some d/\H d=some (.xd [(fU c,.int i)])
def fk (c:Nat):Nat:=1000+c
def mj (c:Nat):Nat:=900+c
section
variable(fa:Fa)(K:Qf)(μ:Mu)(H:Hp)
mutual
noncomputable def Rep:D->V->Prop
 |.non,v=>v=.non
 |.bl b,v=>v=.bl b
 |.int i,v=>v=.int i
 |.str x,v=>v=.str x
 |.tup j,v=>∃a h,v=.ref a/\d9 K H a h/\aO j h
 |.lst j,v=>∃a h,v=.ref a/\(H a=some (.lst h)/\¬ μ.Mt a)/\aO j h
 |.frz j,v=>∃a h,v=.ref a/\((∃ob,H a=some (.frz ob (.lst h)))\/KL K a h)/\aO j h
 |.cell k,v=>∃a,v=.ref a/\μ.pub k=some a
 |.fn f,v=>∃a,v=.ref a/\(fa f=some a\/(fa f=none/\μ.ob f=some a))
 |.exc c p,v=>∃a C u,v=.ref a/\fa (fk c)=some C/\H a=some (.ext (xG C u a))/\y8 H c u p
noncomputable def aO:List D->List V->Prop
 |[],h=>h=[]
 |d::ds,h=>∃v r,h=v::r/\Rep d v/\aO ds r
end
end
def IsX (o:HO):Prop:=(∃h,o=.ext h)\/∃fs,o=.xd fs
structure ExtW (μ:Mu) (H:Hp) (μ':Mu) (H':Hp):Prop where
 mu:∀k a,μ.pub k=some a->μ'.pub k=some a
 tups:∀a vs,Rd H a (.tup vs)->Rd H' a (.tup vs)
 lsts:∀a vs,H a=some (.lst vs)->¬ μ.Mt a->H' a=some (.lst vs)/\¬ μ'.Mt a
 frzs:∀a ob u,H a=some (.frz ob u)->H' a=some (.frz ob u)
 exts:∀a o,IsX o->H a=some o->H' a=some o
 obs:∀k a,μ.ob k=some a->μ'.ob k=some a
structure Ext (μ:Mu) (H:Hp) (μ':Mu) (H':Hp):Prop extends ExtW μ H μ' H' where
 pr:μ'.priv=μ.priv
 pk:∀a∈μ.priv,H' a=H a
def ExtW.refl:ExtW μ H μ H:={λ_ _ h=>h,λ_ _ h=>h,λ_ _ h n=>⟨h,n⟩,λ_ _ _ h=>h,λ_ _ _ h=>h,λ_ _ h=>h}
def ExtW.trans (a:ExtW μ H μ1 H1)(b:ExtW μ1 H1 μ2 H2):ExtW μ H μ2 H2:=
 {λk x h=>b.mu k x (a.mu k x h),λx j h=>b.tups x j (a.tups x j h),λx j h n=>b.lsts x j (a.lsts x j h n).1 (a.lsts x j h n).2,λx ob u h=>b.frzs x ob u (a.frzs x ob u h),λx o i h=>b.exts x o i (a.exts x o i h),λk x h=>b.obs k x (a.obs k x h)}
def Ext.refl:Ext μ H μ H:={.refl,rfl,λ_ _=>rfl}
def Ext.trans (a:Ext μ H μ1 H1)(b:Ext μ1 H1 μ2 H2):Ext μ H μ2 H2:=
 {a.toExtW.trans b.toExtW,b.pr.trans a.pr,λx h=>(b.pk x (by rw[a.pr];exact h)).trans (a.pk x h)}
section
variable{fa:Fa}{K:Qf}{μ μ':Mu}{H H':Hp}
def ExtW.sqT (x:ExtW μ H μ' H')(h:d9 K H a vs):d9 K H' a vs:=h.elim (λz=>.inl (x.tups a vs z)) .inr
mutual
theorem Rep.extW (x:ExtW μ H μ' H'):∀{d:D}{v:V},Rep fa K μ H d v->Rep fa K μ' H' d v
 |.non,v,h=>h
 |.bl b,v,h=>h
 |.int i,v,h=>h
 |.str y,v,h=>h
 | .tup u,v,h=>by
   obtain⟨a,j,e,s,r⟩:=h;exact{a,j,e,x.sqT s,aO.extW x r}
 | .lst u,v,h=>by
   obtain⟨a,j,e,s,r⟩:=h;exact{a,j,e,x.lsts a j s.1 s.2,aO.extW x r}
 | .frz u,v,h=>by
   obtain⟨a,j,e,s,r⟩:=h;exact{a,j,e,s.elim ((by rintro⟨ob,z⟩;exact .inl {ob,x.frzs a ob _ z})) .inr,aO.extW x r}
 | .cell k,v,h=>by
   obtain⟨a,e,m⟩:=h;exact{a,e,x.mu k a m}
 | .fn f,v,h=>by
   obtain⟨a,e,m⟩:=h;exact{a,e,m.imp id λz=>{z.1,x.obs _ _ z.2}}
 | .exc c p,v,h=>by
   obtain⟨a,C,B,e,f,g,n⟩:=h;refine{a,C,B,e,f,x.exts _ _ (.inl {_,rfl}) g,?_};cases p with
   |none=>exact n
   |some i=>exact let⟨d,h1,h2⟩:=n;{d,h1,x.exts _ _ (.inr {_,rfl}) h2}
theorem aO.extW (x:ExtW μ H μ' H'):∀{ds:List D}{vs:List V},aO fa K μ H ds vs->aO fa K μ' H' ds vs
 |[],vs,h=>h
 | d::ds,vs,h=>by
   obtain⟨v,r,e,p,q⟩:=h;exact{v,r,e,Rep.extW x p,aO.extW x q}
end
def Rep.ext (x:Ext μ H μ' H')(h:Rep fa K μ H d v):Rep fa K μ' H' d v:=Rep.extW x.toExtW h
def aO.ext (x:Ext μ H μ' H')(h:aO fa K μ H d v):aO fa K μ' H' d v:=aO.extW x.toExtW h
noncomputable def aO.length:∀{ds:List D}{vs:List V},aO fa K μ H ds vs->vs.length=ds.length
 | [],vs,h=>by
   subst h;rfl
 | d::ds,vs,h=>by
   obtain⟨v,r,e,p,q⟩:=h;subst e;simp[aO.length q]
theorem aO.get:∀{ds:List D}{vs:List V}{i:Nat}{d:D},aO fa K μ H ds vs->ds[i]?=some d->∃v,vs[i]?=some v/\Rep fa K μ H d v
 |[],_,_,_,_,e=>by simp at e
 | d::ds,vs,0,j,h,e=>by
   obtain⟨v,r,rfl,p,q⟩:=h;simp at e;subst e;exact⟨v,rfl,p⟩
 | d::ds,vs,i+1,j,h,e=>by
   obtain⟨v,r,rfl,p,q⟩:=h;obtain⟨u,h1,h2⟩:=aO.get q (by simpa using e)
   exact{u,by simpa using h1,h2}
noncomputable def aO.append:∀{ds es:List D}{vs ws:List V},aO fa K μ H ds vs->aO fa K μ H es ws->aO fa K μ H (ds++es) (vs++ws)
 | [],_,vs,_,h,g=>by
   subst h;exact g
 | d::ds,es,vs,ws,h,g=>by
   obtain⟨v,r,rfl,p,q⟩:=h;exact{v,r++ws,rfl,p,aO.append q g}
def aO.one (h:Rep fa K μ H d v):aO fa K μ H [d] [v]:={v,[],rfl,h,rfl}
noncomputable def aO.drop:∀(n:Nat) {ds:List D}{vs:List V},aO fa K μ H ds vs->aO fa K μ H (ds.drop n) (vs.drop n)
 |0,_,_,h=>h
 | n+1,[],vs,h=>by
   subst h;exact rfl
 | n+1,d::ds,vs,h=>by
   obtain⟨v,r,rfl,p,q⟩:=h;exact aO.drop n q
noncomputable def aO.take:∀(n:Nat) {ds:List D}{vs:List V},aO fa K μ H ds vs->aO fa K μ H (ds.take n) (vs.take n)
 |0,_,_,h=>rfl
 | n+1,[],vs,h=>by
   subst h;exact rfl
 | n+1,d::ds,vs,h=>by
   obtain⟨v,r,rfl,p,q⟩:=h;exact{v,r.take n,rfl,p,aO.take n q}
theorem aO.set:∀(n:Nat) {ds:List D}{vs:List V}{d:D}{v:V},aO fa K μ H ds vs->Rep fa K μ H d v->aO fa K μ H (ds.set n d) (vs.set n v)
 | _,[],vs,_,_,h,_=>by
   subst h;exact rfl
 | 0,d::ds,vs,_,j,h,g=>by
   obtain⟨v,r,rfl,p,q⟩:=h;exact⟨j,r,rfl,g,q⟩
 | n+1,d::ds,vs,_,j,h,g=>by
   obtain⟨v,r,rfl,p,q⟩:=h;exact{v,r.set n j,rfl,p,aO.set n q g}
noncomputable def aO.reverse:∀{ds:List D}{vs:List V},aO fa K μ H ds vs->aO fa K μ H ds.reverse vs.reverse
 | [],vs,h=>by
   subst h;exact rfl
 | d::ds,vs,h=>by
   obtain⟨v,r,rfl,p,q⟩:=h;rw[List.reverse_cons,List.reverse_cons];exact aO.append (aO.reverse q) (.one p)
noncomputable def aO.rep:∀(n:Nat) {ds:List D}{vs:List V},aO fa K μ H ds vs->aO fa K μ H (List.replicate n ds).flatten (List.replicate n vs).flatten
 |0,_,_,_=>rfl
 | n+1,ds,vs,h=>by
   rw[RK,RK,R4,R4];exact h.append (aO.rep n h)
noncomputable def aO.ints:∀(ns:List Int),aO fa K μ H (ns.map D.int) (ns.map V.int)
 |[]=>rfl
 |n::ns=>{.int n,ns.map V.int,rfl,rfl,aO.ints ns}
end
noncomputable def lZ:Nat->List Str
 |40=>["machine","standing","earlier"]
 |_=>[]
def uY (k:Nat):Nat:=5000+k
noncomputable def Fy (ks:List Int):Int:=reduceHash (Builtin.Tuple.tupleHashOf (ks.map hashInt))
noncomputable def MZ (h:List (List Int)):Int:=reduceHash (Builtin.Tuple.tupleHashOf (h.map Fy))
def yD (c:Int)(d:D):Option Int:=if c=77 then(mQ d).map Fy else if c=78 then(K5 d).map MZ else none
def PX (fa:Fa)(K:Qf)(μ:Mu)(H:Hp)(c:Int)(p:D×D)(e:RU):Prop:=∃b v,e.key=.ref b/\yD c p.1=some e.hash/\Rep fa K μ H p.1 (.ref b)/\RelV v e.val/\Rep fa K μ H p.2 v
def kW (fa:Fa)(K:Qf)(μ:Mu)(H:Hp)(a:Addr)(ds:List D):Prop:=
 (∃(c:Nat) (C u:Addr) (fs:List (Str×V)) (j:List D),fa (mj c)=some C/\H a=some (.ins C u fs)/\fs.map (·.1)=(lZ c).take fs.length/\ds=.int c::j/\aO fa K μ H j (fs.map (·.2)))\/
 ∃(c:Int) (j:List RU) (h:List (D×D)),H a=some (.dn j)/\(c=77\/c=78)/\ds=.int c::h.map (λp=>.tup [p.1,p.2])/\R5 (PX fa K μ H c) h j/\(h.map (·.1)).Nodup
def kW.extW {fa:Fa}{K:Qf}{μ μ':Mu}{H H':Hp}{a:Addr}{ds:List D}(h:kW fa K μ H a ds)(x:ExtW μ H μ' H')(e:H' a=H a):kW fa K μ' H' a ds:=
 h.imp ((by rintro⟨c,C,z,fs,j,h1,h2,h3,h4,u⟩;exact{c,C,z,fs,j,h1,e.trans h2,h3,h4,u.extW x}))
  (by rintro⟨c,j,y,h1,h2,h3,h4,u⟩;exact{c,j,y,e.trans h1,h2,h3,R5.mapP h4 λp q ⟨b,v,e1,e2,B,E,F⟩=>{b,v,e1,e2,B.extW x,E,F.extW x},u})
def kW.hold {fa:Fa}{K:Qf}{μ:Mu}{H:Hp}{a:Addr}{ds:List D}(h:kW fa K μ H a ds):∃o,H a=some o/\(∀vs,o≠.lst vs):=by
 rcases h with⟨_,_,_,_,_,_,h,_⟩|⟨_,_,_,h,_⟩
 ·exact{_,h,λ_ z=>by cases z}
 ·exact{_,h,λ_ z=>by cases z}
def kW.new {fa:Fa}{K:Qf}{μ:Mu}{H:Hp}{a p:Addr}{ds:List D}(h:kW fa K μ H a ds)(j:H p=none):a≠p:=let{_,e,_}:=h.hold;aX e j
def kW.nl {fa:Fa}{K:Qf}{μ:Mu}{H:Hp}{a p:Addr}{ds:List D}{vs:List V}(h:kW fa K μ H a ds)(j:H p=some (.lst vs)):a≠p:=λz=>by
 obtain⟨o,e,n⟩:=h.hold;rw[z,j] at e;cases e;exact n _ rfl
def NX (fa:Fa)(K:Qf)(μ:Mu)(H:Hp)(k:Nat)(ds:List D):Prop:=
 (∃a h,μ.pub k=some a/\H a=some (.lst h)/\aO fa K μ H ds h)\/∃a,μ.ob (uY k)=some a/\μ.pub k=none/\kW fa K μ H a ds
structure RelM (fa:Fa) (K:Qf) (μ:Mu) (H:Hp) (M:Mem):Prop where
 at':∀(k:Nat) (ds:List D),M[k]?=some ds->NX fa K μ H k ds
 out:∀(k:Nat),M.length<=k->μ.pub k=none
 oout:∀(k:Nat),M.length<=k->μ.ob (uY k)=none
 inj:∀j k a,μ.pub j=some a->μ.pub k=some a->j=k
 oinj:∀j k a,μ.ob (uY j)=some a->μ.ob (uY k)=some a->j=k
 sep:∀k a,μ.pub k=some a->μ.ob (uY k)=none
 pv:∀a∈μ.priv,(∃vs,H a=some (.lst vs))/\∀k,μ.pub k≠some a
structure bx (fa:Fa) (K:Qf) (μ:Mu) (H:Hp) (σ:L2.St) (Z:Env):Prop where
 len:σ.length=Z.length
 at':∀(i:Nat) (d:D),Z[i]?=some (some d)->∃v,σ[i]?=some (some v)/\Rep fa K μ H d v
section
variable{fa:Fa}{K:Qf}{μ μ':Mu}{H H':Hp}{σ:L2.St}{Z:Env}{M:Mem}
def bx.ext (h:bx fa K μ H σ Z)(x:Ext μ H μ' H'):bx fa K μ' H' σ Z:=
 {h.len,λi d e=>let⟨v,h1,h2⟩:=h.at' i d e;{v,h1,h2.ext x}}
def bx.set (h:bx fa K μ H σ Z){i:Nat}{d:D}{v:V}(r:Rep fa K μ H d v):bx fa K μ H (σ.set i (some v)) (Z.set i (some d)):=by
 refine{by simp[h.len],λj z e=>?_}
 by_cases y:j=i
 ·subst y;have hl:j<Z.length:=by
   have:=(Qg.mp e).1;simpa using this
  rw[QW hl] at e;cases e;exact{v,QW (by rw[h.len];exact hl),r}
 ·rw[QH (Ru y)] at e;obtain⟨u,h1,h2⟩:=h.at' j z e;exact{u,by rw[QH (Ru y)];exact h1,h2}
def bx.extW (h:bx fa K μ H σ Z)(x:ExtW μ H μ' H'):bx fa K μ' H' σ Z:=
 {h.len,λi d e=>let⟨v,h1,h2⟩:=h.at' i d e;{v,h1,h2.extW x}}
def RelM.mu_lt (h:RelM fa K μ H M)(e:μ.pub k=some a):∃ds vs,M[k]?=some ds/\H a=some (.lst vs)/\aO fa K μ H ds vs:=by
 by_cases hk:k<M.length
 ·rcases h.at' k M[k] (by simp[hk]) with⟨j,vs,h1,h2,h3⟩|⟨_,_,z,_⟩
  ·rw[e] at h1;cases h1;exact{_,vs,by simp[hk],h2,h3}
  ·rw[e] at z;cases z
 ·rw[h.out k `a] at e;cases e
def RelM.at_ (h:RelM fa K μ H M)(e:M[k]?=some ds)(p:μ.pub k=some a):∃vs,H a=some (.lst vs)/\aO fa K μ H ds vs:=by
 obtain⟨j,vs,h1,h2,h3⟩:=h.mu_lt p;rw[e] at h1;cases h1;exact⟨vs,h2,h3⟩
def RelM.fresh (h:RelM fa K μ H M)(j:H p=none):¬ μ.Mt p:=λe=>by
 rcases e with⟨k,e⟩|e
 ·obtain⟨v,u,_,h2,_⟩:=h.mu_lt e;rw[j] at h2;cases h2
 ·obtain⟨⟨u,h2⟩,_⟩:=h.pv p e;rw[j] at h2;cases h2
def RelM.pne (h:RelM fa K μ H M)(u:H p=none)(j:a∈μ.priv):a≠p:=λe=>by
 obtain⟨⟨v,h2⟩,_⟩:=h.pv a j;rw[e,u] at h2;cases h2
def Ext.alloc (h:RelM fa K μ H M)(j:H p=none):Ext μ H μ (upd H p o):=by
 have rd:∀a u,Rd H a u->Rd (upd H p o) a u:=λa u h=>by
  rcases h with h|⟨ob,h⟩
  ·exact .inl (by rw[aI (aX h j)];exact h)
  ·exact .inr {ob,by rw[aI (aX h j)];exact h}
 exact{{λ_ _ h=>h,λa y h=>rd a _ h,λa y h n=>{by rw[aI (aX h j)];exact h,n},λa ob u h=>by rw[aI (aX h j)];exact h,λa o _ h=>by rw[aI (aX h j)];exact h,λ_ _ h=>h},rfl,λa v=>by rw[aI (h.pne j v)]}
def RelM.alloc (h:RelM fa K μ H M)(j:H p=none):RelM fa K μ (upd H p o) M:=
 {λk y e=>(h.at' k y e).imp ((by rintro⟨a,v,h1,h2,h3⟩;exact{a,v,h1,by rw[aI (aX h2 j)];exact h2,h3.ext (Ext.alloc h j)})) (by rintro⟨a,h1,h2,h3⟩;exact{a,h1,h2,h3.extW (Ext.alloc h j).toExtW (aI (h3.new j))}),h.out,h.oout,h.inj,h.oinj,h.sep,λa u=>{let{⟨v,e⟩,_}:=h.pv a u;{v,by rw[aI (h.pne j u)];exact e},(h.pv a u).2}}
noncomputable def gn (μ:Mu)(n:Nat)(p:Addr):Mu:={λk=>if k=n then some p else μ.pub k,μ.priv,μ.ob}
set_option tactic.hygienic true in
def Ext.cell (h:RelM fa K μ H M)(j:H p=none):Ext μ H (gn μ M.length p) (upd H p o):=by
 have rd:∀a u,Rd H a u->Rd (upd H p o) a u:=λa u h=>by
  rcases h with h|⟨ob,h⟩
  ·exact .inl (by rw[aI (aX h j)];exact h)
  ·exact .inr {ob,by rw[aI (aX h j)];exact h}
 refine{{λk a e=>?_,λa y g=>rd a _ g,λa y g n=>{by rw[aI (aX g j)];exact g,λe=>?_},λa ob u h=>by rw[aI (aX h j)];exact h,λa o _ h=>by rw[aI (aX h j)];exact h,λ_ _ h=>h},rfl,λa v=>by rw[aI (h.pne j v)]}
 ·show(if k=M.length then some p else μ.pub k)=some a;split
  ·next q=>rw[q,h.out _ (Qo _)] at e;cases e
  ·exact e
 ·rcases e with⟨k,e⟩|e
  ·have e:(if k=M.length then some p else μ.pub k)=some a:=e;split at e
   ·cases e;exact aX g j rfl
   ·exact n (.inl ⟨k,e⟩)
  ·exact n (.inr e)
set_option tactic.hygienic true in
def RelM.cell (h:RelM fa K μ H M){p:Addr}{ds:List D}{vs:List V}(u:H p=none)(r:aO fa K μ H ds vs) :
 RelM fa K (gn μ M.length p) (upd H p (.lst vs)) (M++[ds]):=by
 have x:Ext μ H (gn μ M.length p) (upd H p (.lst vs)):=Ext.cell h u;have F:=h.fresh u;refine{λk v e=>?_,λk hk=>?_,λk hk=>h.oout k (by simp at hk;omega),λj k a h1 h2=>?_,h.oinj,λk a z=>?_,λa y=>?_}
 ·by_cases hk:k<M.length
  ·rw[QR hk] at e;rcases h.at' k v e with⟨a,E,h1,h2,h3⟩|⟨a,h1,h2,h3⟩
   ·exact .inl {a,E,x.mu k a h1,by rw[aI (aX h2 u)];exact h2,h3.ext x}
   ·exact .inr {a,h1,by show(if k=M.length then some p else μ.pub k)=none;rw[if_neg (Q3 hk)];exact h2,h3.extW x.toExtW (aI (h3.new u))}
  ·have B:k=M.length:=by
    have:=(Qg.mp e).1;simp at this;omega
   subst B;rw[Rq (Qo _)] at e;simp at e;subst e;exact .inl {p,vs,by simp[gn],bR,r.ext x}
 ·simp at hk;show(if k=M.length then some p else μ.pub k)=none;rw[if_neg `a]
  exact h.out k `a
 ·have h1:(if j=M.length then some p else μ.pub j)=some a:=h1;have h2:(if k=M.length then some p else μ.pub k)=some a:=h2;split at h1<;>split at h2
  ·omega
  ·cases h1;exact absurd (.inl ⟨k,h2⟩) F
  ·cases h2;exact absurd (.inl ⟨j,h1⟩) F
  ·exact h.inj j k a h1 h2
 ·have z:(if k=M.length then some p else μ.pub k)=some a:=z;show μ.ob (uY k)=none;split at z
  ·next e=>rw[e];exact h.oout _ (Qo _)
  ·exact h.sep k a z
 ·obtain⟨⟨E,e⟩,n⟩:=h.pv a y;refine{{E,by rw[aI (h.pne u y)];exact e},λk e2=>?_}
  have e2:(if k=M.length then some p else μ.pub k)=some a:=e2;split at e2
  ·cases e2;exact h.pne u y rfl
  ·exact n k e2
def ExtW.write (h2:H a=some (.lst vs))(e:μ.Mt a):ExtW μ H μ (upd H a (.lst ws)):=by
 have ne:∀b u,Rd H b u->(∀xs,u≠.lst xs)->b≠a:=λb u g j q=>by
  subst q;rcases g with g|⟨ob,g⟩
  ·rw[h2] at g;cases g;exact j _ rfl
  ·rw[h2] at g;cases g
 have rd:∀b u,b≠a->Rd H b u->Rd (upd H a (.lst ws)) b u:=λb u h g=>by
  rcases g with g|⟨ob,g⟩
  ·exact .inl (by rw[aI h];exact g)
  ·exact .inr {ob,by rw[aI h];exact g}
 exact{λ_ _ q=>q,λb v g=>rd b _ (ne b _ g (λxs q=>by cases q)) g,λb v g n=>{by rw[aI (λq=>n (by rw[q];exact e))];exact g,n},λb ob u g=>by rw[aI (λq=>by rw[q,h2] at g;cases g)];exact g,λb o i g=>by rw[aI (λq=>by rw[q,h2] at g;cases g;rcases i with⟨_,i⟩|⟨_,i⟩<;>cases i)];exact g,λ_ _ q=>q}
def Ext.write {k:Nat}{a:Addr}{vs ws:List V}(h:RelM fa K μ H M)(e:μ.pub k=some a):Ext μ H μ (upd H a (.lst ws)):=by
 obtain⟨u,vs,_,h2,_⟩:=h.mu_lt e;exact{ExtW.write h2 (.inl ⟨k,e⟩),rfl,λb j=>by rw[aI (λq=>(h.pv b j).2 k (by rw[q];exact e))]}
def RelM.write (h:RelM fa K μ H M){k:Nat}{a:Addr}{ds:List D}{ws:List V}(e:μ.pub k=some a)(r:aO fa K μ H ds ws):RelM fa K μ (upd H a (.lst ws)) (M.set k ds):=by
 have x:Ext μ H μ (upd H a (.lst ws)):=Ext.write (vs:=ws) h e;refine{λj y q=>?_,λj u=>h.out j (by simpa using u),λj u=>h.oout j (by simpa using u),h.inj,h.oinj,h.sep,λb v=>{let{⟨vs,g⟩,_}:=h.pv b v;{vs,by rw[x.pk b v];exact g},(h.pv b v).2}}
 by_cases u:j=k
 ·subst u;have hl:j<M.length:=by have:=(Qg.mp q).1;simpa using this
  rw[QW hl] at q;cases q;exact .inl {a,ws,e,bR,r.ext x}
 ·rw[QH (Ru u)] at q;rcases h.at' j y q with⟨b,vs,h1,h2,h3⟩|⟨b,h1,h2,h3⟩
  ·have B:b≠a:=λz=>u (h.inj j k a (z ▸ h1) e);exact .inl {b,vs,h1,by rw[aI B];exact h2,h3.ext x}
  ·obtain⟨_,_,_,hl,_⟩:=h.mu_lt e;exact .inr {b,h1,h2,h3.extW x.toExtW (aI (h3.nl hl))}
end
def ae {h:Type}(r:Res h)(k:h->Mem->Prop):Prop:=match r with
 |.ok a M=>k a M
 |_=>False
def aT {j u:Type}{r:Res j}{f:j->Mem->Res u}{k:u->Mem->Prop}(h:ae (r.bind f) k):∃a M,r=.ok a M/\ae (f a M) k:=by
 cases r with
 |ok a M=>exact⟨a,M,rfl,h⟩
 |err=>exact h.elim
 |bad=>exact h.elim
def nA {j:Type}{M:Mem}{o:Option j}{k:j->Mem->Prop}(h:ae (b8 M o) k):∃a,o=some a/\k a M:=by
 cases o with
 |none=>exact h.elim
 |some a=>exact⟨a,rfl,h⟩
def aA {j:Type}{r:Res j}{k k':j->Mem->Prop}(h:ae r k)(m:∀a M,k a M->k' a M):ae r k':=by
 cases r with
 |ok a M=>exact m a M h
 |err=>exact h
 |bad=>exact h
section
variable(fa:Fa)(K:Qf)
def bw (μ:Mu)(H:Hp)(Q:VK)(d:D)(M':Mem):Prop:=∀v H' μ',Ext μ H μ' H'->RelM fa K μ' H' M'->Rep fa K μ' H' d v->Q v H'
def tE (g:Env->Mem->Res D):TE:=λσ H Q=>∃μ Z M,bx fa K μ H σ Z/\RelM fa K μ H M/\ae (g Z M) (bw fa K μ H Q)
def tT (g:Env->Mem->Res Bool):TT:=λσ H Q=>∃μ Z M,bx fa K μ H σ Z/\RelM fa K μ H M/\ae (g Z M) λb h=>∀H' μ',Ext μ H μ' H'->RelM fa K μ' H' h->Q b H'
def tA (g:Env->Mem->Res (List D)):TA:=λσ H Q=>∃μ Z M,bx fa K μ H σ Z/\RelM fa K μ H M/\ae (g Z M) λu j=>∀h H' μ',Ext μ H μ' H'->RelM fa K μ' H' j->aO fa K μ' H' u h->Q h H'
end
def mv (New:Addr->Prop)(C:Addr)(v:Option Addr)(a:Addr)(h:Heap)(H:Hp):Prop:=New a/\H a=none/\∃o j,h.get? a=some o/\o.cls=.ref C/\o.dict=v/\o.data=.fields j/\
 (j[1]?=some .none\/∃T u ts,j[1]?=some (.ref T)/\T≠a/\New T/\H T=none/\h.get? T=some u/\u.data=.fields ts/\ts[3]?=some .none)
def ni (X:Cx)(b:Addr):Prop:=X.s₀.heap.get? b=none/\∀p∈X.pn,p.1≠b
def XW (fa:Fa)(X:Cx)(μ:Mu)(H:Hp)(x:D)(Z:Env)(M:Mem):Prop:=∀h j H' μ' u a C v c p,Inv X h j H' u->Ext μ H μ' H'->bx fa X.K μ' H' j Z->RelM fa X.K μ' H' M->x=.exc c p->fa (fk c)=some C->y8 H' c v p->mv (ni X) C v a u.heap H'->X.xe (.ref a) u
def sZ (fa:Fa)(X:Cx)(μ:Mu)(H:Hp)(D:Ends):Fl->Mem->Prop
 |.next h,j=>∀u H' μ',Ext μ H μ' H'->bx fa X.K μ' H' u h->RelM fa X.K μ' H' j->D.nx u H'
 |.ret d,j=>bw fa X.K μ H D.rt d j
 |.exc x h,j=>XW fa X μ H x h j
def tF (fa:Fa)(X:Cx)(g:Env->Mem->Res Fl):TS:=λD σ H=>∃μ Z M,bx fa X.K μ H σ Z/\RelM fa X.K μ H M/\ae (g Z M) (sZ fa X μ H D)
def XW.ext (h:XW fa X μ H x Z M)(y:Ext μ H μ' H'):XW fa X μ' H' x Z M:=λj v z u s1 a C B c p I e=>h j v z u s1 a C B c p I (y.trans e)
section
variable{fa:Fa}{K:Qf}{μ μ':Mu}{H H':Hp}{Q:VK}
def bw.ext (h:bw fa K μ H Q d M)(x:Ext μ H μ' H'):bw fa K μ' H' Q d M:=λv u j y m r=>h v u j (x.trans y) m r
def ky {r:Res D}(h:ae r (bw fa K μ H Q))(x:Ext μ H μ' H'):ae r (bw fa K μ' H' Q):=aA h λ_ _ w=>w.ext x
end
def bJ (h:PE X e t)(i:∀σ H Q,t' σ H Q->t σ H Q):PE X e t':=λj s σ H Q I q=>h j s σ H Q I (i σ H Q q)
def mG (h:PT X e t)(i:∀σ H Q,t' σ H Q->t σ H Q):PT X e t':=λj s σ H Q I q=>h j s σ H Q I (i σ H Q q)
def Ar (h:PW X e t)(i:∀σ H Q,t' σ H Q->t σ H Q):PW X e t':=λw j s σ H Q I q=>h w j s σ H Q I (i σ H Q q)
def AD (h:PA X e t)(i:∀σ H Q,t' σ H Q->t σ H Q):PA X e t':=λu j s σ H Q I q=>h u j s σ H Q I (i σ H Q q)
def fg (h:PS X e t)(i:∀D σ H,t' D σ H->t D σ H):PS X e t':=λj s σ H D I q=>h j s σ H D I (i D σ H q)
def wN (h:mr X e t)(i:∀D σ H,t' D σ H->t D σ H):mr X e t':=λj s σ H D I q=>h j s σ H D I (i D σ H q)
section
variable{fa:Fa}{K:Qf}{μ:Mu}{H:Hp}{σ:L2.St}{Z:Env}{M:Mem}
def t1 {g:Env->Mem->Res D}{B:Type}{f:D->Mem->Res B}{P:B->Mem->Prop}{R:V->Hp->Prop}(y:bx fa K μ H σ Z)(E:RelM fa K μ H M)(h:ae ((g Z M).bind f) P)
 (k:∀x M1 v u j,Ext μ H j u->bx fa K j u σ Z->RelM fa K j u M1->Rep fa K j u x v->ae (f x M1) P->R v u):tE fa K g σ H R:=by
 obtain⟨x,M1,e,q⟩:=aT h;refine{μ,Z,M,y,E,?_};rw[e];exact λv u j z F r1=>k x M1 v u j z (y.ext z) F r1 q
def zI {g:Env->Mem->Res Bool}{z:Type}{f:Bool->Mem->Res z}{P:z->Mem->Prop}{R:Bool->Hp->Prop}(v:bx fa K μ H σ Z)(B:RelM fa K μ H M)(h:ae ((g Z M).bind f) P)
 (k:∀b M1 u j,Ext μ H j u->bx fa K j u σ Z->RelM fa K j u M1->ae (f b M1) P->R b u):tT fa K g σ H R:=by
 obtain⟨b,M1,e,q⟩:=aT h;refine{μ,Z,M,v,B,?_};rw[e];exact λu j y E=>k b M1 u j y (v.ext y) E q
def rV {g:Env->Mem->Res (List D)}{B:Type}{f:List D->Mem->Res B}{P:B->Mem->Prop}{R:List V->Hp->Prop}(y:bx fa K μ H σ Z)(E:RelM fa K μ H M)(h:ae ((g Z M).bind f) P)
 (k:∀ds M1 vs u j,Ext μ H j u->bx fa K j u σ Z->RelM fa K j u M1->aO fa K j u ds vs->ae (f ds M1) P->R vs u):tA fa K g σ H R:=by
 obtain⟨ds,M1,e,q⟩:=aT h;refine{μ,Z,M,y,E,?_};rw[e];exact λv u j z F r1=>k ds M1 v u j z (y.ext z) F r1 q
end
mutual
noncomputable def toPy:D->PyData
 |.non=>.none
 |.bl b=>.bool b
 |.int i=>.int i
 |.str x=>.str x
 |.tup h=>.tuple (bK h)
 |.lst h=>.list (bK h)
 |.frz _=>.none
 |.cell _=>.none
 |.fn _=>.none
 |.exc _ _=>.none
noncomputable def bK:List D->List PyData
 |[]=>[]
 |d::r=>toPy d::bK r
end
def qI:∀(n:Nat) (d:D),aE n d=true->(toPy d).canLay0=true/\(toPy d).depth<=n:=by
 have all:∀(n:Nat),(∀d,aE n d=true->(toPy d).canLay0=true/\(toPy d).depth<=n)->∀j:List D,j.all (aE n)=true->PyData.canLayAll0 (bK j)=true/\PyData.depthAll (bK j)<=n:=by
  intro n h j;induction j with
  |nil=>intro _;simp[bK,PyData.canLayAll0,PyData.depthAll]
  | cons d r u=>
    intro q;simp only[Q7,Qh] at q;obtain⟨h1,h2⟩:=h d q.1;obtain⟨h3,h4⟩:=u q.2;simp only[bK,PyData.canLayAll0,PyData.depthAll,h1,h3,Bool.and_self,true_and];omega
 intro n;induction n with
 | zero=>
   intro d h;cases d with
   |str x=>exact{by simpa[toPy,PyData.canLay0,PyData.strOk,aE] using h,by simp[toPy,PyData.depth]}
   |tup _=>simp[aE] at h
   |lst _=>simp[aE] at h
   |frz _=>simp[aE] at h
   |cell _=>simp[aE] at h
   |fn _=>simp[aE] at h
   |exc y p=>simp[aE] at h
   |_=>exact{by simp[toPy,PyData.canLay0],by simp[toPy,PyData.depth]}
 | succ n u=>
   intro d h;cases d with
   |str x=>exact{by simpa[toPy,PyData.canLay0,PyData.strOk,aE] using h,by simp[toPy,PyData.depth]}
   | tup j=>
     obtain⟨h1,h2⟩:=all n u j (by simpa[aE] using h)
     simp only[toPy,PyData.canLay0,PyData.depth,h1,true_and];omega
   | lst j=>
     obtain⟨h1,h2⟩:=all n u j (by simpa[aE] using h)
     simp only[toPy,PyData.canLay0,PyData.depth,h1,true_and];omega
   |frz _=>simp[aE] at h
   |cell _=>simp[aE] at h
   |fn _=>simp[aE] at h
   |exc y p=>simp[aE] at h
   |_=>exact{by simp[toPy,PyData.canLay0],by simp[toPy,PyData.depth]}
def kr (h:aE 64 d=true):SeqAt.shaped (toPy d)=true:=by
 obtain⟨h1,h2⟩:=qI 64 d h;simp[SeqAt.shaped,h1,h2]
mutual
theorem nO:∀(n m:Nat) (a b:D),aE n a=true->aE m b=true->PyData.eqv (toPy a) (toPy b)=dt a b
 | n,m,.tup a,.tup b,h,j=>by
   cases n with
   |zero=>simp[aE] at h
   | succ n=>
     cases m with
     |zero=>simp[aE] at j
     | succ m=>
       exact ph n m a b (by simpa[aE] using h) (by simpa[aE] using j)
 | n,m,.lst a,.lst b,h,j=>by
   cases n with
   |zero=>simp[aE] at h
   | succ n=>
     cases m with
     |zero=>simp[aE] at j
     | succ m=>
       exact ph n m a b (by simpa[aE] using h) (by simpa[aE] using j)
 |n,m,.frz _,_,h,j=>by cases n<;>simp[aE] at h
 |n,m,.cell _,_,h,j=>by cases n<;>simp[aE] at h
 |n,m,.fn _,_,h,j=>by cases n<;>simp[aE] at h
 |n,m,.exc _ _,_,h,j=>by cases n<;>simp[aE] at h
 |n,m,_,.frz _,h,j=>by cases m<;>simp[aE] at j
 |n,m,_,.cell _,h,j=>by cases m<;>simp[aE] at j
 |n,m,_,.fn _,h,j=>by cases m<;>simp[aE] at j
 |n,m,_,.exc _ _,h,j=>by cases m<;>simp[aE] at j
 |_,_,.non,.non,_,_=>by first|rfl|simp[toPy,PyData.eqv];rfl
 |_,_,.non,.bl _,_,_=>by first|rfl|simp[toPy,PyData.eqv];rfl
 |_,_,.non,.int _,_,_=>by first|rfl|simp[toPy,PyData.eqv];rfl
 |_,_,.non,.str _,_,_=>by first|rfl|simp[toPy,PyData.eqv];rfl
 |_,_,.non,.tup _,_,_=>by first|rfl|simp[toPy,PyData.eqv];rfl
 |_,_,.non,.lst _,_,_=>by first|rfl|simp[toPy,PyData.eqv];rfl
 |_,_,.bl _,.non,_,_=>by first|rfl|simp[toPy,PyData.eqv];rfl
 |_,_,.bl _,.bl _,_,_=>by first|rfl|simp[toPy,PyData.eqv];rfl
 |_,_,.bl _,.int _,_,_=>by first|rfl|simp[toPy,PyData.eqv];rfl
 |_,_,.bl _,.str _,_,_=>by first|rfl|simp[toPy,PyData.eqv];rfl
 |_,_,.bl _,.tup _,_,_=>by first|rfl|simp[toPy,PyData.eqv];rfl
 |_,_,.bl _,.lst _,_,_=>by first|rfl|simp[toPy,PyData.eqv];rfl
 |_,_,.int _,.non,_,_=>by first|rfl|simp[toPy,PyData.eqv];rfl
 |_,_,.int _,.bl _,_,_=>by first|rfl|simp[toPy,PyData.eqv];rfl
 |_,_,.int _,.int _,_,_=>by first|rfl|simp[toPy,PyData.eqv];rfl
 |_,_,.int _,.str _,_,_=>by first|rfl|simp[toPy,PyData.eqv];rfl
 |_,_,.int _,.tup _,_,_=>by first|rfl|simp[toPy,PyData.eqv];rfl
 |_,_,.int _,.lst _,_,_=>by first|rfl|simp[toPy,PyData.eqv];rfl
 |_,_,.str _,.non,_,_=>by first|rfl|simp[toPy,PyData.eqv];rfl
 |_,_,.str _,.bl _,_,_=>by first|rfl|simp[toPy,PyData.eqv];rfl
 |_,_,.str _,.int _,_,_=>by first|rfl|simp[toPy,PyData.eqv];rfl
 |_,_,.str _,.str _,_,_=>by first|rfl|simp[toPy,PyData.eqv];rfl
 |_,_,.str _,.tup _,_,_=>by first|rfl|simp[toPy,PyData.eqv];rfl
 |_,_,.str _,.lst _,_,_=>by first|rfl|simp[toPy,PyData.eqv];rfl
 |_,_,.tup _,.non,_,_=>by first|rfl|simp[toPy,PyData.eqv];rfl
 |_,_,.tup _,.bl _,_,_=>by first|rfl|simp[toPy,PyData.eqv];rfl
 |_,_,.tup _,.int _,_,_=>by first|rfl|simp[toPy,PyData.eqv];rfl
 |_,_,.tup _,.str _,_,_=>by first|rfl|simp[toPy,PyData.eqv];rfl
 |_,_,.tup _,.lst _,_,_=>by first|rfl|simp[toPy,PyData.eqv];rfl
 |_,_,.lst _,.non,_,_=>by first|rfl|simp[toPy,PyData.eqv];rfl
 |_,_,.lst _,.bl _,_,_=>by first|rfl|simp[toPy,PyData.eqv];rfl
 |_,_,.lst _,.int _,_,_=>by first|rfl|simp[toPy,PyData.eqv];rfl
 |_,_,.lst _,.str _,_,_=>by first|rfl|simp[toPy,PyData.eqv];rfl
 |_,_,.lst _,.tup _,_,_=>by first|rfl|simp[toPy,PyData.eqv];rfl
theorem ph:∀(n m:Nat) (a b:List D),a.all (aE n)=true->b.all (aE m)=true->PyData.eqvAll (bK a) (bK b)=fN a b
 |n,m,[],[],_,_=>by simp[bK,PyData.eqvAll,fN]
 |n,m,[],_::_,_,_=>by simp[bK,PyData.eqvAll,fN]
 |n,m,_::_,[],_,_=>by simp[bK,PyData.eqvAll,fN]
 | n,m,x::a,y::b,h,j=>by
   simp only[Q7,Qh] at h j;simp only[bK,PyData.eqvAll,fN];rw[nO n m x y h.1 j.1,ph n m a b h.2 j.2]
end
section
variable{fa:Fa}{X:Cx}{μ:Mu}{H:Hp}{σ:L2.St}{pins:List (Addr×Obj)}{s:Qn}{M:Mem}
def jZ (j:RelM fa X.K μ H M)(h:Rep fa X.K μ H d v)(e:j4 M d=some ds):∃a vs,v=.ref a/\H a=some (.lst vs)/\aO fa X.K μ H ds vs:=by
 cases d with
 | lst xs=>
   cases e;obtain⟨a,vs,e,s,r⟩:=h;exact⟨a,vs,e,s.1,r⟩
 | cell k=>
   obtain⟨a,rfl,hk⟩:=h;obtain⟨vs,h2,h3⟩:=j.at_ e hk;exact⟨a,vs,rfl,h2,h3⟩
 |_=>cases e
def bW (j:RelM fa X.K μ H M)(h:Rep fa X.K μ H d v)(e:gE M d=some ds):∃a vs,v=.ref a/\dC X.K H a vs/\aO fa X.K μ H ds vs:=by
 cases d with
 | lst xs=>
   obtain⟨a,vs,h1,h2,h3⟩:=jZ j h e;exact{a,vs,h1,.of h2,h3}
 | frz xs=>
   cases e;obtain⟨a,vs,e,s,r⟩:=h;exact{a,vs,e,s.elim (λz=>.inl (.inr z)) .inr,r}
 | cell k=>
   obtain⟨a,vs,h1,h2,h3⟩:=jZ j h e;exact{a,vs,h1,.of h2,h3}
 |_=>cases e
def jY (j:RelM fa X.K μ H M)(h:Rep fa X.K μ H d v)(e:b7 M d=some ds):∃a vs,v=.ref a/\(dC X.K H a vs\/d9 X.K H a vs)/\aO fa X.K μ H ds vs:=by
 cases d with
 | tup xs=>
   cases e;obtain⟨a,vs,rfl,h1,h2⟩:=h;exact{a,vs,rfl,.inr h1,h2}
 | lst xs=>
   obtain⟨a,vs,h1,h2,h3⟩:=bW j h e;exact{a,vs,h1,.inl h2,h3}
 | frz xs=>
   obtain⟨a,vs,h1,h2,h3⟩:=bW j h e;exact{a,vs,h1,.inl h2,h3}
 | cell k=>
   obtain⟨a,vs,h1,h2,h3⟩:=bW j h e;exact{a,vs,h1,.inl h2,h3}
 |_=>cases e
mutual
theorem eI (I:Inv X pins σ H s):∀(d:D) (n:Nat) (v:V) (u:Qj),aE n d=true->Rep fa X.K μ H d v->RelV v u->∃z,Reads s.heap u (toPy d) z
 | .non,n,v,u,_,h,r=>by
   obtain rfl:v=.non:=h;obtain rfl:u=Value.none:=r;exact{_,.none}
 | .bl b,n,v,u,_,h,r=>by
   obtain rfl:v=.bl b:=h;obtain rfl:u=Value.bool b:=r;exact{_,.bool b}
 | .int i,n,v,u,_,h,r=>by
   obtain rfl:v=.int i:=h;obtain⟨t,rfl⟩:=r;exact{_,.int i t}
 | .str x,n,v,u,_,h,r=>by
   obtain rfl:v=.str x:=h;obtain⟨t,rfl⟩:=r;exact{_,.str x t}
 | .tup B,n,v,u,j,h,r=>by
   cases n with
   |zero=>simp[aE] at j
   | succ n=>
     obtain⟨a,J,rfl,h1,h2⟩:=h;obtain rfl:u=Value.ref a:=r;obtain⟨y,F,⟨o,e1,e2,k,E⟩,_⟩:=I.tuple h1;obtain⟨z,q⟩:=gk I B n J y (by simpa[aE] using j) h2 F
     exact{_,.tuple e1 e2 E (by simpa using q)}
 | .lst B,n,v,u,j,h,r=>by
   cases n with
   |zero=>simp[aE] at j
   | succ n=>
     obtain⟨a,J,rfl,h1,h2⟩:=h;obtain rfl:u=Value.ref a:=r;obtain⟨y,F,⟨o,k,e1,e2,L,E⟩,_⟩:=I.list (dC.of h1.1);obtain⟨z,q⟩:=gk I B n J y (by simpa[aE] using j) h2 F
     exact{_,.list e1 e2 E (by simpa using q)}
 |.frz k,n,v,u,j,_,_=>by cases n<;>simp[aE] at j
 |.cell k,n,v,u,j,_,_=>by cases n<;>simp[aE] at j
 |.fn f,n,v,u,j,_,_=>by cases n<;>simp[aE] at j
 |.exc _ _,n,v,u,j,_,_=>by cases n<;>simp[aE] at j
theorem gk (I:Inv X pins σ H s):∀(ds:List D) (n:Nat) (vs:List V) (us:List Qj),ds.all (aE n)=true->aO fa X.K μ H ds vs->Vals vs us->∃u,ReadsAll s.heap us (bK ds) u
 | [],n,vs,us,_,h,r=>by
   obtain rfl:vs=[]:=h;cases r;exact{_,.nil}
 | d::ds,n,vs,us,j,h,r=>by
   obtain⟨v,vr,rfl,h1,h2⟩:=h;simp only[Q7,Qh] at j;cases r with
   | cons r1 r2=>
     obtain⟨u,y⟩:=eI I d n v _ j.1 h1 r1;obtain⟨bs,z⟩:=gk I ds n vr _ j.2 h2 r2;exact{_,.cons y z}
end
def F7 (h:aE n (view M d)=true):(view M d=d/\aE n d=true)\/∃ds,gE M d=some ds/\view M d=.lst ds:=by
 cases d with
 | cell k=>
   cases e:M[k]? with
   | none=>
     have j:view M (.cell k)=.cell k:=by simp[view,e]
     rw[j] at h;cases n<;>simp[aE] at h
   |some ds=>exact .inr {ds,e,by simp[view,e]}
 |frz ds=>exact .inr ⟨ds,rfl,rfl⟩
 |_=>exact .inl ⟨rfl,h⟩
def lG (I:Inv X pins σ H s)(L:RelM fa X.K μ H M)(j:aE 64 (view M d)=true)(h:Rep fa X.K μ H d v)(r:RelV v u):∃B,Reads s.heap u (toPy (view M d)) B:=by
 rcases F7 j with⟨e,y⟩|⟨E,e,J⟩
 ·rw[e];exact eI I _ 64 v u y h r
 ·rw[J] at j ⊢;obtain⟨a,P,rfl,h1,h2⟩:=bW L h e;obtain rfl:u=Value.ref a:=r;obtain⟨z,O,⟨o,k,e1,e2,Q,F⟩,_⟩:=I.list h1;obtain⟨B,q⟩:=gk I E 63 P z (by simpa[aE] using j) h2 O
  exact{_,.list e1 e2 F (by simpa using q)}
theorem kL (I:Inv X pins σ H s)(J:RelM fa X.K μ H M):∀(n m:Nat) (d:D) (v:V) (u:Qj),aE m (dg n M d)=true->Rep fa X.K μ H d v->RelV v u->∃E,Reads s.heap u (toPy (dg n M d)) E
 |0,m,d,v,u,j,h,r=>eI I d m v u j h r
 | n+1,m,d,v,u,j,h,r=>by
   have S:=kL I J n;have all:∀(m:Nat) (z:List D) (B:List V) (L:List Qj),(z.map (dg n M)).all (aE m)=true->aO fa X.K μ H z B->Vals B L->∃E,ReadsAll s.heap L (bK (z.map (dg n M))) E:=by
    intro m z;induction z with
    | nil=>
      intro B L _ h r;obtain rfl:B=[]:=h;cases r;exact{_,.nil}
    | cons d z Q=>
      intro B L j h r;obtain⟨v,vr,rfl,h1,h2⟩:=h;simp only[Sb,Q7,Qh] at j;cases r with
      | cons r1 r2=>
        obtain⟨E,U⟩:=S m d v _ j.1 h1 r1;obtain⟨bs,W⟩:=Q vr _ j.2 h2 r2;exact{_,.cons U W}
   have lst:∀(z:List D) (a:Addr) (B:List V),aE m (.lst (z.map (dg n M)))=true->dC X.K H a B->aO fa X.K μ H z B->u=.ref a->∃E,Reads s.heap u (toPy (.lst (z.map (dg n M)))) E:=by
    intro z a B j h1 h2 e;subst e;cases m with
    |zero=>simp[aE] at j
    | succ m=>
      obtain⟨F,R,⟨o,k,e1,e2,Y,O⟩,_⟩:=I.list h1;obtain⟨E,q⟩:=all m z B F (by simpa[aE] using j) h2 R
      exact{_,.list e1 e2 O (by simpa using q)}
   cases d with
   | cell k=>
     cases e:M[k]? with
     | none=>
       have P:dg (n+1) M (.cell k)=.cell k:=by simp[dg,e]
       rw[P] at j;cases m<;>simp[aE] at j
     | some z=>
       have P:dg (n+1) M (.cell k)=.lst (z.map (dg n M)):=by simp[dg,e]
       rw[P] at j ⊢;obtain⟨a,B,rfl,h1,h2⟩:=bW J h e;exact lst z a B j h1 h2 r
   | frz z=>
     obtain⟨a,B,rfl,h1,h2⟩:=bW J h rfl;exact lst z a B j h1 h2 r
   | lst z=>
     obtain⟨a,B,rfl,h1,h2⟩:=bW J h rfl;exact lst z a B j h1 h2 r
   | tup z=>
     have j:aE m (.tup (z.map (dg n M)))=true:=j;cases m with
     |zero=>simp[aE] at j
     | succ m=>
       obtain⟨a,B,rfl,h1,h2⟩:=h;obtain rfl:u=Value.ref a:=r;obtain⟨F,R,⟨o,e1,e2,k,O⟩,_⟩:=I.tuple h1;obtain⟨E,q⟩:=all m z B F (by simpa[aE] using j) h2 R
       exact{_,.tuple e1 e2 O (by simpa using q)}
   |non=>exact eI I .non m v u j h r
   |bl b=>exact eI I (.bl b) m v u j h r
   |int i=>exact eI I (.int i) m v u j h r
   |str x=>exact eI I (.str x) m v u j h r
   |fn f=>exact eI I (.fn f) m v u j h r
   |exc y p=>exact eI I (.exc y p) m v u j h r
abbrev Rm (X:Cx):Prop:=X.A.units+100<cLine
def h9 (fa:Fa)(K:Qf)(o:kj):R2:=λx y H Q=>∃μ M h j b,RelM fa K μ H M/\Rep fa K μ H h x/\Rep fa K μ H j y/\br o h j M=some b/\Q (.bl b) H
set_option tactic.hygienic true in
def vp (hs:(iK a&&iK b)=false)(h:qt a b=some k):aE 64 a=true/\aE 64 b=true/\k=dt a b:=by
 unfold qt at h;rw[hs,Bool.false_or] at h;split at h
 ·next q=>
  simp only[Qh] at q;exact{q.1,q.2,(Qp h).symm}
 ·cases h
def vg (d:D):iK (view M d)=iK d:=by
 cases d with
 |cell k=>cases e:M[k]?<;>simp[view,e,iK]
 |_=>rfl
def sx (n:Nat)(d:D):iK (dg n M d)=iK d:=by
 cases n with
 |zero=>rfl
 | succ n=>
   cases d with
   |cell k=>cases e:M[k]?<;>simp[dg,e,iK]
   |_=>rfl
def sH (I:Inv X pins σ H s)(z:RelM fa X.K μ H M)(hs:(iK a&&iK b)=false)(h:mW M a b=some k)(h1:Rep fa X.K μ H a x)(h2:Rep fa X.K μ H b y)(B:RelV x v)(E:RelV y u) :
 ∃c e j bs,aE 64 c=true/\aE 64 e=true/\k=dt c e/\Reads s.heap v (toPy c) j/\Reads s.heap u (toPy e) bs:=by
 unfold mW at h;cases q:qt (view M a) (view M b) with
 | some r=>
   rw[q] at h;cases h;obtain⟨p1,p2,e⟩:=vp (by rw[vg,vg];exact hs) q
   obtain⟨j,r1⟩:=lG I z p1 h1 B;obtain⟨bs,r2⟩:=lG I z p2 h2 E;exact{_,_,j,bs,p1,p2,e,r1,r2}
 | none=>
   rw[q] at h;obtain⟨p1,p2,e⟩:=vp (by rw[sx,sx];exact hs) h
   obtain⟨j,r1⟩:=kL I z 64 64 a x v p1 h1 B;obtain⟨bs,r2⟩:=kL I z 64 64 b y u p2 h2 E;exact{_,_,j,bs,p1,p2,e,r1,r2}
def uk (h:(iK a&&iK b)=true):∃x y,a=.str x/\b=.str y:=by
 cases a with
 | str x=>
   cases b with
   |str y=>exact⟨x,y,rfl,rfl⟩
   |_=>cases h
 |_=>cases h
def xq:mW M (.str x) (.str y)=some (x==y):=by
 have e:dt (.str x) (.str y)=(x==y):=rfl;rw[<- e];rfl
def PQ (L:Rm X):bU X (compareOp .Eq) (h9 fa X.K .eq):=by
 intro pins s σ H x y v u Q I z B h;obtain⟨μ,M,E,F,b,J,h1,h2,e,q⟩:=h;cases hs:iK E&&iK F with
 | true=>
   obtain⟨i,j,rfl,rfl⟩:=uk hs;obtain rfl:x=.str i:=h1;obtain rfl:y=.str j:=h2;obtain rfl:(i==j)=b:=Qp (xq.symm.trans e);exact MX pins s σ H _ _ v u Q I z B {rfl,by rw[nR];exact q}
 | false=>
   obtain⟨_,_,O,bs,p1,p2,rfl,r1,r2⟩:=sH I J hs (e) h1 h2 z B;refine SeqAt.compareEq_shaped r1 r2 (kr p1) (kr p2) (by unfold Rm at L;omega) ?_
   rw[nO 64 64 _ _ p1 p2];exact{.bl _,H,I,rfl,q}
def PH (O:Rm X):bU X (compareOp .NotEq) (h9 fa X.K .ne):=by
 intro pins s σ H x y v u Q I F J h;obtain⟨μ,M,B,E,b,L,h1,h2,e,q⟩:=h;have e:(mW M B E).map (!·)=some b:=e;cases z:mW M B E with
 |none=>rw[z] at e;cases e
 | some k=>
   rw[z] at e;obtain rfl:(!k)=b:=Qp e;cases hs:iK B&&iK E with
   | true=>
     obtain⟨i,j,rfl,rfl⟩:=uk hs;obtain rfl:x=.str i:=h1;obtain rfl:y=.str j:=h2;obtain rfl:(i==j)=k:=Qp (xq.symm.trans z);exact MS pins s σ H _ _ v u Q I F J {rfl,by rw[nR];exact q}
   | false=>
     obtain⟨_,_,P,bs,p1,p2,rfl,r1,r2⟩:=sH I L hs z h1 h2 F J;refine SeqAt.compareNe_shaped r1 r2 (kr p1) (kr p2) (by unfold Rm at O;omega) ?_
     rw[nO 64 64 _ _ p1 p2];exact{.bl _,H,I,rfl,q}
end
section
variable{fa:Fa}{X:Cx}{μ:Mu}{H:Hp}{σ:L2.St}{pins:List (Addr×Obj)}{s:Qn}{M:Mem}
def jl (h:bU X f r)(i:∀x y H Q,r' x y H Q->r x y H Q):bU X f r':=λpins s σ H x y v u Q I j z q=>h pins s σ H x y v u Q I j z (i x y H Q q)
def l6 (h:c4 X f r)(i:∀xs H Q,r' xs H Q->r xs H Q):c4 X f r':=λpins s σ H xs u Q I j q=>h pins s σ H xs u Q I j (i xs H Q q)
def nU {g:Int->Int->Bool}(ho:o=.lt\/o=.le\/o=.gt\/o=.ge)(F:∀i j,br o (.int i) (.int j) []=some (g i j))(h:h9 fa X.K o x y H Q) :
 ∃i j,x=.int i/\y=.int j/\Q (.bl (g i j)) H:=by
 obtain⟨μ,M,v,z,b,I,h1,h2,e,q⟩:=h;have u:∀i j,v=.int i->z=.int j->∃i j,x=.int i/\y=.int j/\Q (.bl (g i j)) H:=λi j e1 e2=>by
  subst e1 e2;have B:br o (.int i) (.int j) M=some (g i j):=by
   have:=F i j;rcases ho with rfl|rfl|rfl|rfl<;>exact this
  rw[e] at B;have E:=Qp B;subst E;exact⟨i,j,h1,h2,q⟩
 rcases ho with rfl|rfl|rfl|rfl<;>
 ·cases v with
  |int i=>cases z<;>first|exact u _ _ rfl rfl|cases e
  |_=>cases e
def PJ:bU X (compareOp .Lt) (h9 fa X.K .lt):=jl MT λx y H Q h=>nU (.inl rfl) (λ_ _=>rfl) h
def PK:bU X (compareOp .LtE) (h9 fa X.K .le):=jl MU λx y H Q h=>nU (.inr (.inl rfl)) (λ_ _=>rfl) h
def PM:bU X (compareOp .Gt) (h9 fa X.K .gt):=jl MV λx y H Q h=>nU (.inr (.inr (.inl rfl))) (λ_ _=>rfl) h
def PN:bU X (compareOp .GtE) (h9 fa X.K .ge):=jl MW λx y H Q h=>nU (.inr (.inr (.inr rfl))) (λ_ _=>rfl) h
def wJ {K:Qf}(h:Rep fa K μ H d v):decide (v=.non)=kF d:=by
 cases d with
 |non=>obtain rfl:v=.non:=h;rfl
 |bl b=>obtain rfl:v=.bl b:=h;rfl
 |int b=>obtain rfl:v=.int b:=h;rfl
 |str b=>obtain rfl:v=.str b:=h;rfl
 |tup b=>obtain⟨a,j,rfl,_⟩:=h;rfl
 |lst b=>obtain⟨a,j,rfl,_⟩:=h;rfl
 |frz b=>obtain⟨a,j,rfl,_⟩:=h;rfl
 |cell b=>obtain⟨a,rfl,_⟩:=h;rfl
 |fn b=>obtain⟨a,rfl,_⟩:=h;rfl
 |exc y p=>obtain⟨a,_,_,rfl,_⟩:=h;rfl
def NO:bU X (compareOp .Is) (h9 fa X.K .isN):=jl Kd λx y H Q h=>by
 obtain⟨μ,M,u,j,b,v,h1,h2,e,q⟩:=h;cases j<;>first|cases (show(none:Option Bool)=some b from e)|skip
 refine{h2,?_};rw[wJ h1];rw[Qp e];exact q
def LU:bU X (compareOp .IsNot) (h9 fa X.K .notN):=jl Hg λx y H Q h=>by
 obtain⟨μ,M,u,j,b,v,h1,h2,e,q⟩:=h;cases j<;>first|cases (show(none:Option Bool)=some b from e)|skip
 refine{h2,?_};rw[wJ h1];rw[Qp e];exact q
noncomputable def vW (x:D)(j:aE 64 x=true):∀(ds:List D),ds.all (aE 63)=true->((bK ds).any λy=>PyData.eqv y (toPy x))=ds.any λy=>dt y x
 |[],_=>rfl
 | d::r,h=>by
   simp only[Q7,Qh] at h;simp only[bK,List.any_cons,nO 63 64 d x h.1 j,vW x j r h.2]
theorem ue (n:Nat):∀ds:List D,ds.all (aE n)=true->PyData.canLayAll0 (bK ds)=true/\PyData.depthAll (bK ds)<=n
 |[],_=>by simp[bK,PyData.canLayAll0,PyData.depthAll]
 | d::r,h=>by
   simp only[Q7,Qh] at h;obtain⟨h1,h2⟩:=qI n d h.1;obtain⟨h3,h4⟩:=ue n r h.2;simp only[bK,PyData.canLayAll0,PyData.depthAll,h1,h3,Bool.and_self,true_and];omega
def Ae (I:Inv X pins σ H s)(J:RelM fa X.K μ H M)(E:ds.all (aE 63)=true)(h:Rep fa X.K μ H d v)(r:RelV v u)(e:b7 M d=some ds) :
 (∃y,Reads s.heap u (.list (bK ds)) y)\/∃y,Reads s.heap u (.tuple (bK ds)) y:=by
 obtain⟨a,F,rfl,h1,h2⟩:=jY J h e;obtain rfl:u=Value.ref a:=r;rcases h1 with h1|h1
 ·obtain⟨j,B,⟨o,k,e1,e2,L,z⟩,_⟩:=I.list h1;obtain⟨y,q⟩:=gk I ds 63 F j E h2 B;exact .inl {_,.list e1 e2 z (by simpa using q)}
 ·obtain⟨j,B,⟨o,e1,e2,k,z⟩,_⟩:=I.tuple h1;obtain⟨y,q⟩:=gk I ds 63 F j E h2 B;exact .inr {_,.tuple e1 e2 z (by simpa using q)}
set_option tactic.hygienic true in
def Ba (L:Rm X)(I:Inv X pins σ H s)(F:RelM fa X.K μ H M)(h1:Rep fa X.K μ H dx x)(h2:Rep fa X.K μ H dy y)(O:RelV x v)(P:RelV y u)
 (e1:b7 M dy=some ds) (e2:jC (view M dx) ds=some b) (j:Bool) (q:Q (.bool (if j then !b else b)) s):wpAny (model X.prog X.w) X.A (compareOp (if j then .NotIn else .In) v u) Q X.xe s:=by
 unfold jC at e2;split at e2
 ·next z=>
  simp only[Qh] at z;obtain⟨p1,p2⟩:=z;have J:=Qp e2;subst J;obtain⟨R,r1⟩:=lG I F p1 h1 O;obtain⟨B,d1⟩:=qI 64 _ p1;obtain⟨E,S⟩:=ue 63 ds p2;have h:X.A.units+1+min (PyData.depthAll (bK ds)) (toPy (view M dx)).depth<cLine:=by unfold Rm at L;omega
  rw[<- vW _ p1 ds p2] at q;rcases Ae I F p2 h2 P e1 with⟨bs,r2⟩|⟨bs,r2⟩
  ·cases j
   ·exact SeqAt.in_list_reads r2 r1 E B h q
   ·exact SeqAt.notIn_list_reads r2 r1 E B h q
  ·cases j
   ·exact SeqAt.in_tuple_reads r2 r1 E B h q
   ·exact SeqAt.notIn_tuple_reads r2 r1 E B h q
 ·cases e2
def PL (L:Rm X):bU X (compareOp .In) (h9 fa X.K .isin):=by
 intro pins s σ H x y v u Q I B E h;obtain⟨μ,M,z,j,b,J,h1,h2,e,q⟩:=h;have gen:(b7 M j).bind (jC (view M z))=some b->wpAny (model X.prog X.w) X.A (compareOp .In v u) (EP X pins σ Q) X.xe s:=λe=>by
  cases e1:b7 M j with
  |none=>rw[e1] at e;cases e
  | some O=>
    rw[e1] at e;exact Ba L I J h1 h2 B E e1 e false {.bl b,H,I,rfl,q}
 by_cases hs:(∃a,z=.str a)/\∃c,j=.str c
 ·obtain⟨⟨a,rfl⟩,c,rfl⟩:=hs;have F:=Qp e;subst F;exact AE pins s σ H x y v u Q I B E ⟨a,c,h1,h2,q⟩
 ·refine gen ?_;cases z<;>first|exact e|(cases j<;>first|exact e|exact absurd {{_,rfl},_,rfl} hs)
def Im (O:Rm X):bU X (compareOp .NotIn) (h9 fa X.K .notin):=by
 intro pins s σ H x y v u Q I E F h;obtain⟨μ,M,j,z,b,L,h1,h2,e,q⟩:=h;have gen:((b7 M z).bind (jC (view M j))).map (!·)=some b->wpAny (model X.prog X.w) X.A (compareOp .NotIn v u) (EP X pins σ Q) X.xe s:=λe=>by
  cases e1:b7 M z with
  |none=>rw[e1] at e;cases e
  | some J=>
    rw[e1] at e;cases e2:jC (view M j) J with
    |none=>rw[RY,e2] at e;cases e
    | some k=>
      rw[RY,e2] at e;have B:=Qp e;subst B;exact Ba O I L h1 h2 E F e1 e2 true {.bl _,H,I,rfl,q}
 by_cases hs:(∃a,j=.str a)/\∃c,z=.str c
 ·obtain⟨⟨a,rfl⟩,c,rfl⟩:=hs;have B:=Qp e;subst B;exact uV pins s σ H x y v u Q I E F ⟨a,c,h1,h2,q⟩
 ·refine gen ?_;cases j<;>first|exact e|(cases z<;>first|exact e|exact absurd {{_,rfl},_,rfl} hs)
noncomputable def fz:kj->CmpOp
 |.eq=>.Eq|.ne=>.NotEq|.lt=>.Lt|.le=>.LtE|.gt=>.Gt|.ge=>.GtE|.isN=>.Is|.notN=>.IsNot|.isin=>.In|.notin=>.NotIn
def nW (h:Rm X):∀o:kj,bU X (compareOp (fz o)) (h9 fa X.K o)
 |.eq=>PQ h|.ne=>PH h|.lt=>PJ|.le=>PK|.gt=>PM|.ge=>PN|.isN=>NO|.notN=>LU|.isin=>PL h|.notin=>Im h
def mD (fa:Fa)(K:Qf)(m:Bool)(o:oA):R2:=λx y H Q=>∃μ M h j,RelM fa K μ H M/\Rep fa K μ H h x/\Rep fa K μ H j y/\ae (fM m o h j M) (bw fa K μ H Q)
def a7 (j:RelM fa X.K μ H M)(h:bw fa X.K μ H Q d M)(r:Rep fa X.K μ H d v):Q v H:=h v H μ .refl j r
set_option tactic.hygienic true in
def gR (j:RelM fa X.K μ H M)(r:aO fa X.K μ H ds vs)(h:ae (bu m ds M) (bw fa X.K μ H Q)):ds.length<=sz/\∀p,H p=none->Q (.ref p) (upd H p (.lst vs)):=by
 unfold bu at h;split at h
 ·next v=>
  refine{v,λp u=>?_};cases m with
  | true=>
    exact h (.ref p) _ (gn μ M.length p) (Ext.cell j u) (j.cell u r) {p,rfl,by simp[gn]}
  | false=>
    exact h (.ref p) _ μ (Ext.alloc j u) (j.alloc u) {p,vs,rfl,{bR,j.fresh u},r.ext (Ext.alloc j u)}
 ·exact h.elim
def iL (j:RelM fa X.K μ H M)(r:aO fa X.K μ H ds vs)(h:bw fa X.K μ H Q (.tup ds) M):∀p,H p=none->Q (.ref p) (upd H p (.tup vs)):=λp u=>
 h (.ref p) _ μ (Ext.alloc j u) (j.alloc u) {p,vs,rfl,.of bR,r.ext (Ext.alloc j u)}
def dM:sz=sizeLine:=by rw[sizeLine_eq];rfl
def C0:bU X (binaryOp .Add) (λx y H Q=>∃a b ys,x=.ref a/\y=.ref b/\d9 X.K H a []/\d9 X.K H b ys/\Q (.ref b) H):=by
 intro pins s σ H x y v u Q I rx ry h;obtain⟨a,b,ys,rfl,rfl,U,W,q⟩:=h;cases rx;cases ry;obtain⟨its,r1,p1,_⟩:=I.tuple U;obtain⟨z,r2,p2,_⟩:=I.tuple W;cases r1;obtain⟨⟨cls,S,R,sl⟩,ho,Y,n,hd⟩:=id p1;obtain⟨⟨P,E,B,O⟩,j,J,n2,L⟩:=id p2;subst Y hd J L;exact concat_meets {_,ho,rfl} {_,j,rfl} noFill_tuple_add seq_tuple_add PySem.F.slot_tuple_add PySem.F.entry_tuple_add (PySem.F.args_tuple_add_2 _ _)
  (tuple_addW0 a b #[] z.toArray n n2 S E sl O rfl) {ho,j,{.ref b,H,I,rfl,q}}
def D1 (I:Inv X pins σ H s)(j:RelM fa X.K μ H M)(h1:Rep fa X.K μ H dx x)(h2:Rep fa X.K μ H dy y)(L:RelV x v)(O:RelV y u)
 (h:ae (match j4 M dx,j4 M dy with|some x,some y=>bu m (x++y) M|_,_=>.bad) (bw fa X.K μ H Q)):wpAny (model X.prog X.w) X.A (binaryOp .Add v u) (EP X pins σ Q) X.xe s:=by
 cases e1:j4 M dx with
 |none=>rw[e1] at h;exact h.elim
 | some xs=>
   cases e2:j4 M dy with
   |none=>rw[e1,e2] at h;exact h.elim
   | some S=>
     rw[e1,e2] at h;obtain⟨a,P,rfl,E,z⟩:=jZ j h1 e1;obtain⟨b,R,rfl,F,B⟩:=jZ j h2 e2;obtain⟨J,k⟩:=gR j (z.append B) h;refine Ke pins s σ H _ _ v u Q I L O {a,b,P,R,rfl,rfl,E,F,?_,k};rw[z.length,B.length,<- QJ,<- dM];exact J
set_option tactic.hygienic true in
def NV (m:Bool):bU X (binaryOp .Add) (mD fa X.K m .add):=by
 intro pins s σ H x y v u Q I F J h;obtain⟨μ,M,L,O,B,h1,h2,h⟩:=h;have hi:∀i j,L=.int i->O=.int j->wpAny (model X.prog X.w) X.A (binaryOp .Add v u) (EP X pins σ Q) X.xe s:=λi j e1 e2=>by
  subst e1 e2;exact Kf pins s σ H x y v u Q I F J {i,j,h1,h2,a7 B h rfl}
 have hs:∀i j,L=.str i->O=.str j->wpAny (model X.prog X.w) X.A (binaryOp .Add v u) (EP X pins σ Q) X.xe s:=λi j e1 e2=>by
  subst e1 e2;have h:ae (if i.cps.size+j.cps.size<=sz then .ok (.str {i.cps++j.cps}) M else .bad) (bw fa X.K μ H Q):=h;split at h
  ·next W=>exact yh pins s σ H x y v u Q I F J {i,j,h1,h2,by rw[<- dM];exact W,a7 B h rfl}
  ·exact h.elim
 have ht:∀i j,L=.tup i->O=.tup j->wpAny (model X.prog X.w) X.A (binaryOp .Add v u) (EP X pins σ Q) X.xe s:=λi j e1 e2=>by
  subst e1 e2;have h:ae (if (i++j).length<=sz then .ok (.tup (i++j)) M else .bad) (bw fa X.K μ H Q):=h;split at h
  ·next W=>
   obtain⟨a,R,e1,S,E⟩:=id h1;obtain⟨b,Y,e2,U,P⟩:=id h2;by_cases h0:i=[]
   ·subst h0;obtain rfl:R=[]:=E;exact C0 pins s σ H x y v u Q I F J {a,b,Y,e1,e2,S,U,a7 B h ⟨b,Y,rfl,U,P⟩}
   ·have hv:R≠[]:=λz=>h0 (by have:=E.length;rw[z] at this;exact Si.mp this.symm)
    refine Hi pins s σ H x y v u Q I F J {a,b,R,Y,e1,e2,S,U,hv,?_,λz=>?_,λ_=>iL B (E.append P) h}
    ·rw[E.length,P.length,<- QJ,<- dM];exact W
    ·subst z;have ej:=Si.mp P.length.symm;subst ej;exact a7 B h {a,R,rfl,S,by simpa using E}
  ·exact h.elim
 cases L<;>cases O<;>first|exact hi _ _ rfl rfl|exact hs _ _ rfl rfl|exact ht _ _ rfl rfl|exact D1 (m:=m) I B h1 h2 F J h
def tU {g:Int->Int->Int}(hr:bU X (binaryOp op) (rI C λi j=>.int (g i j)))
 (z:∀u v M (P:D->Mem->Prop),ae (fM m o u v M) P->∃i j,u=.int i/\v=.int j/\C i j/\P (.int (g i j)) M):bU X (binaryOp op) (mD fa X.K m o):=jl hr λx y H Q h=>by
 obtain⟨μ,M,u,v,B,h1,h2,h⟩:=h;obtain⟨i,j,rfl,rfl,c,q⟩:=z u v M _ h;exact{i,j,h1,h2,c,a7 B q rfl}
def NQ (m:Bool):bU X (binaryOp .Sub) (mD fa X.K m .sub):=tU (C:=λ_ _=>True) (jl J8 (by rintro x y H Q ⟨i,j,e1,e2,_,q⟩;exact⟨i,j,e1,e2,q⟩)) λu v M P h=>by
 cases u<;>cases v<;>first|exact{_,_,rfl,rfl,trivial,h}|exact h.elim
set_option tactic.hygienic true in
def LW (m:Bool):bU X (binaryOp .FloorDiv) (mD fa X.K m .fdiv):=tU Hh λu v M P h=>by
 have y:∀i j,u=.int i->v=.int j->∃i j,u=.int i/\v=.int j/\Mf i j/\P (.int (i / j)) M:=λi j e1 e2=>by
  subst e1 e2;have h:ae (if 0<j/\j<1073741824 then .ok (.int (i / j)) M else .bad) P:=h;split at h
  ·next c=>exact⟨i,j,rfl,rfl,c,h⟩
  ·exact h.elim
 cases u<;>cases v<;>first|exact y _ _ rfl rfl|exact h.elim
set_option tactic.hygienic true in
def NT (m:Bool):bU X (binaryOp .Mod) (mD fa X.K m .mod):=tU Kc λu v M P h=>by
 have y:∀i j,u=.int i->v=.int j->∃i j,u=.int i/\v=.int j/\0<j/\P (.int (i % j)) M:=λi j e1 e2=>by
  subst e1 e2;have h:ae (if 0<j then .ok (.int (i % j)) M else .bad) P:=h;split at h
  ·next c=>exact⟨i,j,rfl,rfl,c,h⟩
  ·exact h.elim
 cases u<;>cases v<;>first|exact y _ _ rfl rfl|exact h.elim
set_option tactic.hygienic true in
def NR (m:Bool):bU X (binaryOp .Pow) (mD fa X.K m .pow):=tU Ka λu v M P h=>by
 have y:∀i j,u=.int i->v=.int j->∃i j,u=.int i/\v=.int j/\Me i j/\P (.int (i^j.toNat)) M:=λi j e1 e2=>by
  subst e1 e2;have h:ae (if 0<=j/\j<=1000000/\i.natAbs<2^64 then .ok (.int (i^j.toNat)) M else .bad) P:=h;split at h
  ·next c=>exact⟨i,j,rfl,rfl,c,h⟩
  ·exact h.elim
 cases u<;>cases v<;>first|exact y _ _ rfl rfl|exact h.elim
set_option tactic.hygienic true in
def CO {j:Int}(I:Inv X pins σ H s)(z:RelM fa X.K μ H M)(h1:Rep fa X.K μ H dx x)(h2:Rep fa X.K μ H (.int j) y)(F:RelV x v)(J:RelV y u)
 (h:ae (match j4 M dx with|some x=>if x.length*j.toNat<=sz/\-(2^63)<=j/\j<2^63 then bu m (List.replicate j.toNat x).flatten M else .bad|none=>.bad) (bw fa X.K μ H Q)) :
 wpAny (model X.prog X.w) X.A (binaryOp .Mult v u) (EP X pins σ Q) X.xe s:=by
 cases e1:j4 M dx with
 |none=>rw[e1] at h;exact h.elim
 | some xs=>
   rw[e1] at h;simp only at h;split at h
   ·next c=>
    obtain⟨a,L,rfl,E,B⟩:=jZ z h1 e1;obtain⟨O,k⟩:=gR z (B.rep j.toNat) h;exact J9 pins s σ H _ _ v u Q I F J {a,j,L,rfl,h2,E,c.2.1,c.2.2,by rw[B.length,<- dM];exact c.1,k}
   ·exact h.elim
end
end LD
namespace LD
open PySem PySem.Spec PyProof.Rows L2 PySem.Builtin
open PySem.Sem (wp)
def oW:fillsNumberSlot (.type "tuple") "mul"=pure false:=
 PySem.fillsNumberSlot_seq F.slot_tuple_mul.lookup `k F.slot_tuple_rmul.lookup `k
def uI:seqRepeat? (.type "tuple")=pure (some (.builtin "tuple.__mul__")):=by
 unfold seqRepeat?;rw[PySem.seqSlot_of (name:="__mul__") F.slot_tuple_mul.lookup `k,PySem.seqSlot_of (name:="__rmul__") F.slot_tuple_rmul.lookup `k]
 rfl
def qN (a:Int)(t:Tok)(l:Addr)(items:Array Qj)(n:Nat)(dd:Option Addr)(sl:Array (Option Qj)) :
 Meets (Builtin.«int.__rmul__» {[.int a t,.ref l],[]}) (λ_ R s=>s.heap.get? l=some {cls:=.type "tuple",dict:=dd,data:=.seq items n,slots:=sl}/\R (.ok (.ret Value.notImplemented)) s):=
 .of_wp λprog w A R s h=>by obtain⟨j,g,d,tk,os⟩:=s;obtain⟨hl,h⟩:=h;wp_walk using wpAny_loadPart' hl;exact{_,rfl,h}
def yg {x:Int}(h:-(2^63)<=x)(h1:x<2^63):(decide (x < -2^63)||decide (x≥2^63))=false:=by
 rw[decide_eq_false `a,decide_eq_false `a];rfl
def qW (l:Addr)(items:Array Qj)(n:Nat)(dd:Option Addr)(sl:Array (Option Qj))(x:Int)(u:Tok)(j:-(2^63)<=x)(h1:x<2^63)(v:(items.isEmpty||x==1)=true) :
 Meets (Builtin.«tuple.__mul__» {[.ref l,.int x u],[]}) (λ_ R s=>s.heap.get? l=some {cls:=.type "tuple",dict:=dd,data:=.seq items n,slots:=sl}/\R (.ok (.ret (.ref l))) s):=
 .of_wp λprog w A R s h=>by
  obtain⟨y,g,d,tk,os⟩:=s;obtain⟨hl,h⟩:=h;have f1:=AutoSeq1.idx_int;wp_walk using wpAny_loadPart' hl
  refine wpAny_ite_false (by rw[yg j h1];rfl) ?_
  wp_walk using wpAny_loadPart' hl
  exact{_,rfl,h}
def qX (l:Addr)(items:Array Qj)(n:Nat)(dd:Option Addr)(sl:Array (Option Qj))(x:Int)(u:Tok)(j:-(2^63)<=x)(h1:x<2^63)(y:(items.isEmpty||x==1)=false)(v:(decide (x<=0)||items.isEmpty)=true) :
 Meets (Builtin.«tuple.__mul__» {[.ref l,.int x u],[]}) (λ_ R s=>s.heap.get? l=some {cls:=.type "tuple",dict:=dd,data:=.seq items n,slots:=sl}/\R (.ok (.ret (.ref s.heap.objs.size))) {s with heap:=s.heap.push {cls:=Value.type "tuple",data:=Data.seq #[]},toks:=s.toks}):=
 .of_wp λprog w A R s h=>by
  obtain⟨z,g,d,tk,os⟩:=s;obtain⟨hl,h⟩:=h;have f1:=AutoSeq1.idx_int;wp_walk using wpAny_loadPart' hl
  refine wpAny_ite_false (by rw[yg j h1];rfl) ?_
  wp_walk using wpAny_loadPart' hl
  exact{_,rfl,h}
def qY (l:Addr)(items:Array Qj)(n:Nat)(dd:Option Addr)(sl:Array (Option Qj))(x:Int)(u:Tok)(j:-(2^63)<=x)(h1:x<2^63)(z:(items.isEmpty||x==1)=false)(v:(decide (x<=0)||items.isEmpty)=false)
 (hs:(items.size:Int)*x<=16777216) (y:(List.foldl (λx1 x2=>x1++x2) #[] (List.replicate x.toNat items)).size<=sizeLine) :
 Meets (Builtin.«tuple.__mul__» {[.ref l,.int x u],[]}) (λ_ R s=>s.heap.get? l=some {cls:=.type "tuple",dict:=dd,data:=.seq items n,slots:=sl}/\R (.ok (.ret (.ref s.heap.objs.size))) {s with heap:=s.heap.push {cls:=Value.type "tuple",data:=Data.seq (List.foldl (λx1 x2=>x1++x2) #[] (List.replicate x.toNat items))},toks:=s.toks}):=
 .of_wp λprog w A R s h=>by
  obtain⟨B,g,d,tk,os⟩:=s;obtain⟨hl,h⟩:=h;have f1:=AutoSeq1.idx_int;wp_walk using wpAny_loadPart' hl
  refine wpAny_ite_false (by rw[yg j h1];rfl) ?_
  wp_walk using wpAny_loadPart' hl
  refine wpAny_ite_false (decide_eq_false `a) ?_
  wp_walk using wpAny_loadPart' hl
  refine wpAny_ite_false (decide_eq_false (by unfold Tuple.tupleTooMany;rw[sizeLine_eq];simp;omega)) ?_
  wp_walk using wpAny_loadPart' hl
  exact{_,rfl,h}
section
variable{fa:Fa}{X:Cx}{μ:Mu}{H:Hp}{σ:L2.St}{pins:List (Addr×Obj)}{s:Qn}{M:Mem}
def se (h:List Qj)(m:Nat):List.foldl (λx1 x2=>x1++x2) #[] (List.replicate m h.toArray)=(List.replicate m h).flatten.toArray:=by
 have:=foldl_rep h m [];rw[R1] at this;exact this
def Hf:bU X (binaryOp .Mult) (λx y H Q=>∃l k xs,x=.ref l/\y=.int k/\d9 X.K H l xs/\-(2^63)<=k/\k<2^63/\xs.length*k.toNat<=sz/\
 ((List.replicate k.toNat xs).flatten=xs->Q (.ref l) H)/\∀p,H p=none->Q (.ref p) (upd H p (.tup (List.replicate k.toNat xs).flatten))):=by
 intro pins s σ H x y v u Q I rx ry h;obtain⟨l,k,xs,rfl,rfl,Y,h1,h2,U,q1,q2⟩:=h;cases rx;obtain⟨t,rfl⟩:=ry;obtain⟨j,r,p,hzz⟩:=I.tuple Y;have hl:=r.length;obtain⟨⟨cls,L,data,sl⟩,ho,W,n,hd⟩:=id p;subst W hd;refine wpAny_binaryOp_repeat_ref `d {_,ho,rfl} (λs'=>typeIs_int s' k t) oW F.fills_int_mul F.slot_int_rmul uI F.slot_int_index.lookup
  (call_meets F.slot_int_rmul (typeIs_int s k t) F.entry_int_rmul (F.args_int_rmul_2 _ _) (qN k t l j.toArray n L sl) {ho,rfl,{_,ho,rfl},?_})
 have new:∀(B:List Qj),Vals (List.replicate k.toNat xs).flatten B->EP X pins σ Q (.ref s.heap.objs.size) {s with heap:=s.heap.push {cls:=Value.type "tuple",data:=Data.seq B.toArray}}:=λB r'=>by
  refine{.ref s.heap.objs.size,_,I.laid (λb ob q=>Qi _ q) (Qo _) ?_,rfl,q2 _ (I.hok.fresh (Qo _))};exact{by rw[len_rep,Nat.mul_comm,<- dM];exact U,_,r',IsTup.new _ _}
 by_cases O:(j.toArray.isEmpty||k==1)=true
 ·refine call_meets F.slot_tuple_mul {_,ho,rfl} F.entry_tuple_mul (F.args_tuple_mul_2 _ _) (qW l j.toArray n L sl k t h1 h2 O) {ho,{.ref l,H,I,rfl,q1 ?_}};rcases Bool.or_eq_true_iff.mp O with z|z
  ·have e:j=[]:=by simpa using z
   subst e;have e2:=Si.mp hl;subst e2;simp
  ·have e:k=1:=by simpa using z
   subst e;simp
 ·have E:(j.toArray.isEmpty||k==1)=false:=by simpa using O
  by_cases P:(decide (k<=0)||j.toArray.isEmpty)=true
  ·refine call_meets F.slot_tuple_mul {_,ho,rfl} F.entry_tuple_mul (F.args_tuple_mul_2 _ _) (qX l j.toArray n L sl k t h1 h2 E P) {ho,new [] ?_};have hk:k<=0:=by
    rcases Bool.or_eq_true_iff.mp P with z|z
    ·simpa using z
    ·rw[z] at E;cases E
   have R:k.toNat=0:=`a
   rw[R];exact .nil
  ·have J:(decide (k<=0)||j.toArray.isEmpty)=false:=by simpa using P
   have hk:0<k:=by
    have:=(Bool.or_eq_false_iff.mp J).1;simpa using this
   have hs:(j.toArray.size:Int)*k<=16777216:=by
    have e1:(j.toArray.size:Int)*k=((xs.length*k.toNat:Nat):Int):=by
     rw[Qw,<- hl,Int.natCast_mul,RL `a]
    rw[e1];have:xs.length*k.toNat<=16777216:=U;omega
   have S:(List.foldl (λx1 x2=>x1++x2) #[] (List.replicate k.toNat j.toArray)).size<=sizeLine:=by
    rw[se,Qw,len_rep,Nat.mul_comm,<- hl,<- dM];exact U
   refine call_meets F.slot_tuple_mul {_,ho,rfl} F.entry_tuple_mul (F.args_tuple_mul_2 _ _) (qY l j.toArray n L sl k t h1 h2 E J hs S) {ho,?_};rw[se];exact new _ (r.rep k.toNat)
set_option tactic.hygienic true in
def NS (m:Bool):bU X (binaryOp .Mult) (mD fa X.K m .mul):=by
 intro pins s σ H x y v u Q I L O h;obtain⟨μ,M,B,E,F,h1,h2,h⟩:=h;have U:∀i j,B=.int i->E=.int j->wpAny (model X.prog X.w) X.A (binaryOp .Mult v u) (EP X pins σ Q) X.xe s:=λi j e1 e2=>by
  subst e1 e2;have h:ae (if (-(2^64)<i/\i<2^64)\/(-(2^64)<j/\j<2^64) then .ok (.int (i*j)) M else .bad) (bw fa X.K μ H Q):=h;split at h
  ·next c=>exact Kb pins s σ H x y v u Q I L O {i,j,h1,h2,c,a7 F h rfl}
  ·exact h.elim
 have W:∀i j,B=.tup i->E=.int j->wpAny (model X.prog X.w) X.A (binaryOp .Mult v u) (EP X pins σ Q) X.xe s:=λi j e1 e2=>by
  subst e1 e2;have h:ae (if i.length*j.toNat<=sz/\-(2^63)<=j/\j<2^63 then .ok (.tup (List.replicate j.toNat i).flatten) M else .bad) (bw fa X.K μ H Q):=h;split at h
  ·next c=>
   obtain⟨a,R,e1,P,J⟩:=id h1;refine Hf pins s σ H x y v u Q I L O {a,j,R,e1,h2,P,c.2.1,c.2.2,by rw[J.length];exact c.1,λz=>?_,iL F (J.rep j.toNat) h}
   refine a7 F h {a,R,rfl,P,?_};have:=J.rep j.toNat;rw[z] at this;exact this
  ·exact h.elim
 have hl:∀j,E=.int j->ae (match j4 M B with|some x=>if x.length*j.toNat<=sz/\-(2^63)<=j/\j<2^63 then bu m (List.replicate j.toNat x).flatten M else .bad|none=>.bad) (bw fa X.K μ H Q)->
  wpAny (model X.prog X.w) X.A (binaryOp .Mult v u) (EP X pins σ Q) X.xe s:=λj e1 S=>by
  subst e1;exact CO I F h1 h2 L O S
 cases E with
 |int j=>cases B<;>first|exact U _ _ rfl rfl|exact W _ _ rfl rfl|exact hl _ rfl h
 |_=>cases B<;>exact h.elim
noncomputable def binOp:oA->Operator
 |.add=>.Add|.sub=>.Sub|.mul=>.Mult|.fdiv=>.FloorDiv|.mod=>.Mod|.pow=>.Pow
def NU (m:Bool):∀o:oA,bU X (binaryOp (binOp o)) (mD fa X.K m o)
 |.add=>NV m|.sub=>NQ m|.mul=>NS m|.fdiv=>LW m|.mod=>NT m|.pow=>NR m
end
end LD
namespace LD
open PySem PySem.Spec PyProof.Rows L2
section
variable{fa:Fa}{X:Cx}{μ:Mu}{H:Hp}{σ:L2.St}{pins:List (Addr×Obj)}{s:Qn}{M:Mem}
def Lc (h:lC X r)(i:∀x y H Q,r' x y H Q->r x y H Q):lC X r':=λz j pins s σ H x y v u Q I B E q hs=>h z j pins s σ H x y v u Q I B E (i x y H Q q) hs
def OT (fa:Fa)(K:Qf):R2:=λx y H Q=>∃μ M h j d,RelM fa K μ H M/\Rep fa K μ H h x/\Rep fa K μ H j y/\bP h j M=some d/\bw fa K μ H Q d M
def vd (n:Nat)(i:Int):LD.bC n i=L2.bC n i:=rfl
set_option tactic.hygienic true in
def Nf:lC X (OT fa X.K):=Lc Lb λx y H Q h=>by
 obtain⟨μ,M,u,I,d,F,h1,h2,e,q⟩:=h;have gen:∀i,I=.int i->((b7 M u).bind λE=>(LD.bC E.length i).bind λj=>E[j]?)=some d->JN X.K x y H Q:=λi R O=>by
  subst R;clear e;have e:=O;clear O;cases e1:b7 M u with
  |none=>rw[e1] at e;cases e
  | some E=>
    rw[e1,RY] at e;obtain⟨a,L,rfl,B,r⟩:=jY F h1 e1;cases e2:LD.bC E.length i with
    |none=>rw[e2] at e;cases e
    | some j=>
      rw[e2,RY] at e;obtain⟨v,U,P⟩:=r.get e;have he:sW L i=some v:=by
       unfold sW;rw[r.length,<- vd,e2];exact U
      rcases B with B|B
      ·exact .inl {a,L,i,v,rfl,h2,B,he,a7 F q P}
      ·exact .inr (.inl {a,L,i,v,rfl,h2,B,he,a7 F q P})
 have str:∀z i,u=.str z->I=.int i->JN X.K x y H Q:=λz i e1 e2=>by
  subst e1 e2;have e:(if z.cps.size<=sz then(LD.bC z.cps.size i).bind λj=>(z.cps[j]?).map λc=>D.str {#[c]} else none)=some d:=e;split at e
  ·next W=>
   cases e2:LD.bC z.cps.size i with
   |none=>rw[e2] at e;cases e
   | some j=>
     rw[e2,RY] at e;cases J:z.cps[j]? with
     |none=>rw[J] at e;cases e
     | some c=>
       rw[J] at e;have S:=Qp e;subst S;refine .inr (.inr {z,i,c,h1,h2,by rw[<- dM];exact W,?_,a7 F q rfl})
       unfold sW;rw[show z.cps.toList.length=z.cps.size by simp,<- vd,e2]
       simpa using J
  ·cases e
 cases I with
 |int i=>cases u<;>first|exact str _ _ rfl rfl|exact gen _ rfl e
 |_=>cases u<;>cases (e)
def Jn (h:mn X r)(i:∀x lo hi H Q,r' x lo hi H Q->r x lo hi H Q):mn X r':=λpins s σ H x v y z lo hi sl Q I u hs pl j q=>h pins s σ H x v y z lo hi sl Q I u hs pl j (i x lo hi H Q q)
noncomputable def pX:D->Option (Option Int)
 |.non=>some none
 |.int i=>some (some i)
 |_=>none
def oK (n d:Nat)(x:D):LD.aM n d x=(pX x).map (HT.aM n d):=by
 cases x<;>rfl
def uC:mn X (λx lo hi H Q=>∃a xs,x=.ref a/\d9 X.K H a xs/\(HT.aM xs.length 0 lo=0/\HT.aM xs.length xs.length hi=xs.length)/\Q (.ref a) H):=by
 intro pins s σ H x v U W lo hi sl Q I R hs pl P h;obtain⟨a,xs,rfl,O,J,q⟩:=h;cases R;obtain⟨j,r,u,S⟩:=I.tuple O;refine{"tuple",_,Q1.lookup,u.typeIs,?_};have y:j.toArray.size=xs.length:=by rw[Qw];exact r.length.symm
 rw[<- y] at J;obtain⟨os,F,E,L⟩:=id hs;have B:s.TypeIs (.ref sl) "slice":=⟨os,F,E⟩;unfold getItem;try with_reducible refine tqo ?_
 first|refine tqa (tqb ?_)|skip
 refine tqa (wpAny_sequenceKey u.typeIs `d ?_)
 refine tqa (wpAny_callSpecial?_slot u.typeIs Q1
  (wpAny_call_entry Q1 u.typeIs entry_tuple_getitem ?_ (args_tuple_getitem _ _)))
 show wpAny _ _ (Builtin.Tuple.tupleItemsOf (.ref a) >>= _) _ _ s;refine tqa (tupleItemsOf_ u ?_);refine tqa (wpAny_typeOf B ?_);rw[if_pos `d]
 refine tqa (HT.jW hs pl P ?_);have z:(((HT.aM j.toArray.size 0 lo:Nat):Int)==0&&(1:Int)==1&&(HT.aM j.toArray.size j.toArray.size hi-HT.aM j.toArray.size 0 lo)==j.toArray.size)=true:=by
  rw[J.1,J.2];simp
 show wpAny _ _ (if (((HT.aM j.toArray.size 0 lo:Nat):Int)==0&&(1:Int)==1&&(HT.aM j.toArray.size j.toArray.size hi-HT.aM j.toArray.size 0 lo)==j.toArray.size)=true then _ else _) _ _ s;rw[if_pos z];refine tqa ?_;refine tqa (wpAny_typeOf u.typeIs ?_);refine tqb ?_;rw[if_pos `d]
 exact tqa (wpAny_rule (tqb {_,rfl,tqb {.ref a,H,I,rfl,q}}))
def OQ (fa:Fa)(K:Qf)(m:Bool):V->Option Int->Option Int->Hp->VK->Prop:=λx lo u H Q=>∃μ M j dl h,RelM fa K μ H M/\Rep fa K μ H j x/\pX dl=some lo/\pX h=some u/\ae (cM m j dl h M) (bw fa K μ H Q)
def GN (m:Bool):mn X (OQ fa X.K m):=by
 refine Jn (GO.or (Jl.or uC)) λx lo u H Q h=>?_;obtain⟨μ,M,z,dl,E,B,h1,e1,e2,h⟩:=h;have gen:ae (match gE M z with
  | some xs=>match LD.aM xs.length 0 dl,LD.aM xs.length xs.length E with
    |some l,some h=>bu m (cut xs l h) M
    |_,_=>.bad
  |none=>.bad) (bw fa X.K μ H Q)->JI X.K x lo u H Q:=λh=>by
  cases e:gE M z with
  |none=>rw[e] at h;exact h.elim
  | some xs=>
    rw[e] at h;simp only[oK,e1,e2,Option.map_some] at h;obtain⟨a,j,rfl,v,r⟩:=bW B h1 e;have hl:=r.length;obtain⟨_,k⟩:=gR B ((r.drop (HT.aM xs.length 0 lo)).take (HT.aM xs.length xs.length u-HT.aM xs.length 0 lo)) h;refine{a,j,rfl,v,?_};unfold rA;rw[hl];exact k
 have tup:∀xs,z=.tup xs->JH X.K x lo u H Q\/∃a xs,x=.ref a/\d9 X.K H a xs/\(HT.aM xs.length 0 lo=0/\HT.aM xs.length xs.length u=xs.length)/\Q (.ref a) H:=λxs e=>by
  subst e;have h:ae (match LD.aM xs.length 0 dl,LD.aM xs.length xs.length E with
   |some l,some h=>.ok (.tup (cut xs l h)) M
   |_,_=>.bad) (bw fa X.K μ H Q):=h
  simp only[oK,e1,e2,Option.map_some] at h;obtain⟨a,j,rfl,v,r⟩:=h1;have hl:=r.length;by_cases y:HT.aM j.length 0 lo=0/\HT.aM j.length j.length u=j.length
  ·refine .inr {a,j,rfl,v,y,?_};rw[hl] at y;have F:cut xs (HT.aM xs.length 0 lo) (HT.aM xs.length xs.length u)=xs:=by rw[y.1,y.2];simp[cut]
   rw[F] at h;exact a7 B h ⟨a,j,rfl,v,r⟩
  ·refine .inl {a,j,rfl,v,y,?_};have k:=iL B ((r.drop (HT.aM xs.length 0 lo)).take (HT.aM xs.length xs.length u-HT.aM xs.length 0 lo)) h;unfold rA;rw[hl];exact k
 cases z<;>first|exact .inr (tup _ rfl)|exact .inl (gen h)
def qQ (fa:Fa)(K:Qf)(f:xK):List V->Hp->VK->Prop:=λj H Q=>∃μ M h,RelM fa K μ H M/\aO fa K μ H h j/\ae (eQ f h M) (bw fa K μ H Q)
def tH {d:D}{vs:List V}{K:Qf}(h:aO fa K μ H [d] vs):∃v,vs=[v]/\Rep fa K μ H d v:=by
 obtain⟨v,r,rfl,h1,h2⟩:=h;obtain rfl:r=[]:=h2;exact⟨v,rfl,h1⟩
set_option tactic.hygienic true in
def Nm:c4 X (.builtin "len") (qQ fa X.K .len):=l6 (vL.or vK) λB H Q h=>by
 obtain⟨μ,M,E,j,r,h⟩:=h
 match E,r,h with
 |[],_,h=>exact h.elim
 |d::_::_,_,h=>cases d<;>exact h.elim
 | [d],r,h=>
   obtain⟨v,rfl,y⟩:=tH r;have gen:ae (match b7 M d with|some xs=>.ok (.int xs.length) M|none=>.bad) (bw fa X.K μ H Q)->∃p u,[v]=[.ref p]/\(dC X.K H p u\/d9 X.K H p u)/\Q (.int u.length) H:=λh=>by
    cases e:b7 M d with
    |none=>rw[e] at h;exact h.elim
    | some xs=>
      rw[e] at h;obtain⟨a,B,rfl,F,r⟩:=jY j y e;refine{a,B,rfl,F,?_};rw[r.length];exact a7 j h rfl
   have str:∀x,d=.str x->∃z,[v]=[V.str z]/\z.length<=sizeLine/\Q (.int z.length) H:=λx e=>by
    subst e;have h:ae (if x.cps.size<=sz then .ok (.int x.cps.size) M else .bad) (bw fa X.K μ H Q):=h;split at h
    ·next c=>exact{x,by rw[show v=.str x from y],by rw[<- dM];exact c,a7 j h rfl}
    ·exact h.elim
   cases d<;>first|exact .inr (str _ rfl)|exact .inl (gen h)
def HG:c4 X (.type "tuple") (qQ fa X.K .tuple):=l6 tq λu H Q h=>by
 obtain⟨μ,M,E,y,r,h⟩:=h
 match E,r,h with
 |[],_,h=>exact h.elim
 |d::_::_,_,h=>cases d<;>exact h.elim
 | [d],r,h=>
   obtain⟨v,rfl,B⟩:=tH r;have gen:ae (match gE M d with|some xs=>.ok (.tup xs) M|none=>.bad) (bw fa X.K μ H Q)->∃p j,[v]=[.ref p]/\((dC X.K H p j/\∀l,H l=none->Q (.ref l) (upd H l (.tup j)))\/(d9 X.K H p j/\Q (.ref p) H)):=λh=>by
    cases e:gE M d with
    |none=>rw[e] at h;exact h.elim
    | some xs=>
      rw[e] at h;obtain⟨a,u,rfl,z,r⟩:=bW y B e;exact{a,u,rfl,.inl {z,iL y r h}}
   have tup:∀x,d=.tup x->∃p j,[v]=[.ref p]/\((dC X.K H p j/\∀l,H l=none->Q (.ref l) (upd H l (.tup j)))\/(d9 X.K H p j/\Q (.ref p) H)):=λx e=>by
    subst e;obtain⟨a,u,rfl,z,r⟩:=id B;exact{a,u,rfl,.inr {z,a7 y h B}}
   cases d<;>first|exact tup _ rfl|exact gen h
def Lm (m:Bool):c4 X (.type "list") (qQ fa X.K (.list m)):=l6 vJ λu H Q h=>by
 obtain⟨μ,M,y,j,r,h⟩:=h
 match y,r,h with
 |[],_,h=>exact h.elim
 |_::_::_,_,h=>exact h.elim
 | [d],r,h=>
   obtain⟨v,rfl,B⟩:=tH r;have h:ae (match b7 M d with|some xs=>bu m xs M|none=>.bad) (bw fa X.K μ H Q):=h
   cases e:b7 M d with
   |none=>rw[e] at h;exact h.elim
   | some xs=>
     rw[e] at h;obtain⟨a,u,rfl,z,r⟩:=jY j B e;obtain⟨_,k⟩:=gR j r h;exact⟨a,u,rfl,z,k⟩
end
section
variable{fa:Fa}{X:Cx}{μ:Mu}{H:Hp}{σ:L2.St}{pins:List (Addr×Obj)}{s:Qn}{M:Mem}
set_option tactic.hygienic true in
def Oy (hM:RelM fa X.K μ H M)(h:Rep fa X.K μ H d v)(e:kM M d=some k):Eb X.K v H k:=by
 cases d with
 |non=>obtain rfl:v=.non:=h;exact(Qp e).symm
 |bl b=>obtain rfl:v=.bl b:=h;exact(Qp e).symm
 |int i=>obtain rfl:v=.int i:=h;exact(Qp e).symm
 | str x=>
   obtain rfl:v=.str x:=h;have e:(if x.cps.size<=sz then some (x.cps.size != 0) else none)=some k:=e;split at e
   ·next c=>
    refine{by rw[<- dM];exact c,?_}
    rw[<- Qp e];show(x.cps.size != 0)=((x.cps.size:Int) != 0);rw[RR];simp
   ·cases e
 | tup ds=>
   obtain⟨a,vs,rfl,hq,r⟩:=h;refine .inr (.inl {vs,hq,?_});rw[<- Qp e];have:=r.length;cases vs<;>cases ds<;>simp_all
 | lst ds=>
   obtain⟨a,vs,rfl,hq,r⟩:=bW hM h rfl;refine .inl {vs,hq,?_};rw[<- Qp e];have:=r.length;cases vs<;>cases ds<;>simp_all
 | frz ds=>
   obtain⟨a,vs,rfl,hq,r⟩:=bW hM h rfl;refine .inl {vs,hq,?_};rw[<- Qp e];have:=r.length;cases vs<;>cases ds<;>simp_all
 | cell c=>
   have e:(M[c]?).map (λds=>!ds.isEmpty)=some k:=e;cases e1:M[c]? with
   |none=>rw[e1] at e;cases e
   | some ds=>
     rw[e1] at e;obtain⟨a,vs,rfl,hq,r⟩:=bW hM h e1;refine .inl {vs,hq,?_};rw[<- Qp e];have:=r.length;cases vs<;>cases ds<;>simp_all
 |fn f=>cases e
 |exc y p=>cases e
def mC:∀{ds:List D}{bs:List Bool}{vs:List V}{us:List Qj},boolsOf ds=some bs->aO fa X.K μ H ds vs->Vals vs us->PyProof.Rows.LSm.BoolsAre us bs:=by
 intro ds;induction ds with
 | nil=>
   intro bs vs us e h r;obtain rfl:vs=[]:=h;cases r;cases e;exact .nil
 | cons d ds j=>
   intro bs vs us e h r;obtain⟨v,vr,rfl,h1,h2⟩:=h;cases r with
   | cons r1 r2=>
     cases d with
     | bl b=>
       have e:(boolsOf ds).map (b::·)=some bs:=e;cases e1:boolsOf ds with
       |none=>rw[e1] at e;cases e
       | some u=>
         rw[e1] at e;have e2:=Qp e;subst e2;obtain rfl:v=.bl b:=h1;obtain rfl:_=Value.bool b:=r1;exact .cons b (j e1 h2 r2)
     |_=>cases e
def rC:c4 X (.builtin "all") (λxs H Q=>∃μ ds bs p vs,xs=[.ref p]/\X.calm=true/\dC X.K H p vs/\aO fa X.K μ H ds vs/\boolsOf ds=some bs/\Q (.bl (bs.all id)) H):=by
 intro pins s σ H xs us Q I r h;obtain⟨μ,ds,bs,p,vs,rfl,J,L,O,E,q⟩:=h;obtain⟨u,rfl,R⟩:=vals1 r;cases R;obtain⟨j,P,pl,Y⟩:=I.list L;have B:=mC E O P;have y:=pl.lt;refine call_all_walk (wpAny_pyIter_list pl.isList ?_);refine{s.heap.objs.size,[s.heap.objs.size,p],[s.heap.objs.size],j.toArray.size,_,_,λi=>(bs[i]?).getD true,rfl,Walks.list (A:=X.A.in1) (I.ok.hd J) _ p (Q3 y) j.toArray,
  {{_,QD _ rfl,rfl,rfl},pl.isList.push _},λi v s' U S F z=>?_,λW tk hk=>?_}
 ·obtain⟨b,e,rfl⟩:=B.get i v (by simpa using F)
  simp only[e,Ri] at z;exact tqp z
 ·have e:((List.range j.toArray.size).all λi=>(bs[i]?).getD true)=bs.all id:=by
   rw[Qw,B.length];exact PyProof.Rows.LSm.range_all bs
  rw[e];exact{.bl _,H,I.kept (PyProof.Rows.LSm.kept_iter hk),rfl,q}
def Nn (z:X.calm=true):c4 X (.builtin "all") (qQ fa X.K .all):=l6 (rC) λu H Q h=>by
 obtain⟨μ,M,y,j,r,h⟩:=h
 match y,r,h with
 |[],_,h=>exact h.elim
 |d::_::_,_,h=>exact h.elim
 | [d],r,h=>
   obtain⟨v,rfl,E⟩:=tH r;have h:ae (match gE M d with|some xs=>(match boolsOf xs with|some bs=>.ok (.bl (bs.all id)) M|none=>.bad)|none=>.bad) (bw fa X.K μ H Q):=h
   cases e:gE M d with
   |none=>rw[e] at h;exact h.elim
   | some xs=>
     rw[e] at h;simp only at h;cases e2:boolsOf xs with
     |none=>rw[e2] at h;exact h.elim
     | some bs=>
       rw[e2] at h;obtain⟨a,u,rfl,B,r⟩:=bW j E e;exact{μ,xs,bs,a,u,rfl,z,B,r,e2,a7 j h rfl}
noncomputable def tyName:Ty->String
 |.int=>"int" | .bool=>"bool" | .str=>"str" | .tuple=>"tuple" | .list=>"list" | .own _=>""
def N1:D->String
 |.non=>"NoneType" | .bl _=>"bool" | .int _=>"int" | .str _=>"str" | .tup _=>"tuple" | _=>"list"
def Mi (t:Ty)(d:D)(b:Bool)(j:∀c,t≠.own c)(e:bY t d=some b):PySem.W.kitOne X.K (.type (N1 d)) (.type (tyName t))=some b:=by
 cases t with
 |own c=>exact absurd rfl (j c)
 |_=>cases d<;>first|(cases (show(none:Option Bool)=some b from e))|(have h:=Qp e;subst h;(first|rfl|decide +kernel))
def Ca (J:RelM fa X.K μ H M)(h:Rep fa X.K μ H d v)(e:bY t d=some b)(I:Inv X pins σ H s)(r:RelV v u)
 (j:PySem.W.kitOne X.K (.type (N1 d)) c=some b) (q:∀tk,Q (.bool b) {s with toks:=tk}):wpAny (model X.prog X.w) X.A (call (.builtin "isinstance") [u,c]) Q X.xe s:=by
 cases d with
 |non=>obtain rfl:v=.non:=h;exact kD I r .non j q
 |bl x=>obtain rfl:v=.bl x:=h;exact kD I r (.bl x) j q
 |int x=>obtain rfl:v=.int x:=h;exact kD I r (.int x) j q
 |str x=>obtain rfl:v=.str x:=h;exact kD I r (.str x) j q
 | tup F=>
   obtain⟨a,O,rfl,B,_⟩:=h;obtain rfl:u=Value.ref a:=r;obtain⟨E,L,⟨o,h1,h2,_⟩,_⟩:=I.tuple B;exact Rf PySem.W.kitx_tuple I.kIn ⟨o,h1,h2⟩ j (λz=>nomatch z) q
 | lst F=>
   obtain⟨a,O,rfl,B,_⟩:=bW J h rfl;obtain rfl:u=Value.ref a:=r;obtain⟨E,L,⟨o,n,h1,h2,_⟩,_⟩:=I.list B;exact Rf PySem.W.kitx_list I.kIn ⟨o,h1,h2⟩ j (λz=>nomatch z) q
 | frz F=>
   obtain⟨a,O,rfl,B,_⟩:=bW J h rfl;obtain rfl:u=Value.ref a:=r;obtain⟨E,L,⟨o,n,h1,h2,_⟩,_⟩:=I.list B;exact Rf PySem.W.kitx_list I.kIn ⟨o,h1,h2⟩ j (λz=>nomatch z) q
 | cell k=>
   obtain⟨a,rfl,hk⟩:=h;obtain⟨F,O,_,B,_⟩:=J.mu_lt hk;obtain rfl:u=Value.ref a:=r;obtain⟨E,L,⟨o,n,h1,h2,_⟩,_⟩:=I.list (dC.of B);exact Rf PySem.W.kitx_list I.kIn ⟨o,h1,h2⟩ j (λz=>nomatch z) q
 |fn f=>cases e
 |exc y p=>cases e
def MG (fa:Fa)(K:Qf)(t:Ty):List V->Hp->VK->Prop:=λh H Q=>∃μ M d v b,h=[v,.ty (tyName t)]/\RelM fa K μ H M/\Rep fa K μ H d v/\bY t d=some b/\Q (.bl b) H
def Ln (t:Ty)(y:∀c,t≠.own c):c4 X (.builtin "isinstance") (MG fa X.K t):=by
 intro pins s σ H xs B Q I r h;obtain⟨μ,M,d,v,b,rfl,j,z,e,q⟩:=h;obtain⟨u,w,rfl,r1,r2⟩:=vals2 r;obtain rfl:w=Value.type (tyName t):=r2;exact Ca j z e I r1 (Mi t d b y e) λtk=>{.bl b,H,I.tok _,rfl,q}
end
section
variable{fa:Fa}{X:Cx}
abbrev DE (fa:Fa)(X:Cx)(e:Expr)(g:Env->Mem->Res D):Prop:=PE X e (tE fa X.K g)
abbrev DT (fa:Fa)(X:Cx)(e:Expr)(g:Env->Mem->Res Bool):Prop:=PT X e (tT fa X.K g)
abbrev DW (fa:Fa)(X:Cx)(e:Expr)(g:Env->Mem->Res Bool):Prop:=PW X e (tT fa X.K g)
abbrev DA (fa:Fa)(X:Cx)(es:List Expr)(g:Env->Mem->Res (List D)):Prop:=PA X es (tA fa X.K g)
abbrev DS (fa:Fa)(X:Cx)(st:Stmt)(g:Env->Mem->Res Fl):Prop:=PS X st (tF fa X g)
abbrev kK (fa:Fa)(X:Cx)(st:List Stmt)(g:Env->Mem->Res Fl):Prop:=mr X st (tF fa X g)
variable{a b d:Expr}{ga gb gd:Env->Mem->Res D}{pos:Pos}
def Nw {i:Nat}(B:X.N[i]?=some x)(E:vY X.env.scope x)(hd:(x==("__debug__":Str))=false)(j:(x==("__classdict__":Str))=false) :
 DE fa X (.Name x pos) (λZ M=>b8 M (Z[i]?.getD none)):=bJ (pW B E hd j) λI H Q ⟨F,Z,M,y,z,h⟩=>by
 obtain⟨d,e,w⟩:=nA h;have u:Z[i]?=some (some d):=by
  cases q:Z[i]? with
  |none=>rw[q] at e;cases e
  |some o=>rw[q] at e;simp at e;rw[e]
 obtain⟨v,h1,h2⟩:=y.at' i d u;exact{v,h1,a7 z w h2}
def jS (h:PE X e (tC v))(r:∀μ H,Rep fa X.K μ H dc v):DE fa X e (λ_ M=>.ok dc M):=bJ h (by rintro z H Q ⟨μ,y,M,u,j,h⟩;exact a7 j h (r μ H))
def NG {i:Int}:DE fa X (.Constant (.int i) j pos) (λ_ M=>.ok (.int i) M):=jS Ax λ_ _=>rfl
def PD:DE fa X (.Constant (.bool i) j pos) (λ_ M=>.ok (.bl i) M):=jS yf λ_ _=>rfl
def Ny:DE fa X (.Constant (.str i) j pos) (λ_ M=>.ok (.str i) M):=jS JZ λ_ _=>rfl
def NB:DE fa X (.Constant .none j pos) (λ_ M=>.ok .non M):=jS J3 λ_ _=>rfl
def t2 {Q:Type}{f:D->D->Mem->Res Q}{P:Q->Mem->Prop}{R:V->V->Hp->Prop}(S:bx fa X.K μ H σ Z)(U:RelM fa X.K μ H M)
 (h:ae ((ga Z M).bind λx M=>(gb Z M).bind λy M=>f x y M) P)
 (k:∀x y B v u z j,Ext μ H j z->bx fa X.K j z σ Z->RelM fa X.K j z B->Rep fa X.K j z x v->Rep fa X.K j z y u->ae (f x y B) P->R v u z) :
 tE fa X.K ga σ H λv L=>tE fa X.K gb σ L λu z=>R v u z:=
 t1 S U h λx M1 v L Y W E I r1 h1=>t1 E I h1 λy B u z j O F J r2 h2=>k x y B v u z j (W.trans O) F J (r1.ext O) r2 h2
def NK (m:Bool)(o:oA)(J:DE fa X a ga)(L:DE fa X b gb):DE fa X (.BinOp a (binOp o) b pos) (λZ M=>(ga Z M).bind λx M=>(gb Z M).bind λy M=>fM m o x y M):=
 bJ (MN (NU m o) J L) (by rintro S H Q ⟨R,Z,M,E,I,h⟩;exact t2 E I h λx y B v u P z O F j r1 r2 h2=>{z,B,x,y,j,r1,r2,ky h2 O})
def qb {P:D->Mem->Prop}(h:ae ((b8 M r).bind λb M=>.ok (.bl b) M) P):∃b,r=some b/\P (.bl b) M:=by
 obtain⟨b,j,e,q⟩:=aT h;cases r with
 |none=>cases e
 |some u=>cases e;exact{_,rfl,q}
def NI (O:Rm X)(o:kj)(J:DE fa X a ga)(L:DE fa X b gb)(hm:behindInMarks (fz o) b=false) :
 DE fa X (.Compare a [fz o] [b] pos) (λZ M=>(ga Z M).bind λx M=>(gb Z M).bind λy M=>(b8 M (br o x y M)).bind λb M=>.ok (.bl b) M):=
 bJ (wR (nW O o) J L hm) λU H Q ⟨S,Z,M,E,I,h⟩=>t2 E I h λx y B v u R z P F j r1 r2 h2=>by
  obtain⟨b,e,q⟩:=qb h2;exact{z,B,x,y,b,j,r1,r2,e,a7 j (q.ext P) rfl}
def Lw (W:Rm X)(o:kj)(S:DE fa X a ga)(U:DE fa X b gb)(hm:behindInMarks (fz o) b=false) :
 DT fa X (.Compare a [fz o] [b] pos) (λZ M=>((ga Z M).bind λx M=>(gb Z M).bind λy M=>(b8 M (br o x y M)).bind λb M=>.ok (.bl b) M).bind λx M=>b8 M (kM M x)):=
 mG (wL (nW W o) S U hm) λσ H Q ⟨μ,Z,M,O,R,h⟩=>by
  obtain⟨z,I,e,q⟩:=aT h;have L:ae ((ga Z M).bind λx M=>(gb Z M).bind λy M=>(b8 M (br o x y M)).bind λb M=>.ok (.bl b) M) (λd M=>d=z/\M=I):=by rw[e];exact⟨rfl,rfl⟩
  refine t2 O R L λx y F v u E B Y P j r1 r2 h2=>?_;obtain⟨b,e1,e2,J⟩:=qb h2;subst e2 J;exact{B,F,x,y,b,j,r1,r2,e1,b,rfl,q E B Y j}
def Gq (F:∀Z M x M',g Z M=.ok x M'->∃k,x=.bl k)(h:tT fa X.K (λZ M=>(g Z M).bind λx M=>b8 M (kM M x)) σ H Q) :
 tE fa X.K g σ H (λx u=>∃k,x=.bl k/\Q k u):=by
 obtain⟨L,Z,M,B,E,h⟩:=h;obtain⟨x,z,e,q⟩:=aT h;obtain⟨k,rfl⟩:=F Z M x z e;refine{L,Z,M,B,E,?_};rw[e];intro v y j J I r1;obtain rfl:v=.bl k:=r1;exact{k,rfl,q y j J I}
def Fw {o O:kj}{L:Env->Mem->Res D}(S:L2.St)(H:Hp)(Q:VK):tE fa X.K (λZ M=>(ga Z M).bind λx M=>(gb Z M).bind λy M=>(b8 M (br o x y M)).bind λk M=>
 if k then(L Z M).bind λz M=>(b8 M (br O y z M)).bind λb M=>.ok (.bl b) M else .ok (.bl false) M) S H Q->ui (h9 fa X.K o) (h9 fa X.K O) (tE fa X.K ga) (tE fa X.K gb) (tE fa X.K L) S H Q:=λ⟨μ,Z,M,hE,hM,h⟩=>by
 refine t2 hE hM h λx y U v u H2 I P F j r1 r2 h2=>?_;obtain⟨k,M3,e,q⟩:=aT h2;cases E:br o x y U with
 |none=>rw[E] at e;cases e
 | some k'=>
   rw[E] at e;cases e;refine{I,_,x,y,k,j,r1,r2,E,k,rfl,?_};cases k with
   |false=>exact a7 j (bw.ext q P) rfl
   | true=>
     refine t1 F j q λz W w H4 J R hE4 B r4 h4=>?_;obtain⟨b,Y,q4⟩:=qb h4;exact{J,W,y,z,b,B,r2.ext R,r4,Y,a7 B (q4.ext (P.trans R)) rfl}
def NJ (j:Rm X)(o h:kj)(u:DE fa X a ga)(v:DE fa X b gb)(B:DE fa X d gc)(hm:lastMarks [fz o,fz h] [b,d]=false) :
 DE fa X (.Compare a [fz o,fz h] [b,d] pos) (λZ M=>(ga Z M).bind λx M=>(gb Z M).bind λy M=>(b8 M (br o x y M)).bind λk M=>
  if k then(gc Z M).bind λz M=>(b8 M (br h y z M)).bind λb M=>.ok (.bl b) M else .ok (.bl false) M):=bJ (CY (nW j o) (nW j h) u v B hm) Fw
def C1 {x:D}(h:((b8 M r).bind λb M=>Res.ok (.bl b) M)=.ok x M'):∃k,x=.bl k:=by
 cases r with
 |none=>cases h
 |some b=>cases h;exact⟨b,rfl⟩
def fA {j u:Type}{r:Res j}{f:j->Mem->Res u}{x:u}(h:r.bind f=.ok x M):∃a M1,r=.ok a M1/\f a M1=.ok x M:=by
 cases r with
 |ok a M1=>exact⟨a,M1,rfl,h⟩
 |err=>cases h
 |bad=>cases h
def Lx (v:Rm X)(o j:kj){u:Env->Mem->Res D}(B:DE fa X a ga)(E:DE fa X b gb)(F:DE fa X d u)(hm:lastMarks [fz o,fz j] [b,d]=false) :
 DT fa X (.Compare a [fz o,fz j] [b,d] pos) (λZ M=>((ga Z M).bind λx M=>(gb Z M).bind λy M=>(b8 M (br o x y M)).bind λk M=>
  if k then(u Z M).bind λz M=>(b8 M (br j y z M)).bind λb M=>.ok (.bl b) M else .ok (.bl false) M).bind λx M=>b8 M (kM M x)):=
 mG (CU (nW v o) (nW v j) B E F hm) λI H Q h=>Fw I H _ (Gq (λZ M x J e=>by
  obtain⟨S,L,_,e⟩:=fA e;obtain⟨U,O,_,e⟩:=fA e;obtain⟨k,P,_,e⟩:=fA e;cases k with
  |false=>cases e;exact{_,rfl}
  | true=>
    obtain⟨W,R,_,e⟩:=fA e;exact C1 e) h)
def NC (B:DE fa X a ga):DE fa X (.UnaryOp .USub a pos) (λZ M=>(ga Z M).bind λx M=>match x with|.int i=>.ok (.int (-i)) M|_=>.bad):=
 bJ (EN zv B) λO H Q ⟨L,Z,M,u,z,h⟩=>t1 u z h λx J v I F E y j r1 h1=>by
  cases x with
  |int i=>exact{i,r1,a7 j (bw.ext h1 E) rfl}
  |_=>exact h1.elim
def NL {rest:List Expr}(I:DE fa X a ga)(J:DE fa X (.BoolOp .And (b::rest) pos) gb):DE fa X (.BoolOp .And (a::b::rest) pos) (λZ M=>(ga Z M).bind λx M=>match x with
 |.bl true=>gb Z M
 |.bl false=>.ok (.bl false) M
 |_=>.bad):=
 bJ (J6 I J) λP H Q ⟨O,Z,M,E,F,h⟩=>t1 E F h λx B v L y z u j r1 h1=>by
  cases x with
  | bl k=>
    refine{k,r1,?_};cases k with
    |true=>exact{y,Z,B,u,j,ky h1 z}
    |false=>exact a7 j (bw.ext h1 z) rfl
  |_=>exact h1.elim
def PC {rest:List Expr}(I:DE fa X a ga)(J:DE fa X (.BoolOp .Or (b::rest) pos) gb):DE fa X (.BoolOp .Or (a::b::rest) pos) (λZ M=>(ga Z M).bind λx M=>match x with
 |.bl true=>.ok (.bl true) M
 |.bl false=>gb Z M
 |_=>.bad):=
 bJ (MM I J) λP H Q ⟨O,Z,M,E,F,h⟩=>t1 E F h λx B v L y z u j r1 h1=>by
  cases x with
  | bl k=>
    refine{k,r1,?_};cases k with
    |true=>exact a7 j (bw.ext h1 z) rfl
    |false=>exact{y,Z,B,u,j,ky h1 z}
  |_=>exact h1.elim
def FE (h:DE fa X a ga):DE fa X (.BoolOp op [a] pos) ga:=J1 h
def NA (B:DE fa X a ga):DE fa X (.UnaryOp .Not a pos) (λZ M=>(ga Z M).bind λx M=>match x with|.bl k=>.ok (.bl (!k)) M|_=>.bad):=
 bJ (J2 B) λO H Q ⟨L,Z,M,u,z,h⟩=>t1 u z h λx J v I F E y j r1 h1=>by
  cases x with
  |bl k=>exact{k,r1,a7 j (bw.ext h1 E) rfl}
  |_=>exact h1.elim
variable{ta tb:Env->Mem->Res Bool}
def HP (h:DT fa X a ta):DW fa X (.BoolOp .And [a] pos) ta:=G5 h
def Ls (h:DT fa X a ta):DW fa X (.BoolOp .Or [a] pos) ta:=JP h
def Oa {Q:Bool->Hp->Prop}(x:Ext μ H μ' H')(h:ae b' λb M'=>∀u j,Ext μ H j u->RelM fa X.K j u M'->Q b u):ae b' λb M'=>∀u j,Ext μ' H' j u->RelM fa X.K j u M'->Q b u:=
 aA h λb M q u j y m=>q u j (x.trans y) m
def Lu {rest:List Expr}(I:DT fa X a ta)(J:DW fa X (.BoolOp .And (b::rest) pos) tb):DW fa X (.BoolOp .And (a::b::rest) pos) (λZ M=>(ta Z M).bind λk M=>if k then tb Z M else .ok false M):=
 Ar (JQ I J) λO H Q ⟨L,Z,M,E,F,h⟩=>zI E F h λk B z u y v j h1=>by
  cases k with
  |true=>exact{u,Z,B,v,j,Oa y h1}
  |false=>exact h1 z u y j
def Nq {rest:List Expr}(I:DT fa X a ta)(J:DW fa X (.BoolOp .Or (b::rest) pos) tb):DW fa X (.BoolOp .Or (a::b::rest) pos) (λZ M=>(ta Z M).bind λk M=>if k then .ok true M else tb Z M):=
 Ar (MJ I J) λO H Q ⟨L,Z,M,E,F,h⟩=>zI E F h λk B z u y v j h1=>by
  cases k with
  |true=>exact h1 z u y j
  |false=>exact{u,Z,B,v,j,Oa y h1}
def Lv (E:DT fa X a ta):DT fa X (.UnaryOp .Not a pos) (λZ M=>(ta Z M).bind λk M=>.ok (!k) M):=
 mG (JR E) (by rintro L H Q ⟨J,Z,M,y,B,h⟩;exact zI y B h λk I v u F z j h1=>h1 v u F j)
def DN (F:DE fa X a ga)(he:∀whole,isTrue a X.env whole=(do let v <- whole;standAt a.pos;holding [v] (truthy v))):DT fa X a (λZ M=>(ga Z M).bind λx M=>b8 M (kM M x)):=
 mG (CT F he) λO H Q ⟨L,Z,M,z,E,h⟩=>t1 z E h λx J v y u I B j r1 h1=>by
  obtain⟨k,e,q⟩:=nA h1;exact{k,Oy j r1 e,q y u I j}
def NF (J:DT fa X c gc)(F:DE fa X a ga)(I:DE fa X b gb):DE fa X (.IfExp c a b pos) (λZ M=>(gc Z M).bind λk M=>if k then ga Z M else gb Z M):=
 bJ (uR J F I) λP H Q ⟨O,Z,M,B,E,h⟩=>zI B E h λk y L v z j u h1=>by
  cases k with
  |true=>exact{v,Z,y,j,u,ky h1 z}
  |false=>exact{v,Z,y,j,u,ky h1 z}
def NH (J:DE fa X a ga)(L:DE fa X b gb)(hs:lA b):DE fa X (.Subscript a b pos) (λZ M=>(ga Z M).bind λx M=>(gb Z M).bind λy M=>b8 M (bP x y M)):=
 bJ (EO Nf J L hs) λS H Q ⟨R,Z,M,E,I,h⟩=>t2 E I h λx y B v u P z O F j r1 r2 h2=>by
  obtain⟨d,e,q⟩:=nA h2;exact{z,B,x,y,d,j,r1,r2,e,q.ext O}
def DO (fa:Fa)(X:Cx)(e:Option Expr)(z:Bool)(g:Env->Mem->Res D):Prop:=PO X e λB H Q=>∃u v M,bx fa X.K u H B v/\RelM fa X.K u H M/\ae (g v M) λd y=>∃o,cv z d=true/\pX d=some o/\∀j h,Ext u H h j->RelM fa X.K h j y->Q o j
def HX:DO fa X none false (λ_ M=>.ok .non M):=λh s v H Q I ⟨u,z,M,y,j,o,_,e,k⟩=>by
 cases e;exact Hb h s v H Q I (k H u .refl j)
def HW (E:DE fa X a ga):DO fa X (some a) true ga:=λj s L H Q I ⟨F,J,M,z,B,h⟩=>Ha E j s L H Q I {F,J,M,z,B,aA h λd O ⟨o,p,e,k⟩ v y u x m r=>by
 cases d with
 |int i=>cases e;exact{i,r,k y u x m}
 |_=>cases p}
def part_of {d:D}(h:cv hp d=true):∃o,pX d=some o:=by
 cases hp<;>cases d<;>first|exact{_,rfl}|cases h
set_option tactic.hygienic true in
def Nz (m hl hh:Bool){lo hi:Option Expr}(ha:DE fa X a ga)(F:DO fa X lo hl gl)(E:DO fa X hi hh gh):DE fa X (.Subscript a (.Slice lo hi none p2) pos)
 (λZ M=>(ga Z M).bind λx M=>(gl Z M).bind λl M=>(gh Z M).bind λh M=>if cv hl l&&cv hh h then cM m x l h M else .bad):=
 bJ (uQ (GN m) ha F E) λσ H Q ⟨μ,Z,M,hE,hM,h⟩=>t1 hE hM h λx U v H1 J x1 j y r1 h1=>by
  obtain⟨l,W,e2,h2⟩:=aT h1;obtain⟨u,Y,e3,h3⟩:=aT h2;split at h3
  ·next c=>
   rw[Qh] at c;obtain⟨ol,P⟩:=part_of c.1;obtain⟨ou,R⟩:=part_of c.2;refine{J,Z,U,j,y,?_};rw[e2];refine{ol,c.1,P,λH2 L I z=>{L,Z,W,j.ext I,z,?_}};rw[e3];exact{ou,c.2,R,λH3 O S B=>{O,Y,x,l,u,B,(r1.ext I).ext S,P,R,ky h3 ((x1.trans I).trans S)}}
  ·exact h3.elim
def LO:DA fa X [] (λ_ M=>.ok [] M):=AD eA (by rintro z H Q ⟨u,y,M,v,j,h⟩;exact h [] H u .refl j rfl)
def Ig (P:DE fa X a ga)(hs:DA fa X es gs)(I:starEach (a::es) X.env=(false,eval a X.env)::starEach es X.env) :
 DA fa X (a::es) (λZ M=>(ga Z M).bind λx M=>(gs Z M).bind λxs M=>.ok (x::xs) M):=
 AD (bS P hs I) (by rintro σ H Q ⟨μ,Z,M,J,O,h⟩;exact t1 J O h λx W v U S R j u r1 h1=>rV j u h1 λxs Y B F z E L y r2 h2=>h2 (v::B) F z (R.trans E) y {v,B,rfl,r1.ext E,r2})
set_option tactic.hygienic true in
def Nx (hs:DA fa X es gs):DE fa X (.Tuple es k pos) (λZ M=>(gs Z M).bind lU):=
 bJ (JY hs) λL H Q ⟨J,Z,M,u,y,h⟩=>rV u y h λxs F I E B z v j r1 h1=>by
  unfold lU at h1;split at h1
  ·next c=>exact{by rw[r1.length,<- dM];exact c,iL j r1 (bw.ext h1 z)}
  ·exact h1.elim
def ND (m:Bool)(hs:DA fa X es gs):DE fa X (.List es pos) (λZ M=>(gs Z M).bind (bu m)):=
 bJ (J4 hs) λL H Q ⟨J,Z,M,u,y,h⟩=>rV u y h λxs F I E B z v j r1 h1=>by
  obtain⟨c,k⟩:=gR j r1 (ky h1 z);exact{by rw[r1.length,<- dM];exact c,k}
end
def mX (o:Obj)(f:Array Qj->Array Qj):(o.mapFields f).dict=o.dict:=by
 obtain⟨c,d,h,sl⟩:=o;cases h<;>rfl
section
variable{P:Q0}{w:QX}{M:Model}{A:Rz}{E:Qj->Qn->Prop}{base:Heap}{env:RE}{outer:List RE}{L a C:Addr}{dx:Option Addr}{New:Addr->Prop}{H:Hp}{s:Qn}{Q:Unit->Qn->Prop}
def wo (hfr:A.frames=some (env::outer))(hl:s.heap.FunFrames base (env::outer))(hf:env.frame=some L)
 (he:s.heap.get? a=some oe) (hd:oe.data=.fields vs) (hsz:1<vs.size)
 (h:∀S T oT ts,(∀b o,b∉gF (env::outer)->b≠a->s.heap.get? b=some o->S.get? b=some o)->(∀b o,b≠a->s.heap.get? b=some o->∃sl,S.get? b=some {o with slots:=sl})->s.heap.objs.size<=T->T≠a->
  S.get? a=some (oe.mapFields (·.setIfInBounds 1 (.ref T)))->S.get? T=some oT->oT.data=.fields ts->ts[3]?=some .none->Q () {s with heap:=S}) :
 wpAny M A (do let f <- frameOf env;let pl <- entryPlaceOf L had;let b <- EntryCells.newEntry head f .none (rawInt L) .none pl;setField (.ref a) 1 b) (λ_ s'=>wpAny M A (setFlight (.ref a) none) Q E s') E s:=by
 have U:a∉gF (env::outer):=λhm=>by
  obtain⟨_,o,ho,hnf⟩:=hl.mem hm;rw[he] at ho;cases ho;exact hnf vs hd
 refine tqa (wpAny_frameOf_fun hfr hl hf λj v=>?_);refine tqa (wpAny_entryPlaceOf λpl W=>?_);refine tqa (wpAny_newObj_type ?_ (W.sizeOk5 _ _ _ _ _));have F:j.get? a=some oe:=(v.2.1 a U).trans he;generalize ho:({cls:=.type "traceback",dict:=none,data:=.fields ([head,.ref L,.none,rawInt L,.none]++(if pl.isEmpty then List.replicate 6 Value.none else pl)).toArray}:Obj)=o;have O:o.data=.fields ([head,.ref L,.none,rawInt L,.none]++(if pl.isEmpty then List.replicate 6 Value.none else pl)).toArray:=by rw[<- ho]
 have I:=Qi o F;refine wpAny_setField I hd hsz ?_;have R:=Rv (Qy F);have B:=RB hd (·.setIfInBounds 1 (Value.ref j.objs.size));have J:=RH (Obj.mapFields (·.setIfInBounds 1 (Value.ref j.objs.size))) I (R7 B);have y:=(Rh (j.push o) (Obj.mapFields (·.setIfInBounds 1 (Value.ref j.objs.size))) (Ru R)).trans (QD j (R7 O));refine tqa (tqf J B (x:=.ref j.objs.size) (by simp[hsz]) ?_)
 rw[if_pos `s]
 refine wpAny_setField y O (by simp only[Qw,QJ,List.length_cons,List.length_nil]<;>omega) ?_
 have keep:∀b u,b≠a->j.get? b=some u->(((j.push o).update a (Obj.mapFields (·.setIfInBounds 1 (Value.ref j.objs.size)))).update j.objs.size (Obj.mapFields (·.setIfInBounds 3 ((none:Option Addr).elim Value.none λf=>rawInt f)))).get? b=some u:=λb u z Y=>by
  have hbT:=Rv (Qy Y);rw[Rh _ _ hbT,Rh _ _ (Ru z)];exact Qi _ Y
 refine h _ j.objs.size _ _ (λb u Y z q=>keep b u z ((v.2.1 b Y).trans q)) (λb u z q=>?_) (Nat.le_of_eq v.1.symm) R ?_ (RH _ y (R7 (RB O _))) (RB O _) ?_
 ·obtain⟨sl,e⟩:=v.2.2 b u q;exact{sl,keep b _ z e}
 ·rw[Rh _ _ R];exact J
 ·first|(simp;done)|(rcases W with rfl|⟨_,_,_,_,_,_,_,rfl⟩<;>simp)
def qT (hfr:A.frames=some (env::outer))(hl:s.heap.FunFrames base (env::outer))(hf:env.frame=some L)(hF:mv New C dx a s.heap H)(hN:∀b,s.heap.objs.size<=b->New b)(hok:eU P w H s.heap)(J:∀b∈gF (env::outer),H b=none)
 (h:∀B ch,(∀b∈ch,New b/\H b=none/\∃o vs,s.heap.get? b=some o/\o.data=.fields vs)->Un (gF (env::outer)) ch H H s.heap B->eU P w H B->mv New C dx a B H->Q () {s with heap:=B}) :
 wpAny M A (noteFrame (.ref a) env) (λ_ s1=>wpAny M A (setFlight (.ref a) none) Q E s1) E s:=by
 obtain⟨na,ha,oe,vs,he,hc,Y,hd,tr⟩:=hF;have U:∀B ch,(∀b∈ch,New b/\H b=none/\∃o vs,s.heap.get? b=some o/\o.data=.fields vs)->(∀b o,b∉gF (env::outer)->b∉ch->s.heap.get? b=some o->B.get? b=some o)->(∀b o,b∉ch->s.heap.get? b=some o->∃sl,B.get? b=some {o with slots:=sl})->mv New C dx a B H->Q () {s with heap:=B}:=λB ch W keep slot fl=>by
  refine h B ch W {λb o q _ j F=>keep b o j F q,λb o q _ _ F=>slot b o F q,λ_ _ _ n _=>n,λb o q F=>let⟨sl,e⟩:=slot b o F q;{_,e},λ_ _ e=>e,λ_ _ _ e=>e,λb ps e=>{#[],by rw[e];simp}} (λb u e=>(hok b u e).stay (λc v hc q=>?_) (λ_ q=>q) λ_ _ q=>q) fl
  have nn:H c≠none:=by rcases hc with z|z<;>(intro z';first|(rw[z,e] at z';cases z')|(rw[z] at z';cases z'))
  exact keep c v (λz=>nn (J c z)) (λz=>nn (W c z).2.1) q
 unfold noteFrame;simp only[hf];rcases tr with h1|⟨T,oT,ts,h1,hTa,nT,hT0,hT,I,h3⟩
 ·refine tqa (tqf he hd h1 ?_);rw[if_neg `d]
  refine wo hfr hl hf he hd (QY.mp h1).1 λB T oT ts k1 k2 R k4 k5 k6 k7 k8=>?_;refine U B [a] (λb j=>?_) (λb o j F q=>k1 b o j (λz=>F (by simp[z])) q) (λb o F q=>k2 b o (λz=>F (by simp[z])) q) {na,ha,_,_,k5,?_,?_,RB hd _,.inr {T,oT,ts,by simp[(QY.mp h1).1],k4,hN _ R,hok.fresh R,k6,k7,k8}}
  ·rcases Qz.mp j with rfl
   exact⟨na,ha,oe,vs,he,hd⟩
  ·rw[Obj.cls_mapFields];exact hc
  ·rw[mX];exact Y
 ·refine tqa (tqf he hd h1 ?_);rw[if_pos `s]
  refine tqa (tqf hT I h3 ?_);rw[if_neg (by simp[rawInt])]
  refine tqa (wpAny_setField hT I (QY.mp h3).1 ?_);have y:∀b,b≠T->(s.heap.update T (Obj.mapFields (·.setIfInBounds 3 Value.none))).get? b=s.heap.get? b:=λb j=>Rh _ _ (Ru j);have S:∀b o,s.heap.get? b=some o->(∀vs,o.data≠.fields vs)->b≠T:=λb o j O q=>by
   rw[q,hT] at j;cases j;exact O ts I
  have hz:(s.heap.update T (Obj.mapFields (·.setIfInBounds 3 Value.none))).objs.size=s.heap.objs.size:=Heap.size_after_update ..;refine wo hfr (hl.of_keeps λb o j O=>{o,(y b (S b o j O)).trans j,rfl}) hf ((y a (Ru hTa)).trans he) hd (QY.mp h1).1 λB T' oT' ts' k1 k2 R k4 k5 k6 k7 k8=>?_;have R:s.heap.objs.size<=T':=by rw[<- hz];exact R
  refine U B [a,T] (λb j=>?_) (λb o j F q=>k1 b o j (λz=>F (by simp[z])) ((y b (λz=>F (by simp[z]))).trans q)) (λb o F q=>k2 b o (λz=>F (by simp[z])) ((y b (λz=>F (by simp[z]))).trans q)) {na,ha,_,_,k5,?_,?_,RB hd _,.inr {T',oT',ts',by simp[(QY.mp h1).1],k4,hN _ R,hok.fresh R,k6,k7,k8}}
  ·rcases Qu.mp j with rfl|j
   ·exact⟨na,ha,oe,vs,he,hd⟩
   ·rcases Qz.mp j with rfl
    exact⟨nT,hT0,oT,ts,hT,I⟩
  ·rw[Obj.cls_mapFields];exact hc
  ·rw[mX];exact Y
end
def gJ (P:Q0)(w:QX):v7:=λouter H s E e s'=>∃a C dx H',e=.ref a/\s'.os=s.os/\AllBare s'.gens/\Un (gF outer) [] H H' s.heap s'.heap/\eU P w H' s'.heap/\mv (λb=>s.heap.get? b=none) C dx a s'.heap H'/\E (.ref C) dx H'
def mv.imp (f:mv New C dx a h H)(i:∀b,New b->New' b):mv New' C dx a h H:=by
 obtain⟨u,j,o,F,h1,h2,h3,h4,B⟩:=f;refine{i _ u,j,o,F,h1,h2,h3,h4,?_};rcases B with t|⟨T,v,ts,t1,t2,y,z⟩
 ·exact .inl t
 ·exact .inr {T,v,ts,t1,t2,i _ y,z}
section
variable{P:Q0}{w:QX}{K:Qf}{mg:Str->Option Qj}{base:Heap}{N:List Str}{qual:Str}{scope:Scope}{f:Addr}{cd:Qj}{A:Rz}{outer:List RE}{s:Qn}{H:Hp}{E:XK}
def Di (I:Inv (fy (gJ P w) P w K mg base N qual scope f cd A outer s H E) pins σ H' s')(W:mv (ni (fy (gJ P w) P w K mg base N qual scope f cd A outer s H E)) C dx a s'.heap H')(U:E (.ref C) dx H') :
 (fy (gJ P w) P w K mg base N qual scope f cd A outer s H E).xe (.ref a) s':=by
 have F:=I.stack;have J:=I.sz;have Y:∀b o,s.heap.get? b=some o->b∈gF (envOfC qual scope s.heap.objs.size f cd::outer)->b∈gF outer:=λb o q y=>by
  rcases Qu.mp (y) with e|e
  ·exact absurd (Qy q) (by rw[e];exact Rt _)
  ·exact e
 unfold fy;refine tqa (qT (New:=λb=>s.heap.get? b=none) I.ok.frames F rfl (W.imp λb z=>z.1) (λb z=>RX (Qs J z)) I.hok I.stkFree λh' R B u hok fl=>?_);have v:∀b o,s.heap.get? b=some o->b∉R:=λb o q z=>by have:=(B b z).1;rw[q] at this;cases this
 have h:=I.base;refine{a,C,dx,H',rfl,I.os,I.bare,{λb o q n y j=>?_,λb o q n y j=>?_,h.free,λb o q j=>?_,h.tups,h.frzs,h.tbls},hok,fl,U}
 ·exact u.keep b o (h.keep b o q n y j) (h.free b o q n j) (λz=>y (Y b o q z)) (v b o q)
 ·obtain⟨sl,e⟩:=h.slot b o q n y j;obtain⟨O,S⟩:=u.any e (h.free b o q n j) (v b o q);exact⟨O,S⟩
 ·obtain⟨o',e⟩:=h.there b o q j;exact u.there b o' e (v b o q)
end
section
variable{X:Cx}{pins:List (Addr×Obj)}{σ:L2.St}{H H':Hp}{s s':Qn}{E:XK}{e:Qj}
def A9 (I:Inv X pins σ H s)(v:X.ex=[])(h:gJ X.prog X.w X.stack H s E e s'):∃a C dx H',e=.ref a/\Inv X pins σ H' s'/\mv (ni X) C dx a s'.heap H'/\E (.ref C) dx H':=by
 obtain⟨a,C,dx,H',rfl,os,bare,un,hok,fl,q⟩:=h;refine{a,C,dx,H',rfl,I.call' os un hok bare (λb z=>absurd z `s),fl.imp λb z=>{?_,λp u e=>?_},q}
 ·cases e:X.s₀.heap.get? b with
  |none=>rfl
  | some o=>
    obtain⟨y,j⟩:=I.base.there b o e (by rw[v];simp)
    rw[z] at j;cases j
 ·have:=(I.pin p (RA _ u)).1;rw[e,z] at this;cases this
def vh (I:Inv X pins σ H s)(j:∀b∈ch,X.s₀.heap.get? b=none/\(∃o vs,s.heap.get? b=some o/\o.data=.fields vs)/\∀p∈X.pn++pins,p.1≠b)(u:Un (gF X.stack) ch H H s.heap h')(hok:eU X.prog X.w H h'):Inv X pins σ H {s with heap:=h'}:=by
 obtain⟨m,⟨o,es,ep,ho,hd,r⟩,hl⟩:=id I.loc;have J:X.env.locals∉ch:=λz=>by
  obtain⟨R,vs,e,d⟩:=(j _ z).2.1;rw[ho] at e;cases e;rw[hd] at d;cases d
 have F:∀x c,X.env.cells.lookup x=some c->c∉ch:=λx c e z=>by
  obtain⟨R,vs,U,d⟩:=(j _ z).2.1;obtain⟨v,o2,e2,d2⟩:=I.cell x c e;rw[e2] at U;cases U;rw[d2] at d;cases d
 have n0:∀b o,X.s₀.heap.get? b=some o->b∉ch:=λb o e z=>by rw[(j b z).1] at e;cases e
 have O:∀b o,X.s₀.heap.get? b=some o->b∉X.fs->b∉gF X.stack:=λb o e n z=>(Qu.mp (I.stkSub b z)).elim (λq=>absurd (Qy e) (by rw[q];exact Nat.not_lt.mpr I.ok.above)) n
 obtain⟨sl,hL⟩:=u.any ho I.free J;have h:∀x c,X.env.cells.lookup x=some c->∀v,s.heap.IsCell c v->h'.IsCell c v:=λx c e v ⟨o,ho,hd⟩=>by
  obtain⟨sl,q⟩:=u.any ho (I.freeC x c e) (F x c e);exact{_,q,hd}
 refine{I.ok,I.os,I.bare,{λb o e n B y=>?_,λb o e n B y=>?_,I.base.free,λb o e y=>?_,I.base.tups,I.base.frzs,I.base.tbls},{m,{_,es,ep,hL,hd,r},λi x v e1 e2 e3=>?_},λx c e=>?_,I.free,I.freeC,λp W=>?_,hok,I.len}
 ·exact u.keep b o (I.base.keep b o e n B y) (I.base.free b o e n y) (O b o e B) (n0 b o e)
 ·obtain⟨sl,e1⟩:=I.base.slot b o e n B y;obtain⟨S,e2⟩:=u.any e1 (I.base.free b o e n y) (n0 b o e);exact⟨S,e2⟩
 ·obtain⟨R,e1⟩:=I.base.there b o e y;exact u.there b R e1 (n0 b o e)
 ·obtain⟨u',r',l⟩:=hl i x v e1 e2 e3;refine{u',r',?_};rcases l with l|⟨k,c,e,z⟩
  ·exact .inl l
  ·exact .inr {k,c,e,h x c e _ z}
 ·obtain⟨v,z⟩:=I.cell x c e;exact{v,h x c e v z}
 ·obtain⟨e,n,ne,Y,d⟩:=I.pin p W;exact{u.keep p.1 p.2 e n (λz=>(Qu.mp (I.stkSub _ z)).elim ne Y) λz=>(j _ z).2.2 p W rfl,n,ne,Y,d}
def sy (I:Inv X pins σ H s)(J:X.ex=[])(hn:H a=none)(O:X.s₀.heap.get? a=none)(hf:∃ob vs,s.heap.get? a=some ob/\ob.data=.fields vs)(R:∀p∈X.pn++pins,p.1≠a)(new:eK X.prog X.w (upd H a o) s.heap a o):Inv X pins σ (upd H a o) s:=by
 obtain⟨ob,vs,j,hd⟩:=hf;have ne:∀b u,H b=some u->b≠a:=λb u e=>aX e hn;refine{I.ok,I.os,I.bare,{I.base.keep,I.base.slot,λb o e n J=>?_,I.base.there,λb xs e=>?_,λb o u e=>?_,λb ps e=>?_},I.loc,I.cell,?_,λx c e=>?_,λp y=>?_,λb u e=>?_,I.len}
 ·rw[aI (λz=>by rw[z,O] at e;cases e)];exact I.base.free b o e n J
 ·have q:=I.base.tups b xs e;rw[aI (ne b _ q)];exact q
 ·have q:=I.base.frzs b o u e;rw[aI (ne b _ q)];exact q
 ·obtain⟨m,q⟩:=I.base.tbls b ps e;exact{m,by rw[aI (ne b _ q)];exact q}
 ·obtain⟨m,⟨Y,U,S,ho,h,_⟩,_⟩:=id I.loc;rw[aI (λz=>by rw[z,j] at ho;cases ho;rw[hd] at h;cases h)];exact I.free
 ·obtain⟨v,W,e2,B⟩:=I.cell x c e;rw[aI (λz=>by rw[z,j] at e2;cases e2;rw[hd] at B;cases B)];exact I.freeC x c e
 ·obtain⟨e,n,r⟩:=I.pin p y;exact{e,by rw[aI (R p y)];exact n,r}
 ·by_cases F:b=a
  ·subst F;rw[bR] at e;cases e;exact new
  ·rw[aI F] at e;exact(I.hok b u e).stay (λc v _ q=>q) (λc q=>by rw[aI (ne c _ q)];exact q) λc xs q=>by rw[aI (ne c _ q)];exact q
end
def iJ {h:Type}(r:Res h)(k:h->Mem->Prop)(j:D->Mem->Prop):Prop:=match r with
 |.ok a M=>k a M
 |.err x M=>j x M
 |.bad=>False
def Kh {j:Type}{r:Res j}{k:j->Mem->Prop}{u:D->Mem->Prop}(h:ae r k):iJ r k u:=by
 cases r with
 |ok a M=>exact h
 |err=>exact h.elim
 |bad=>exact h
def FQ (fa:Fa)(K:Qf)(μ:Mu)(H:Hp)(E:XK)(x:D)(M':Mem):Prop:=∀C dx c p H' h,Ext μ H h H'->RelM fa K h H' M'->x=.exc c p->fa (fk c)=some C->y8 H' c dx p->E (.ref C) dx H'
def ER:Passes (gJ P w) X E0:=λ_ _ _ _ _ _ _ h=>let{_,_,_,_,_,_,_,_,_,_,z}:=h;z.elim
def Ji (fa:Fa)(K:Qf)(k:Nat)(call:List D->Mem->Res D):Sp:=λu H Q E=>u.length=k/\∃h M j,RelM fa K h H M/\aO fa K h H j u/\iJ (call j M) (bw fa K h H Q) (FQ fa K h H E)
def jw (fa:Fa)(P:Q0)(w:QX)(K:Qf)(mg:Str->Option Qj)(base:Heap)(n:Nat)(f:Nat)(call:List D->Mem->Res D):Prop:=
 (∀h M,call h M=.bad)\/∃(ad:Addr) (j:FuncData) (ps:List Str),fa f=some ad/\PySem.W.keepIn K (.ref ad)=true/\Binds K j ps []/\(∀h M,h.length≠ps.length->call h M=.bad)/\kY P w K mg base (gJ P w) (2*n+4) ad j ps (Ji fa K ps.length call)/\((fa (500+f)).isSome=true->Binds K j ps [.none])
section
variable{fa:Fa}{X:Cx}{a b d:Expr}{ga gb gd:Env->Mem->Res D}{pos p:Pos}{es:List Expr}{gs:Env->Mem->Res (List D)}{n:Nat}
def BL {call:List D->Mem->Res D}{r:Res (List D)}(j:∀ds M,call ds M=.bad)(h:ae (r.bind λds M=>call ds M) P):False:=by
 obtain⟨ds,M,_,q⟩:=aT h;rw[j] at q;exact q
def sJ {call:List D->Mem->Res D}(v:bx fa X.K μ H σ Z)(z:RelM fa X.K μ H M)(h:ae ((gs Z M).bind λds M=>call ds M) (bw fa X.K μ H Q))
 (hk:∀ds M1,ds.length≠k->call ds M1=.bad):EG (Ji fa X.K k call) [] E0 (tA fa X.K gs) σ H Q:=by
 refine rV v z h λds M1 F E u B y j r1 h1=>?_;rw[List.append_nil];refine{?_,u,M1,ds,j,r1,Kh (ky h1 B)};rw[r1.length];by_cases hl:ds.length=k
 ·exact hl
 ·rw[hk ds M1 hl] at h1;exact h1.elim
def LR {call:List D->Mem->Res D}(C:jw fa X.prog X.w X.K X.mg X.base n f call)(hr:cF (2*n+4) X.A)(E:Gl X x)(hm:∀ad,fa f=some ad->X.mg x=some (.ref ad))(hs:DA fa X (a::es) gs)
 (j:(x==("__debug__":Str))=false) (he:starEach (a::es) X.env=(false,eval a X.env)::starEach es X.env) (u:(backTo pos (starEach es X.env)).any (·.1)=false) :
 DE fa X (.Call (.Name x p) (a::es) [] pos) (λZ M=>(gs Z M).bind λds M=>call ds M):=by
 rcases C with B|⟨ad,O,ps,h1,h2,h3,h4,F,_⟩
 ·exact(by rintro z s L H Q I ⟨J,Z,M,v,y,h⟩;exact(BL B h).elim)
 ·exact bJ (He F hr E (hm ad h1) h2 h3 .nil ER hs j he u) (by rintro L H Q ⟨J,Z,M,v,y,h⟩;exact sJ v y h h4)
def Ih {i:Nat}{x:Str}{call:Nat->List D->Mem->Res D}(C:∀f,jw fa X.prog X.w X.K X.mg X.base n f (call f))(hr:cF (2*n+4) X.A)(hN:X.N[i]?=some x)(hv:vY X.env.scope x)(hs:DA fa X (a::es) gs)
 (hd:(x==("__debug__":Str))=false) (z:(x==("__classdict__":Str))=false) (he:starEach (a::es) X.env=(false,eval a X.env)::starEach es X.env) (B:(backTo pos (starEach es X.env)).any (·.1)=false) :
 DE fa X (.Call (.Name x p) (a::es) [] pos) (λZ M=>match Z[i]?.getD none with|some (.fn f)=>(gs Z M).bind λds M=>call f ds M|_=>.bad):=by
 rintro y s R H Q I ⟨μ,Z,M,P,hM,h⟩;dsimp only at h;cases e:Z[i]?.getD none with
 |none=>rw[e] at h;exact h.elim
 | some df=>
   cases df with
   | fn f=>
     rw[e] at h;have e':Z[i]?=some (some (.fn f)):=by
      cases q:Z[i]? with
      |none=>rw[q] at e;cases e
      |some o=>rw[q] at e;simp at e;rw[e]
     obtain⟨v,E,J⟩:=P.at' i _ e';obtain⟨ad,rfl,j⟩:=J;rcases C f with hb|⟨Y,fd,ps,h1,h2,h3,h4,F,_⟩
     ·exact(BL hb h).elim
     ·rcases j with j|⟨j,_⟩<;>rw[j] at h1<;>cases h1
      refine wpAny_Call_Name_kw (aY (pW hN hv hd z y s R H (λv S=>v=.ref ad/\S=H) I {_,E,rfl,rfl}) λu s1 ⟨v,U,L,r1,e1,e2⟩=>?_);subst e1 e2;obtain rfl:u=Value.ref ad:=r1;refine PySem.W.callWith_K L.ok.mod.kin h2 (aY (hs pos y s1 R U _ L (sJ P hM h h4)) λus s2 ⟨vs,H2,O,r,q⟩=>{O.kIn,?_}) he B;exact An F hr h3 .nil ER O r q
   |_=>rw[e] at h;exact h.elim
def FG (f:xK){id:String}(I:c4 X (.builtin id) (qQ fa X.K f))(J:Gl X x)(hm:X.mg x=none)(L:bootBuiltins x=some (.builtin id))(hs:DA fa X (a::es) gs)(hn:x≠"__name__")(u:(x==("__debug__":Str))=false)
 (he:starEach (a::es) X.env=(false,eval a X.env)::starEach es X.env) (v:(backTo pos (starEach es X.env)).any (·.1)=false):DE fa X (.Call (.Name x p) (a::es) [] pos) (λZ M=>(gs Z M).bind λds M=>eQ f ds M):=
 bJ (iU I J hm L hs hn u he v) (by rintro U H Q ⟨S,Z,M,B,F,h⟩;exact rV B F h λds z R P y O E j r1 h1=>{y,z,ds,j,r1,ky h1 O})
def Bt (f:xK)(I:c4 X (.type T) (qQ fa X.K f))(J:Gl X x)(hm:X.mg x=none)(L:bootBuiltins x=some (.type T))(hs:DA fa X (a::es) gs)(hn:x≠"__name__")(u:(x==("__debug__":Str))=false)
 (he:starEach (a::es) X.env=(false,eval a X.env)::starEach es X.env) (v:(backTo pos (starEach es X.env)).any (·.1)=false):DE fa X (.Call (.Name x p) (a::es) [] pos) (λZ M=>(gs Z M).bind λds M=>eQ f ds M):=
 bJ (Ay I J hm L hs hn u he v) (by rintro U H Q ⟨S,Z,M,B,F,h⟩;exact rV B F h λds z R P y O E j r1 h1=>{y,z,ds,j,r1,ky h1 O})
def LP (t:Ty)(R:∀c,t≠.own c)(O:DE fa X a ga)(P:Gl X "isinstance")(hm:X.mg "isinstance"=none)(S:bootBuiltins "isinstance"=some (.builtin "isinstance"))(y:Gl X x)(z:X.mg x=none)(B:bootBuiltins x=some (.type (tyName t)))
 (hn:x≠"__name__") (u:(x==("__debug__":Str))=false)
 (he:starEach [a,.Name x p1] X.env=(false,eval a X.env)::starEach [.Name x p1] X.env):DE fa X (.Call (.Name "isinstance" p2) [a,.Name x p1] [] pos) (λZ M=>(ga Z M).bind λx M=>(b8 M (bY t x)).bind λb M=>.ok (.bl b) M):=
 bJ (iU (Ln t R) P hm S (bS O (bS (wU y z B (v:=.ty (tyName t)) rfl hn u) eA `r) he) `d `d he `r) λσ H Q ⟨Y,Z,M,I,L,h⟩=>t1 I L h λx F v W E U J j r1 h1=>by
  obtain⟨b,e,q⟩:=qb h1;exact{E,F,x,v,b,rfl,j,r1,e,a7 j (q.ext U) rfl}
def gT (fa:Fa)(K:Qf)(t:gG):TG:=λv z H Q=>∃u y M d h,bx fa K u H z y/\RelM fa K u H M/\Rep fa K u H d v/\cy t d y=some h/\∀j,bx fa K u H j h->Q j H
def uP (h:PG X tg g)(i:∀v y H Q,g' v y H Q->g v y H Q):PG X tg g':=λj s y H v u Q I r q=>h j s y H v u Q I r (i v y H Q q)
def wQ (h:vZ X tg g)(i:∀v y H Q,g' v y H Q->g v y H Q):vZ X tg g':=λj s y H v u Q I r q=>h j s y H v u Q I r (i v y H Q q)
def Ib (u:X.N.Nodup)(hi:X.N[i]?=some x)(y:Loc X.env.scope x)(hf:X.fn x=true\/X.env.scope.names.lookup x=some .local):PG X (.Name x pos) (gT fa X.K (.one i)):=
 uP (qR u hi y hf) λv I H Q ⟨E,F,M,d,z,j,B,r,e,k⟩=>by
  have h:=Qp e;subst h;exact k _ (j.set r)
def Lk (fa:Fa)(K:Qf)(l:List Nat):xI:=λz B H Q=>∃u y M v h,bx fa K u H B y/\RelM fa K u H M/\aO fa K u H v z/\dA l v y=some h/\∀j,bx fa K u H j h->Q j H
inductive jM (X:Cx):List Nat->List Expr->Prop
 |nil:jM X [] []
 |cons {i:Nat}{x:Str}{p:Pos}{l:List Nat}{ns:List Expr} (hi:X.N[i]?=some x) (hx:Loc X.env.scope x) (hf:X.fn x=true\/X.env.scope.names.lookup x=some .local) (r:jM X l ns):jM X (i::l) (.Name x p::ns)
set_option tactic.hygienic true in
def jM.each (h:jM X l ns):(assignEach ns X.env).length=l.length/\(assignEach ns X.env).findIdx? (·.1)=none:=by
 induction h with
 |nil=>exact⟨rfl,rfl⟩
 | cons u v hf r j=>
   rename_i i x p l ns;have e:assignEach (.Name x p::ns) X.env=(false,assign (.Name x p) X.env)::assignEach ns X.env:=rfl;rw[e];refine{by simp[j.1],?_}
   rw[List.findIdx?_cons];simp[j.2]
def vA (I:X.N.Nodup)(h:jM X l ns):vZ X ns (Lk fa X.K l):=by
 induction h with
 | nil=>
   refine wQ wO ?_;rintro B R H Q ⟨E,P,M,j,u,y,z,r,e,k⟩;cases j with
   | nil=>
     obtain rfl:B=[]:=r;have F:=Qp e;subst F;exact{rfl,k _ y}
   |cons=>cases e
 | cons J L hf r O=>
   refine wQ (oS (qR I J L hf) O `r) ?_;rintro B R H Q ⟨E,P,M,j,u,y,z,r,e,k⟩
   cases j with
   |nil=>cases e
   | cons d j=>
     obtain⟨v,vr,rfl,r1,r2⟩:=r;exact{v,vr,rfl,E,_,M,j,u,y.set r1,z,r2,e,k}
noncomputable def jy:∀{l:List Nat}{ds:List D}{Z ρ1:Env},dA l ds Z=some ρ1->ds.length=l.length
 |[],[],_,_,_=>rfl
 |_::_,[],_,_,h=>by cases h
 |[],_::_,_,_,h=>by cases h
 | _::l,_::ds,_,_,h=>by
   have:=jy (ds:=ds) h;simp[this]
def LL (E:X.calm=true)(B:X.N.Nodup)(h:jM X l ns):PG X (.Tuple ns k pos) (gT fa X.K (.tup l)):=
 uP (uO E (vA B h) h.each.1 h.each.2) λv O H Q ⟨J,L,M,d,j,y,z,r,e,k⟩=>by
  cases d with
  | tup u=>
    obtain⟨a,I,rfl,F,r⟩:=r;exact{a,I,rfl,F,by rw[r.length];exact jy e,J,L,M,u,j,y,z,r,e,k}
  |_=>cases e
set_option tactic.hygienic true in
def vO {d:D}(h:cy (.two j l) d Z=some ρ1):∃e ds,d=.tup [e,.tup ds]/\dA l ds (Z.set j (some e))=some ρ1:=by
 unfold cy at h;split at h
 ·next e=>cases e
 ·next e=>cases e
 ·next e=>cases e;exact{_,_,rfl,h}
 ·cases h
 ·cases h
def LK (E:X.calm=true)(B:X.N.Nodup){ns:List Expr}(hi:X.N[i]?=some x)(R:Loc X.env.scope x)(hf:X.fn x=true\/X.env.scope.names.lookup x=some .local)(h:jM X l ns):PG X (.Tuple [.Name x px,.Tuple ns k2 p2] k pos) (gT fa X.K (.two i l)):=
 uP (uO E (oS (qR B hi R hf) (oS (uO E (vA B h) h.each.1 h.each.2) wO))) λv σ H Q ⟨Y,Z,M,d,y,L,O,r,e,k⟩=>by
  obtain⟨I,J,rfl,e⟩:=vO e;obtain⟨a,vs,rfl,P,S,U,rfl,r0,v1,u,rfl,r1,r2⟩:=r;obtain rfl:u=[]:=r2;obtain⟨b,W,rfl,j,F⟩:=r1;exact{a,_,rfl,P,rfl,S,_,rfl,.ref b,[],rfl,b,W,rfl,j,by rw[F.length];exact jy e,Y,Z.set i (some I),M,J,y,L.set r0,O,F,e,λz h1=>{rfl,k z h1}}
end
section
variable{fa:Fa}{X:Cx}{a b d:Expr}{ga gb gd:Env->Mem->Res D}{pos p:Pos}{es:List Expr}{gs:Env->Mem->Res (List D)}{n:Nat}
def LF (O:DE fa X a ga)(P:PG X tg (gT fa X.K t))(hs:swapsWithSole [tg] a pos.line X.env=pure false)(Q:swappedStores [tg] a X.env=pure none)(h1:(assignEach [tg] X.env).map (·.2)=[assign tg X.env]) :
 DS fa X (.Assign [tg] a pos) (λZ M=>(ga Z M).bind λx M=>(b8 M (cy t x Z)).bind λρ1 M=>.ok (.next ρ1) M):=
 fg (uL O P hs Q h1) λD Y H ⟨W,Z,M,J,L,h⟩=>t1 J L h λx I v F u R z j r1 h1=>by
  obtain⟨ρ1,U,e,q⟩:=aT h1;cases y:cy t x Z with
  |none=>rw[y] at e;cases e
  | some S=>
    rw[y] at e;cases e;exact{u,Z,I,x,ρ1,z,j,r1,y,λE B=>q E F u R B j}
def rP {y:Ends}{ad:Addr}(z:bx fa X.K μ H σ Z)(v:RelM fa X.K μ H M)(hk:μ.pub k=some ad)(r:aO fa X.K μ H ds ws)
 (q:∀j u h,Ext μ H h u->bx fa X.K h u j Z->RelM fa X.K h u (M.set k ds)->y.nx j u):y.nx σ (upd H ad (.lst ws)):=
 q σ _ μ (Ext.write (vs:=ws) v hk) (z.ext (Ext.write (vs:=ws) v hk)) (v.write hk r)
def Lz (ha:DE fa X a ga)(hb:DE fa X b gb)(hd:DE fa X d gd){p2:Pos}
 (h0:∀v,assign (.Subscript a b p2) X.env v=(do
  let B <- holding [v] (eval a X.env)
  let L <- holding [v,B] (eval b X.env)
  standAt p2
  holding [v,B,L] (setItem B L v)
  release [v,B,L] [])) (hs:swapsWithSole [.Subscript a b p2] d pos.line X.env=pure false) (hw:swappedStores [.Subscript a b p2] d X.env=pure none) (h1:(assignEach [.Subscript a b p2] X.env).map (·.2)=[assign (.Subscript a b p2) X.env]) :
 DS fa X (.Assign [.Subscript a b p2] d pos) (λZ M=>(gd Z M).bind λz M=>(ga Z M).bind λx M=>(gb Z M).bind λy M=>match x,y with
  | .cell k,.int n=>match M[k]? with
    | some ds=>match bC ds.length n with
      |some j=>.ok (.next Z) (M.set k (ds.set j z))
      |none=>.bad
    |none=>.bad
  |_,_=>.bad):=
 fg (uL hd (JX ha hb set_list h0) hs hw h1) λU σ H ⟨μ,Z,M,hE,hM,h⟩=>t1 hE hM h λz M1 v H1 μ1 x1 F J r1 h1=>t2 F J h1 λx y M2 vx vy Y μ2 S I u rx ry h2=>by
  have O:∀k n,x=.cell k->y=.int n->EM vx vy v Y λH3=>U.nx σ H3:=λk n e1 e2=>by
   subst e1 e2;dsimp only at h2;cases e:M2[k]? with
   |none=>rw[e] at h2;exact h2.elim
   | some ds=>
     rw[e] at h2;dsimp only at h2;cases E:LD.bC ds.length n with
     |none=>rw[E] at h2;exact h2.elim
     | some j=>
       rw[E] at h2;obtain⟨ad,rfl,hk⟩:=rx;obtain⟨ws,h4,R⟩:=u.at_ e hk;have q:=h2;refine{ad,ws,n,j,rfl,ry,h4,by rw[R.length];exact E,rP I u hk (R.set j (r1.ext S)) λQ W P x' e' m'=>q Q W P ((x1.trans S).trans x') e' m'}
  cases x with
  | cell k=>cases y with
    |int n=>exact O k n rfl rfl
    |_=>exact h2.elim
  |_=>exact h2.elim
set_option tactic.hygienic true in
def LG (ha:DE fa X a ga)(hd:DE fa X d gd){j u:Pos}(v:attributeBase a "append" X.env (eval a X.env)=eval a X.env)(y:(j.endLine==u.line)=true)(hs:starEach [d] X.env=[(false,eval d X.env)])
 (O:swapsWith (.Call (.Attribute a "append" j) [d] [] u) none pos.line X.env=pure false) :
 DS fa X (.Expr (.Call (.Attribute a "append" j) [d] [] u) pos) (λZ M=>(ga Z M).bind λx M=>(gd Z M).bind λz M=>match x with
  | .cell k=>match M[k]? with
    |some ds=>if ds.length<sz then .ok (.next Z) (M.set k (ds++[z])) else .bad
    |none=>.bad
  |_=>.bad):=
 fg (ny (yd PySem.F.plainAttrs_list PySem.F.slot_list_append PySem.F.type_list_append sk ha (bS hd eA hs) v (by rw[hs];rfl) y hs `r) O) λD' σ H ⟨μ,Z,M,J,hM,h⟩=>by
  obtain⟨x,M1,e1,h1⟩:=aT h;obtain⟨z,M2,e2,h2⟩:=aT h1;cases x with
  | cell k=>
    dsimp only at h2;cases e:M2[k]? with
    |none=>rw[e] at h2;exact h2.elim
    | some ds=>
      rw[e] at h2;dsimp only at h2;split at h2
      ·next hz=>
       have q:=h2;refine{μ,Z,M,J,hM,?_};rw[e1];intro vx H1 S Q B rx;obtain⟨ad,rfl,hk⟩:=rx;obtain⟨ds1,P,_,L,_⟩:=B.mu_lt hk;refine{.inl {rfl,P,dC.of L},S,Z,M1,J.ext Q,B,?_};rw[e2];intro vz H2 μ2 I E rz;obtain⟨ws,h4,W⟩:=E.at_ e (I.mu k ad hk);refine{ad,ws,vz,rfl,rfl,h4,by rw[W.length,<- dM];exact hz,?_}
       exact rP ((J.ext Q).ext I) E (I.mu k ad hk) (W.append (.one rz)) λU Y R x' e' m'=>q U Y R ((Q.trans I).trans x') e' m'
      ·exact h2.elim
  |_=>exact h2.elim
def Nr (F:DE fa X a ga)(hs:swapsWith a none pos.line X.env=pure false):DS fa X (.Expr a pos) (λZ M=>(ga Z M).bind λ_ M=>.ok (.next Z) M):=
 fg (ny F hs) (by rintro L J H ⟨P,Z,M,B,E,h⟩;exact t1 B E h λx O v z y I j u r1 h1=>h1 J z y I j u)
def Ly (v:DE fa X a ga):DS fa X (.Return (some a) pos) (λZ M=>(ga Z M).bind λx M=>.ok (.ret x) M):=
 fg (As v) λz E H ⟨y,Z,M,j,u,h⟩=>by
  obtain⟨x,B,e,q⟩:=aT h;refine{y,Z,M,j,u,?_};rw[e];exact q
def HU:DS fa X (.Return none pos) (λ_ M=>.ok (.ret .non) M):=fg G8 (by rintro u B H ⟨y,z,M,v,j,h⟩;exact a7 j h rfl)
def HV:DS fa X (.Pass pos) (λZ M=>.ok (.next Z) M):=fg G9 (by rintro z y H ⟨v,Z,M,j,u,h⟩;exact h y H v .refl j u)
set_option tactic.hygienic true in
def sZ.ext (x:Ext μ H μ' H')(q:sZ fa X μ H D' fl M):sZ fa X μ' H' D' fl M:=by
 cases fl with
 |next u=>exact λv j h y e m=>q v j h (x.trans y) e m
 |ret d=>exact bw.ext q x
 |exc z u=>exact XW.ext q x
def Ki (x:Ext μ H μ' H')(h:ae r (sZ fa X μ H D')):ae r (sZ fa X μ' H' D'):=aA h λfl M q=>q.ext x
def LB {st z:List Stmt}(I:DT fa X c gc)(J:kK fa X st gt)(hf:kK fa X z gf):DS fa X (.If c st z pos) (λZ M=>(gc Z M).bind λk M=>if k then gt Z M else gf Z M):=
 fg (MK I J hf) λL Q H ⟨P,Z,M,E,F,h⟩=>zI E F h λk y O v B j u h1=>by
  cases k with
  |true=>exact{v,Z,y,j,u,Ki B h1}
  |false=>exact{v,Z,y,j,u,Ki B h1}
def HS:kK fa X [] (λZ M=>.ok (.next Z) M):=wN wM (by rintro z y H ⟨v,Z,M,j,u,h⟩;exact h y H v .refl j u)
set_option tactic.hygienic true in
def DP {st:Stmt}(h1:DS fa X st g)(h2:kK fa X ss g'):kK fa X (st::ss) (λZ M=>(g Z M).bind λfl M=>match fl with
 |.next Z=>g' Z M
 |fl=>.ok fl M):=
 wN (oP h1 h2) λL P H ⟨I,Z,M,B,E,h⟩=>by
  obtain⟨fl,z,e,q⟩:=aT h;refine{I,Z,M,B,E,?_};rw[e];cases fl with
  |next j=>exact λJ O y F u v=>{y,j,z,u,v,Ki F q}
  |ret d=>exact q
  |exc x j=>exact q
end
def eD (fa:Fa)(K:Qf)(μ0:Mu)(H0:Hp)(w:Walk)(J:It):Prop:=
 ∀(h:Mu) (H:Hp) (M:Mem) (u:List D),ExtW μ0 H0 h H->RelM fa K h H M->w M=some u->(∀(i:Nat) (d:D),u[i]?=some d->J.go i H/\∀x j,J.yld i H x j->Ext h H h j/\RelM fa K h j M/\Rep fa K h j d x)/\∀i,u.length<=i->J.stop i H
def tI (fa:Fa)(K:Qf)(g:Env->Mem->Res Walk):TI:=λz H R=>∃u v M,bx fa K u H z v/\RelM fa K u H M/\ae (g v M) λw y=>∀J j h,Ext u H h j->RelM fa K h j y->eD fa K h j w J->R J j
abbrev DI (fa:Fa)(X:Cx)(tg h:Expr)(g:Env->Mem->Res Walk):Prop:=PI X tg h (tI fa X.K g)
def zr {K:Qf}(h:eD fa K μ0 H0 w J)(x:ExtW μ0 H0 μ1 H1):eD fa K μ1 H1 w J:=λv H M j y u e=>h v H M j (x.trans y) u e
section
variable{fa:Fa}{X:Cx}{tg a b d:Expr}{ga gb gd:Env->Mem->Res D}{pos p:Pos}{es:List Expr}{n:Nat}
def zt {ad:Addr}(h:Rep fa X.K μ0 H0 dd (.ref ad)):eD fa X.K μ0 H0 (λM=>gE M dd) (Mb X.K ad):=λP H M O x u e=>by
 obtain⟨B,j,E,s,r⟩:=bW u (Rep.extW x h) e;cases E;refine{λi d hd=>?_,λi F=>{j,s,by rw[r.length];exact F}}
 obtain⟨v,z,J⟩:=r.get hd;refine{⟨j,v,s,z⟩,λy L ⟨e,I⟩=>?_};subst e;have:=I j s;rw[z] at this;cases this;exact{.refl,u,J}
def BU {ad:Addr}(h:Rep fa X.K μ0 H0 (.tup ds) (.ref ad)):eD fa X.K μ0 H0 (λ_=>some ds) (L9 X.K ad):=λP H M B x F E=>by
 cases E;obtain⟨z,j,e,s,r⟩:=Rep.extW x h;cases e;refine{λi d hd=>?_,λi I=>{j,s,by rw[r.length];exact I}}
 obtain⟨v,u,L⟩:=r.get hd;refine{⟨j,v,s,u⟩,λy O ⟨e,J⟩=>?_};subst e;have:=J j s;rw[u] at this;cases this;exact{.refl,F,L}
def BW (lo:Int)(n:Nat):eD fa X.K μ0 H0 (λ_=>some ((List.range n).map λ(k:Nat)=>D.int (lo+(k:Int)))) (FV lo n):=λz H M v x j e=>by
 cases e;refine{λi d hd=>?_,λi h=>(show n<=i by simpa using h)}
 rw[QK] at hd;by_cases h:i<n
 ·rw[Sa h] at hd;have e:=Qp hd;subst e;refine{h,λy u ⟨e1,e2⟩=>?_};subst e1 e2;exact{.refl,j,rfl}
 ·rw[RG (by simpa using h)] at hd;cases hd
def dY (ga:Env->Mem->Res D):Env->Mem->Res Walk:=λj M=>(ga j M).bind λx M=>match x with
 |.lst h=>.ok (λ_=>some h) M
 |.tup h=>.ok (λ_=>some h) M
 |.frz h=>.ok (λ_=>some h) M
 |.cell k=>.ok (λM=>M[k]?) M
 |_=>.bad
def LJ (Y:DE fa X a ga):DI fa X tg a (dY ga):=λu s S H R I ⟨Q,Z,M,U,W,h⟩=>by
 obtain⟨x,L,e,q⟩:=aT h;have lst:(∀j B,RelM fa X.K j B L->∀v,Rep fa X.K j B x v->∃y,gE L x=some y)->(∀J B j,Ext Q H j B->RelM fa X.K j B L->eD fa X.K j B (λM=>gE M x) J->R J B)->
  wpAny (model X.prog X.w) X.A (eval a X.env) (λv s1=>wpAny (model X.prog X.w) X.A (pyIter v) (L5 X u S tg R) X.xe s1) X.xe s:=λhx q=>by
  refine Hd Y u s S H R I {Q,Z,M,U,W,?_};rw[e];intro v F z P E r1;obtain⟨y,er⟩:=hx z F E v r1;obtain⟨ad,O,rfl,s1,r⟩:=bW E r1 er;exact{ad,rfl,⟨O,s1⟩,q _ F z P E (zt r1)}
 cases x with
 |lst y=>exact lst (λ_ _ _ _ _=>⟨y,rfl⟩) q
 |frz y=>exact lst (λ_ _ _ _ _=>⟨y,rfl⟩) q
 | tup y=>
   refine JV Y u s S H R I {Q,Z,M,U,W,?_};rw[e];intro v F z P E r1;obtain⟨ad,O,rfl,s1,r⟩:=id r1;exact{ad,rfl,⟨O,s1⟩,q _ F z P E (BU r1)}
 |cell k=>exact lst (λj B m' v ⟨ad,_,hk⟩=>let{y,_,e,_}:=m'.mu_lt hk;⟨y,e⟩) q
 |_=>exact q.elim
def cJ (ga:Env->Mem->Res D):Env->Mem->Res Walk:=λh M=>(ga h M).bind λx M=>match x with
 |.int n=>if -(2^62)<=n/\n<2^62 then .ok (λ_=>some ((List.range n.toNat).map λ(k:Nat)=>D.int (k:Int))) M else .bad
 |_=>.bad
set_option tactic.hygienic true in
def H9 (J:DE fa X a ga)(L:Gl X "range")(hm:X.mg "range"=none)(hs:starEach [a] X.env=[(false,eval a X.env)]):DI fa X tg (.Call (.Name "range" p) [a] [] pos) (cJ ga):=λj s P H R I ⟨S,U,M,B,F,h⟩=>by
 refine Aw L hm (bS J eA hs) hs j s P H R I ?_;refine t1 B F h λx Q v z u O E y r1 h1=>?_;cases x with
 | int n=>
   dsimp only at h1;split at h1
   ·next c=>
    obtain rfl:v=.int n:=r1;refine{n,rfl,c.1,c.2,h1 _ z u O y ?_};have:=BW (fa:=fa) (X:=X) (μ0:=u) (H0:=z) 0 n.toNat;simpa using this
   ·exact h1.elim
 |_=>exact h1.elim
def i8 (t:gG)(gb:Env->Mem->Res Fl):Fl->D->Mem->Res Fl:=λfl d M=>match fl with
 |.next j=>(b8 M (cy t d j)).bind λh M=>gb h M
 |fl=>.ok fl M
noncomputable def Fl.out:Fl->Bool
 |.next _=>false
 |_=>true
set_option tactic.hygienic true in
theorem lW {gb:Env->Mem->Res Fl}(ho:fl.out=true):∀(n i:Nat) (M:Mem),ae (gL (i8 t gb) w n i fl M) P->P fl M
 |0,_,_,h=>h.elim
 | n+1,i,M,h=>by
   unfold gL at h;cases e:w M with
   |none=>rw[e] at h;exact h.elim
   | some j=>
     rw[e] at h;dsimp only at h;cases e2:j[i]? with
     |none=>rw[e2] at h;exact h
     | some v=>
       rw[e2] at h;cases fl with
       |next u=>cases ho
       |ret d=>exact lW ho n (i+1) M h
       |exc x u=>exact lW ho n (i+1) M h
def tL (fa:Fa)(X:Cx)(g:Env->Mem->Res Fl):TS:=λD h H=>(∀h H,D.nx h H->D.ct h H)/\tF fa X g D h H
abbrev Ot (fa:Fa)(X:Cx)(st:List Stmt)(g:Env->Mem->Res Fl):Prop:=mr X st (tL fa X g)
def Nu {body:List Stmt}{gb:Env->Mem->Res Fl}(h:kK fa X body gb):Ot fa X body gb:=λj s u H D I q=>h j s u H D I q.2
set_option tactic.hygienic true in
def LC {gw:Env->Mem->Res Walk}{gb:Env->Mem->Res Fl}(hp:PassesOwn (model X.prog X.w) X.A X.env X.xe)(hc:X.calm=true)(hi:DI fa X tg a gw)(hg:PG X tg (gT fa X.K t))(hb:Ot fa X body gb)
 (hs:∀x,foldedSetIterable a X.env x=pure x):DS fa X (.For tg a body [] pos) (λZ M=>(gw Z M).bind λw M=>dU (i8 t gb) w (.next Z) M):=
 fg (JT hp hc hi hg hb hs) λD' σ H ⟨μ,Z,M,hE,hM,h⟩=>by
  obtain⟨w,M1,e,q⟩:=aT h;refine{μ,Z,M,hE,hM,?_};rw[e];intro J H1 I x1 hM1 wk;have hE1:=hE.ext x1;refine{λi m E F=>∃j u L,Ext I H1 j F/\bx fa X.K j F E u/\RelM fa X.K j F L/\ae (gL (i8 t gb) w m i (.next u) L) (sZ fa X μ H D'),
   {_,I,Z,M1,.refl,hE1,hM1,q},?_}
  rintro i m σ2 H2 ⟨B,S,M2,R,O,P,v⟩;cases m with
  |zero=>exact v.elim
  | succ m=>
    unfold gL at v;cases e2:w M2 with
    |none=>rw[e2] at v;exact v.elim
    | some ds=>
      rw[e2] at v;dsimp only at v;obtain⟨go,stop⟩:=wk B H2 M2 ds R.toExtW P e2;cases ed:ds[i]? with
      | none=>
        rw[ed] at v;exact .inl {stop i (List.getElem?_eq_none_iff.mp ed),v σ2 H2 B (x1.trans R) O P}
      | some d=>
        rw[ed] at v;obtain⟨g1,g2⟩:=go i d ed;refine .inr {g1,λE F=>∃j u L,Ext I H1 j F/\bx fa X.K j F E u/\RelM fa X.K j F L/\ae (gL (i8 t gb) w m (i+1) (.next u) L) (sZ fa X μ H D'),λE F z=>{m,`a,z},λy H3 hy=>?_}
        obtain⟨x3,Q,r3⟩:=g2 y H3 hy;obtain⟨fl,M4,e4,q4⟩:=aT v;obtain⟨U,M5,Y,e6⟩:=fA e4;cases eb:cy t d S with
        |none=>rw[eb] at Y;cases Y
        | some ρ5=>
          rw[eb] at Y;cases Y;refine{B,S,_,d,U,O.ext x3,Q,r3,eb,λσ5 hE5=>{λ_ _ z=>z,B,U,_,hE5,Q,?_}};rw[e6];cases fl with
          |next W=>exact λσ6 H6 μ6 x6 hE6 hM6=>{μ6,W,M4,(R.trans x3).trans x6,hE6,hM6,q4}
          |ret d6=>exact(lW rfl m (i+1) M4 q4).ext ((x1.trans R).trans x3)
          |exc x6 W=>exact(lW rfl m (i+1) M4 q4).ext ((x1.trans R).trans x3)
end
abbrev FF:Qj->Qn->Prop:=λ_ _=>False
section
variable{prog:Q0}{w:QX}{A:Rz}{s:Qn}
def Bx
 (J:compTurn ce k it acc env=(standAt p >>= λ_=>pyNext it >>= λr=>match r with
  |none=>pure (.done .next)
  |some v=>letOwnedTupleGo target it v >>= λ_=>assign target env v >>= λ_=>body >>= λ_=>again (.compLoop ce k it acc env)))
 (hd:(model prog w).den (.compLoop ce k it acc env)=(compTurn ce k it acc env).onRaise (λx=>do noteFrame x env;theTreesLotGoes x)/\A.under (.compLoop ce k it acc env)=A) (I:Nat->Qn->Prop)
 (turn:∀n s,I n s->wpAny (model prog w) A (pyNext it) (λr j=>match r with
  |none=>R (.ok .next) j
  |some v=>wpAny (model prog w) A (letOwnedTupleGo target it v) (λ_ y=>wpAny (model prog w) A (assign target env v) (λ_ z=>wpAny (model prog w) A body (λ_ B=>∃m,m<n/\I m B) FF z) FF y) FF j) FF s)
 (n:Nat) (h:I n s):codeAny (model prog w) A (.compLoop ce k it acc env) R s:=by
 refine codeAny_loop rfl I (λn s L=>?_) n h;rw[hd.1,hd.2];refine wpAny_noted ?_;rw[J];refine wpAny_noRaise ?_;refine tqa (wpAny_standAt (tqa (aY (turn n s L) λr j u=>?_)));cases r with
 |none=>exact tqb u
 | some v=>
   refine tqa (aY u λ_ y E=>?_);exact tqa (aY E λ_ z F=>tqa (aY F λ_ B H=>tqb ⟨rfl,H⟩))
def Ce (y h j:Expr)(B:List Comprehension)(u:Scope)(pos:Pos)(z acc:Qj)(env:RE) :
 compTurn (.ListComp y [{h,j,[],0}] u pos) 0 z acc env=(standAt j.pos >>= λ_=>pyNext z >>= λr=>match r with
  |none=>pure (.done .next)
  |some v=>letOwnedTupleGo h z v >>= λ_=>assign h env v >>= λ_=>(eval y env >>= λx=>call (.builtin "list.append") [acc,x] >>= λ_=>pure ()) >>= λ_=>again (.compLoop (.ListComp y [{h,j,[],0}] u pos) 0 z acc env)):=`r
def turn_if (y h j c:Expr)(u:Scope)(pos:Pos)(z acc:Qj)(env:RE) :
 compTurn (.ListComp y [{h,j,[c],0}] u pos) 0 z acc env=(standAt j.pos >>= λ_=>pyNext z >>= λr=>match r with
  |none=>pure (.done .next)
  |some v=>letOwnedTupleGo h z v >>= λ_=>assign h env v >>= λ_=>(isTrue c env (eval c env) >>= λok=>if ok=true then(eval y env >>= λx=>call (.builtin "list.append") [acc,x] >>= λ_=>pure ()) else pure ()) >>= λ_=>again (.compLoop (.ListComp y [{h,j,[c],0}] u pos) 0 z acc env)):=by
 rw[compTurn_list];refine congrArg _ (funext λ_=>congrArg _ (funext λr=>?_));cases r with
 |none=>rfl
 | some v=>
   simp only[List.forIn_cons,List.forIn_nil,if_true,bind_assoc,pure_bind];refine congrArg _ (funext λ_=>congrArg _ (funext λ_=>congrArg _ (funext λok=>?_)));cases ok<;>simp
def Cc (z h y t2 B:Expr)(u:Scope)(pos:Pos)(E acc:Qj)(env:RE) :
 compTurn (.ListComp z [{h,y,[],0},{t2,B,[],0}] u pos) 0 E acc env=(standAt y.pos >>= λ_=>pyNext E >>= λr=>match r with
  |none=>pure (.done .next)
  |some v=>letOwnedTupleGo h E v >>= λ_=>assign h env v >>= λ_=>(eval B env >>= λx=>standAt B.pos >>= λ_=>foldedSetIterable B env x >>= λx=>holding [x] (pyIter x) >>= λj=>runOwn (.compStart (.ListComp z [{h,y,[],0},{t2,B,[],0}] u pos) 1 j acc env) env >>= λ_=>pure ()) >>= λ_=>again (.compLoop (.ListComp z [{h,y,[],0},{t2,B,[],0}] u pos) 0 E acc env)):=by
 refine bind_congr λ_=>bind_congr λr=>?_;cases r with
 |none=>rfl
 |some v=>simp
def Cd (y h u t2 B:Expr)(j:Scope)(pos:Pos)(z acc:Qj)(env:RE) :
 compTurn (.ListComp y [{h,u,[],0},{t2,B,[],0}] j pos) 1 z acc env=(standAt B.pos >>= λ_=>pyNext z >>= λr=>match r with
  |none=>pure (.done .next)
  |some v=>letOwnedTupleGo t2 z v >>= λ_=>assign t2 env v >>= λ_=>(eval y env >>= λx=>call (.builtin "list.append") [acc,x] >>= λ_=>pure ()) >>= λ_=>again (.compLoop (.ListComp y [{h,u,[],0},{t2,B,[],0}] j pos) 1 z acc env)):=by
 rfl
set_option tactic.hygienic true in
theorem l5 (env:RE):∀(ns:List (Str×NameKind)) (h:List (Str×Addr)),(∀y∈ns,y.2=.free->∃c,env.cells.lookup y.1=some c)->(∀x c,h.lookup x=some c->env.cells.lookup x=some c)->
 ∃cl,(forIn ns h λ(y:Str×NameKind) (r:List (Str×Addr))=>if (y.2==NameKind.free)=true then cellOf env y.1 >>= λa=>pure (ForInStep.yield ((y.1,a)::r)) else pure (ForInStep.yield r):Sem _)=pure cl/\
  (∀x c,cl.lookup x=some c->env.cells.lookup x=some c)/\(∀x c,h.lookup x=some c->∃E,cl.lookup x=some E)/\∀y∈ns,y.2=.free->∃c,cl.lookup y.1=some c
 |[],h,_,h2=>{h,`s,h2,λx c e=>⟨c,e⟩,λy j=>nomatch j}
 | (n,k)::ns,h,h1,h2=>by
   by_cases hk:k=.free
   ·subst hk;obtain⟨a,v⟩:=h1 (n,.free) Qv rfl;have lk:∀x c,((n,a)::h).lookup x=some c->env.cells.lookup x=some c:=λx c e=>by
     rw[QZ] at e;split at e
     ·next q=>cases e;rw[eq_of_beq q];exact v
     ·exact h2 x c e
    obtain⟨cl,e,p1,p2,u⟩:=l5 env ns ((n,a)::h) (λy j=>h1 y (Qm _ j)) lk;refine{cl,?_,p1,λx c q=>?_,λy j hf=>?_}
    ·rw[List.forIn_cons];have H:cellOf env n=pure a:=by unfold cellOf;rw[v]
     simp only[beq_self_eq_true,if_true,H];exact e
    ·by_cases B:x=n
     ·exact p2 x a (by rw[QZ,B];simp)
     ·exact p2 x c (by rw[QZ,Q8.mpr B];exact q)
    ·rcases Qu.mp j with z|z
     ·subst z;exact p2 n a (by simp[QZ])
     ·exact u y z hf
   ·obtain⟨cl,e,p1,p2,u⟩:=l5 env ns h (λy j=>h1 y (Qm _ j)) h2;refine{cl,?_,p1,p2,λy j hf=>?_}
    ·rw[List.forIn_cons];have F:(k==NameKind.free)=false:=by simpa using hk
     simp only[F,Bool.false_eq_true,if_false];exact e
    ·rcases Qu.mp j with z|z
     ·subst z;exact absurd hf hk
     ·exact u y z hf
def yU (h:∀y∈j.names,y.2=.free->∃c,env.cells.lookup y.1=some c) :
 ∃cl,closureFor j env=pure cl/\(∀x c,cl.lookup x=some c->env.cells.lookup x=some c)/\∀y∈j.names,y.2=.free->∃c,cl.lookup y.1=some c:=by
 obtain⟨cl,e,p1,_,u⟩:=l5 env j.names [] h (λx c q=>nomatch q);exact{cl,by unfold closureFor;simp only[bind_pure];exact e,p1,u}
end
noncomputable def jq (X:Cx)(own bn:List Str)(scope:Scope)(cl:List (Str×Addr))(C:Addr)(fp:List Addr)(s:Qn)(H:Hp):Cx:=
 {X with N:=own++bn,s₀:=s,H₀:=H,env:=compEnvC scope cl C X.env,outer:=X.stack,ex:=fp,fn:=λx=>scope.names.lookup x==some .cell,pn:=[],xe:=FF}
set_option tactic.hygienic true in
noncomputable def mem_of_lookup {j:Type}:∀{l:List (Str×j)}{x:Str}{k:j},l.lookup x=some k->(x,k)∈l
 |[],_,_,h=>by cases h
 | (n,b)::r,x,k,h=>by
   rw[QZ] at h;split at h
   ·next q=>cases h;rw[eq_of_beq q];exact Qv
   ·exact Qm _ (mem_of_lookup h)
set_option tactic.hygienic true in
theorem hZ {env:RE}:∀{j:List (Str×NameKind)}{x:Str}{k:NameKind},
 (j.map λ(n,k)=>if (k==NameKind.free&&env.scope.kind==.function&&env.kindOf n==some .cell) then(n,NameKind.cell) else(n,k)).lookup x=some k->
 ∃k0,(x,k0)∈j/\j.lookup x=some k0/\(k=k0\/(k0=.free/\k=.cell))
 |[],_,_,h=>by cases h
 | (n,k0)::r,x,k,h=>by
   have y:=@hZ env r x k;have h:List.lookup x ((if (k0==NameKind.free&&env.scope.kind==.function&&env.kindOf n==some .cell)=true then(n,NameKind.cell) else(n,k0))::_)=some k:=h;cases u:x==n with
   | true=>
     have e:=eq_of_beq u;subst e;refine{k0,Qv,by simp[QZ],?_}
     split at h
     ·next c=>
      simp[QZ] at h;simp at c;exact .inr ⟨c.1.1,h.symm⟩
     ·simp[QZ] at h;exact .inl h.symm
   | false=>
     have v:List.lookup x (r.map λ(n,k)=>if (k==NameKind.free&&env.scope.kind==.function&&env.kindOf n==some .cell) then(n,NameKind.cell) else(n,k))=some k:=by
      split at h<;>simpa[QZ,u] using h
     obtain⟨k1,h1,h2,h3⟩:=y v;exact{k1,Qm _ h1,by simp[QZ,u];exact h2,h3}
noncomputable def pZ {h j:Type}{R:h->j->Prop}:∀{l:List h}{r:List j}{i:Nat}{x:h},R5 R l r->l[i]?=some x->∃y,r[i]?=some y/\R x y
 |_,_,_,_,.nil,e=>by simp at e
 |_,_,0,_,.cons p _,e=>by simp at e;subst e;exact{_,rfl,p}
 | _,_,i+1,x,.cons _ t,e=>by
   obtain⟨y,h1,h2⟩:=pZ t (by simpa using e)
   exact{y,by simpa using h1,h2}
structure iI (X:Cx) (own bn:List Str) (scope:Scope):Prop where
 kind:scope.kind=.function
 cel:∀y∈scope.names,y.2=.cell->scope.names.lookup y.1=some .cell
 loc:∀y∈scope.names,y.2=.local->scope.names.lookup y.1=some .local
 free:∀y∈scope.names,y.2=.free->X.env.kindOf y.1=some .cell\/X.env.kindOf y.1=some .free
 dis:R5 (λb x=>(b=x/\scope.names.lookup x≠some .local/\scope.names.lookup x≠some .cell)\/scope.names.lookup b=none) bn X.N
noncomputable def ka:∀(h:List (Str×NameKind)) (n:Nat) (acc:List (Str×Addr)),cellsFrom n h acc=cellsFrom n h []++acc
 |[],_,_=>rfl
 | (nm,k)::r,n,acc=>by
   unfold cellsFrom;split
   ·rw[ka r (n+1) ((nm,n)::acc),ka r (n+1) [(nm,n)],List.append_assoc];rfl
   ·exact ka r n acc
set_option tactic.hygienic true in
theorem vH:∀{j:List (Str×NameKind)}{n:Nat}{x:Str}{c:Addr},(x,c)∈cellsFrom n j []->(x,NameKind.cell)∈j
 |[],_,_,_,h=>nomatch h
 | (nm,k)::r,n,x,c,h=>by
   unfold cellsFrom at h;split at h
   ·next e=>
    rw[ka] at h;rcases QM.mp h with h|h
    ·exact Qm _ (vH h)
    ·cases Qz.mp h;rw[eq_of_beq e];exact Qv
   ·exact Qm _ (vH h)
theorem qx:∀{j:List (Str×NameKind)}{n:Nat}{x:Str},(x,NameKind.cell)∈j->∃c,(x,c)∈cellsFrom n j []
 | (nm,k)::r,n,x,h=>by
   unfold cellsFrom;rcases Qu.mp h with h|h
   ·cases h;rw[if_pos (by rfl:(NameKind.cell==NameKind.cell)=true),ka]
    exact{n,Q2 _ (List.mem_singleton.mpr rfl)}
   ·split
    ·obtain⟨c,u⟩:=qx h;rw[ka];exact{c,RA _ u}
    ·exact qx h
noncomputable def mP {j:Type}:∀{l:List (Str×j)}{x:Str}{b:j},(x,b)∈l->∃c,l.lookup x=some c
 | (n,u)::r,x,b,h=>by
   rw[QZ];cases e:x==n with
   |true=>exact{_,rfl}
   | false=>
     rcases Qu.mp h with z|z
     ·cases z;rw[beq_self_eq_true] at e;cases e
     ·exact mP z
def Bl
 (h:Q (newEnv scope s.heap.objs.size globals (cellsFrom (s.heap.objs.size+1) scope.names cl) qual none .none (some env) builtinsNs) {s with heap:=pushCells (s.heap.push {cls:=.type "dict",data:=.dict #[]}) scope.names}) :
 wpAny M A (newFunctionEnv scope globals cl [] qual none .none (some env)) Q E s:=by
 simp only[newFunctionEnv,Option.isSome_some,if_true];refine tqa (wpAny_alloc ?_);refine tqa (wpAny_layCells _ (λv kind j=>by cases u:kind==NameKind.cell<;>simp[u]) _ _ _ _ ?_)
 rw[show({s with heap:=s.heap.push {cls:=.type "dict",data:=.dict #[]}}:Qn).heap.objs.size=s.heap.objs.size+1 from R0 ..]
 exact tqa (tqb (tqb h))
section
variable{X:Cx}{pins:List (Addr×Obj)}{σ:L2.St}{H:Hp}{s:Qn}{fp:List Addr}{scope:Scope}{cl:List (Str×Addr)}{own bn:List Str}
structure Cl (X:Cx) (scope:Scope) (cl:List (Str×Addr)) (n:Nat):Prop where
 sub:∀x c,cl.lookup x=some c->(scope.names.lookup x=some .cell/\n<c)\/(scope.names.lookup x≠some .cell/\X.env.cells.lookup x=some c)
 inj:∀x y c,cl.lookup x=some c->cl.lookup y=some c->scope.names.lookup x=some .cell->scope.names.lookup y=some .cell->x=y
 has:∀y∈scope.names,(y.2=.free\/y.2=.cell)->∃c,cl.lookup y.1=some c
def NM (S:iI X own bn scope)(h1:∀x c,cl.lookup x=some c->X.env.cells.lookup x=some c)(h2:∀y∈scope.names,y.2=.free->∃c,cl.lookup y.1=some c)(h:Heap)(hn:h.objs.size=n+1) :
 Cl X scope (cellsFrom (n+1) scope.names cl) n/\∀x c,(cellsFrom (n+1) scope.names cl).lookup x=some c->scope.names.lookup x=some .cell->(pushCells h scope.names).IsCell c none:=by
 have ok:=cellsFrom_ok scope.names h (n+1) [] {λ_ _ hm=>(nomatch hm),List.Pairwise.nil} (by rw[hn];exact Qo _)
 rw[hn] at ok;rw[ka];have j:∀{x c},(cellsFrom (n+1) scope.names []++cl).lookup x=some c->scope.names.lookup x=some .cell->(x,c)∈cellsFrom (n+1) scope.names []:=λ{x c} e u=>by
  obtain⟨E,I⟩:=qx (mem_of_lookup u);obtain⟨J,h2⟩:=mP I;rw[List.lookup_append,h2] at e;cases e;exact mem_of_lookup h2
 have v:∀{x c},(cellsFrom (n+1) scope.names []++cl).lookup x=some c->scope.names.lookup x≠some .cell->cl.lookup x=some c:=λ{x c} e u=>by
  rw[List.lookup_append] at e;cases z:(cellsFrom (n+1) scope.names []).lookup x with
  |none=>rw[z] at e;exact e
  |some E=>exact absurd (S.cel _ (vH (mem_of_lookup z)) rfl) u
 refine{{λx c e=>?_,λx y c e1 e2 u B=>?_,λy B hk=>?_},λx c e u=>(ok.empty x c (j e u)).1}
 ·by_cases u:scope.names.lookup x=some .cell
  ·exact .inl {u,(ok.empty x c (j e u)).2}
  ·exact .inr {u,h1 x c (v e u)}
 ·exact name_of_addr ok.apart (j e1 u) (j e2 B)
 ·rcases hk with hk|hk
  ·obtain⟨c,F⟩:=h2 y B hk;rw[List.lookup_append];cases (cellsFrom (n+1) scope.names []).lookup y.1 with
   |none=>exact⟨c,F⟩
   |some E=>exact⟨E,rfl⟩
  ·obtain⟨c,F⟩:=qx (by rw[<- hk];exact B)
   obtain⟨J,e2⟩:=mP F;rw[List.lookup_append,e2];exact⟨J,rfl⟩
def Ik (I:Inv X pins σ H s)(S:iI X own bn scope)(j:Cl X scope cl s.heap.objs.size)(v:∀b∈fp,gA X pins H b)(B:∀b∈fp,∃o,s.heap.get? b=some o) :
 (jq X own bn scope cl s.heap.objs.size fp s H).Ok where
 mod:=I.ok.mod
 kind:=S.kind
 glob:=I.ok.glob
 blt:=I.ok.blt
 above:=Qo _
 inj:=λx y c h1 h2=>by
  have lt:=λz e=>Nat.not_lt.mpr (Nat.le_of_lt (let{_,q}:=I.cell z c e;q.lt))
  rcases j.sub x c h1 with⟨a1,a2⟩|⟨a1,a2⟩<;>rcases j.sub y c h2 with⟨J,F⟩|⟨J,F⟩
  ·exact j.inj x y c h1 h2 a1 J
  ·exact absurd a2 (lt y F)
  ·exact absurd F (lt x a2)
  ·exact I.ok.inj x y c a2 F
 has:=λx h=>by
  have E:∀k,(relabel scope X.env).names.lookup x=some k->(k=.cell\/k=.free)->∃c,cl.lookup x=some c:=λk hk L=>by
   obtain⟨O,h1,h2,h3⟩:=hZ hk;refine j.has _ h1 ?_;rcases h3 with e|⟨e,_⟩
   ·rcases L with z|z
    ·exact .inr (e.symm.trans z)
    ·exact .inl (e.symm.trans z)
   ·exact .inl e
  rcases h with h|h
  ·exact E _ h (.inl rfl)
  ·exact E _ h (.inr rfl)
 cab:=λx c h e=>by
  rcases j.sub x c e with⟨_,a2⟩|⟨a1,_⟩
  ·exact Nat.le_of_lt a2
  ·exact absurd (eq_of_beq h) a1
 hd:=I.ok.hd
 frames:=I.ok.frames
 stk:=.inl rfl
 exf:=λb u=>{λe=>by
  obtain⟨o,ho⟩:=B b u;exact absurd (Qy ho) (by rw[e];exact Rt _),λx c e=>by
  rcases j.sub x c e with⟨_,a2⟩|⟨_,a2⟩
  ·obtain⟨o,ho⟩:=B b u;exact λz=>absurd (Qy ho) (by rw[<- z];exact Nat.lt_asymm a2)
  ·exact(v b u).2.2.2.2.1 x c a2}
 bs:=λb o e=>I.bs b o e
 bsz:=Qs I.ok.bsz I.sz
 noex:=λb o e u=>by
  rcases(v b u).2.2.2.1 with z|z
  ·exact I.ok.noex b o e z
  ·exact absurd (QI (Qy e) (Qs I.ok.bsz z)) (Rt _)
 exfs:=λb u M=>by
  rcases Qu.mp (I.stkSub b M) with e|e
  ·exact(v b u).2.1 e
  ·exact(v b u).2.2.1 e
 funs:=I.stack
 frf:=λb u=>I.stkFree b u
def DZ (I:Inv X pins σ H s)(S:iI X own bn scope)(h:Cl X scope cl s.heap.objs.size)(P:∀b∈fp,gA X pins H b)(O:∀b∈fp,∃o,s.heap.get? b=some o)
 (hn:h'.Ns s.heap.objs.size m) (hk:∀b o,s.heap.get? b=some o->h'.get? b=some o) (M:∀x c,cl.lookup x=some c->scope.names.lookup x=some .cell->h'.IsCell c none) :
 Inv (jq X own bn scope cl s.heap.objs.size fp s H) [] (List.replicate own.length none++σ) H {s with heap:=h',toks:=t'} where
 ok:=Ik I S h P O
 os:=rfl
 bare:=I.bare
 base:=Un.kept hk
 loc:=by
  refine{m,hn,λi x v e1 e2 W=>?_};have e1:(own++bn)[i]?=some x:=e1;have U:own.length<=i:=by
   by_cases q:i<own.length
   ·rw[QR (by simpa using q),RZ] at e2
    simp[q] at e2
   ·omega
  rw[Rq U] at e1;rw[Rq (by simpa using U)] at e2
  simp only[List.length_replicate] at e2;have L:X.N[i-own.length]?=some x/\scope.names.lookup x≠some .local/\scope.names.lookup x≠some .cell:=by
   rcases pZ S.dis e1 with⟨y,h1,⟨h2,h3⟩|h2⟩
   ·subst h2;exact⟨h1,h3⟩
   ·exfalso;have no:∀k,(relabel scope X.env).names.lookup x≠some k:=λk hk=>by
     obtain⟨Q,_,h3,_⟩:=hZ hk;rw[h2] at h3;cases h3
    rcases W with z|z|z
    ·exact no _ z
    ·exact no _ z
    ·exact no _ z
  have R:∀k,(relabel scope X.env).names.lookup x=some k->(k=.local\/k=.cell\/k=.free)->∃c,(k=.cell\/k=.free)/\cl.lookup x=some c/\(X.env.kindOf x=some .cell\/X.env.kindOf x=some .free):=λk j J=>by
   obtain⟨Q,h1,h2,h3⟩:=hZ j;have nl:Q≠.local:=λe=>L.2.1 (by rw[h2,e])
   have hf:Q=.free:=by
    rcases h3 with e|⟨e,_⟩
    ·rcases J with z|z|z
     ·exact absurd (e.symm.trans z) nl
     ·exact absurd (by rw[h2,e.symm.trans z]) L.2.2
     ·exact e.symm.trans z
    ·exact e
   obtain⟨c,Y⟩:=h.has _ h1 (.inl hf);refine{c,?_,Y,S.free _ h1 hf};rcases J with z|z|z
   ·rcases h3 with e|⟨_,e⟩
    ·rw[hf] at e;rw[e] at z;cases z
    ·rw[e] at z;cases z
   ·exact .inl z
   ·exact .inr z
  have B:∀k,(relabel scope X.env).names.lookup x=some k->(k=.local\/k=.cell\/k=.free)->∃u,RelV v u/\Look (compEnvC scope cl s.heap.objs.size X.env) h' m x u:=λk j J=>by
   obtain⟨c,h1,h2,h3⟩:=R k j J;obtain⟨m0,_,hl⟩:=I.loc;obtain⟨u,r,l⟩:=hl _ x v L.1 e2 (.inr h3);refine{u,r,.inr {?_,c,h2,?_}}
   ·rcases h1 with z|z
    ·subst z;exact .inl j
    ·subst z;exact .inr j
   ·rcases l with⟨z,_⟩|⟨_,c',F,E⟩
    ·rcases h3 with q|q
     ·rw[z] at q;cases q
     ·rw[z] at q;cases q
    ·rcases h.sub x c h2 with⟨a1,_⟩|⟨_,a2⟩
     ·exact absurd a1 L.2.2
     rw[a2] at F;cases F;obtain⟨o,ho,hd⟩:=E;exact{o,hk _ _ ho,hd}
  rcases W with z|z|z
  ·exact B _ z (.inl rfl)
  ·exact B _ z (.inr (.inl rfl))
  ·exact B _ z (.inr (.inr rfl))
 cell:=λx c e=>by
  rcases h.sub x c e with⟨a1,_⟩|⟨_,a2⟩
  ·exact{none,M x c e a1}
  obtain⟨v,o,ho,hd⟩:=I.cell x c a2;exact{v,o,hk _ _ ho,hd}
 free:=I.hok.fresh (Qo _)
 freeC:=λx c e=>(h.sub x c e).elim (λz=>I.hok.fresh (Nat.le_of_lt z.2)) λz=>I.freeC x c z.2
 pin:=λp hp=>nomatch hp
 hok:=I.hok.kept hk
 len:=by
  show(List.replicate own.length none++σ).length=(own++bn).length;have:=Paired.length S.dis;simp[I.len,this]
def comp_back (I:Inv X pins σ H s)(h:∀b∈fp,gA X pins H b)(j:Inv (jq X own bn scope cl C fp s H) pins' σ' H' s'):Inv X pins σ H' s':=
 I.call' j.os j.base j.hok j.bare λb u=>{(h b u).2.2.2.1,(h b u).2.1,(h b u).2.2.2.2.1,(h b u).2.2.2.2.2}
def By (I:Inv X pins σ H s)(hf:H' s.heap.objs.size=none)(h:Inv X pins σ' H' s')(hs:Heap.SameBut s.heap.objs.size s'.heap h''):Inv X pins σ' H' {s' with heap:=h''}:=
 h.turned (λb o j e=>(hs.2 b j).trans e) hf (Rv I.lt) (.inr I.sz) (λx c e z=>by
  obtain⟨v,q⟩:=I.cell x c e;exact absurd q.lt (by rw[z];exact Rt _)) λp u z=>absurd (Qy (I.pin p u).1) (by rw[z];exact Rt _)
end
structure f7 (a:Addr) (μ:Mu) (H:Hp) (μ':Mu) (H':Hp):Prop extends ExtW μ H μ' H' where
 pr:μ'.priv=μ.priv
 pk:∀b∈μ.priv,b≠a->H' b=H b
def f7.refl:f7 a μ H μ H:={.refl,rfl,λ_ _ _=>rfl}
def f7.trans (x:f7 a μ H μ1 H1)(y:f7 a μ1 H1 μ2 H2):f7 a μ H μ2 H2:=
 {x.toExtW.trans y.toExtW,y.pr.trans x.pr,λb h n=>(y.pk b (by rw[x.pr];exact h) n).trans (x.pk b h n)}
def Ext.toD (x:Ext μ H μ' H'):f7 a μ H μ' H':={x.toExtW,x.pr,λb h _=>x.pk b h}
noncomputable def slots:gG->List Nat
 |.one i=>[i]
 |.tup l=>l
 |.two i l=>i::l
def Clear (W:List Nat)(Z:Env):Prop:=∀i∈W,∀d,Z[i]?≠some (some d)
section
variable{fa:Fa}{K:Qf}{μ μ':Mu}{H H':Hp}{σ:L2.St}{Z ρ1:Env}{M:Mem}{a:Addr}
def bx.weak (h:bx fa K μ H σ ρ1)(hl:ρ1.length=Z.length)(w:∀(i:Nat) d,Z[i]?=some (some d)->ρ1[i]?=some (some d)):bx fa K μ H σ Z:=
 {h.len.trans hl,λi d e=>h.at' i d (w i d e)}
theorem lM:∀{l:List Nat}{ds:List D}{Z ρ1:Env},dA l ds Z=some ρ1->ρ1.length=Z.length/\∀i,i∉l->ρ1[i]?=Z[i]?
 |[],[],Z,ρ1,h=>by cases h;exact{rfl,λ_ _=>rfl}
 |_::_,[],_,_,h=>by cases h
 |[],_::_,_,_,h=>by cases h
 | j::l,d::ds,Z,ρ1,h=>by
   obtain⟨h1,h2⟩:=lM (ds:=ds) h;refine{by simpa using h1,λi u=>?_}
   rw[h2 i (λz=>u (Qm _ z)),QH (λz=>u (by rw[z];exact Qv))]
def sP (h:cy t d Z=some ρ1):ρ1.length=Z.length/\∀i,i∉slots t->ρ1[i]?=Z[i]?:=by
 cases t with
 | one j=>
   cases h;exact{`s,λi u=>QH (λz=>u (by rw[z];exact Qv))}
 | tup l=>
   cases d with
   |tup v=>exact lM h
   |_=>cases h
 | two j l=>
   obtain⟨e,v,rfl,h⟩:=vO h;obtain⟨h1,h2⟩:=lM h;refine{by simpa using h1,λi u=>?_}
   rw[h2 i (λz=>u (Qm _ z)),QH (λz=>u (by rw[z];exact Qv))]
def bx.unbind (h:cy t d Z=some ρ1)(c:Clear (slots t) Z)(r:bx fa K μ H σ ρ1):bx fa K μ H σ Z:=by
 obtain⟨h1,h2⟩:=sP h;refine r.weak h1 λi d e=>?_;by_cases j:i∈slots t
 ·exact absurd e (c i j d)
 ·rw[h2 i j];exact e
def RelM.writeP (h:RelM fa K μ H M)(e:a∈μ.priv)(v:H a=some (.lst vs)):RelM fa K μ (upd H a (.lst ws)) M:=by
 have x:ExtW μ H μ (upd H a (.lst ws)):=ExtW.write v (.inr e);refine{λk B q=>?_,h.out,h.oout,h.inj,h.oinj,h.sep,λb y=>{?_,(h.pv b y).2}}
 ·rcases h.at' k B q with⟨b,u,h1,h2,h3⟩|⟨b,h1,h2,h3⟩
  ·have E:b≠a:=λz=>(h.pv a e).2 k (by rw[h1,z])
   exact .inl {b,u,h1,by rw[aI E];exact h2,h3.extW x}
  ·exact .inr {b,h1,h2,h3.extW x (aI (h3.nl v))}
 ·by_cases j:b=a
  ·subst j;exact⟨ws,bR⟩
  ·obtain⟨u,q⟩:=(h.pv b y).1;exact{u,by rw[aI j];exact q}
def f7.writeP (e:a∈μ.priv)(h:H a=some (.lst vs)):f7 a μ H μ (upd H a (.lst ws)):=
 {ExtW.write h (.inr e),rfl,λb _ n=>by rw[aI n]}
end
abbrev PA:=Mu->Hp->List D->Prop
def Ec (A:PA):Prop:=∀μ H μ' H' h,Ext μ H μ' H'->A μ H h->A μ' H' h
def LA (fa:Fa)(K:Qf)(a:Addr):PA:=λμ H h=>a∈μ.priv/\∃j,H a=some (.lst j)/\aO fa K μ H h j
def LA.stab {K:Qf}:Ec (LA fa K a):=(by rintro _ _ _ _ _ x ⟨h1,h,h2,h3⟩;exact{by rw[x.pr];exact h1,h,by rw[x.pk _ h1];exact h2,h3.ext x})
def WB (fa:Fa)(K:Qf)(A:PA)(a:Addr)(μ:Mu)(H:Hp)(Z:Env)(Q:L2.St->Hp->Prop)(acc:List D)(M':Mem):Prop:=
 ∀h H' μ',f7 a μ H μ' H'->bx fa K μ' H' h Z->RelM fa K μ' H' M'->A μ' H' acc->Q h H'
def WB.ext {K:Qf}(h:WB fa K A a μ H Z Q acc M')(x:f7 a μ H μ1 H1):WB fa K A a μ1 H1 Z Q acc M':=
 λj H' μ' y e m h1=>h j H' μ' (x.trans y) e m h1
def DB (fa:Fa)(X:Cx)(A:PA)(a:Addr)(W:List Nat)(body:Sem Unit)(g:Env->List D->Mem->Res (List D)):Prop:=
 ∀(h:List (Addr×Obj)) (s:Qn) (σ:L2.St) (H:Hp) (Q:L2.St->Hp->Prop) (μ:Mu) (Z:Env) (M:Mem) (j:List D),Inv X h σ H s->bx fa X.K μ H σ Z->RelM fa X.K μ H M->Clear W Z->A μ H j->
  ae (g Z j M) (WB fa X.K A a μ H Z Q)->wpAny (model X.prog X.w) X.A body (λ_ v=>∃u H',Inv X h u H' v/\Q u H') X.xe s
def bN (ge:Env->Mem->Res D):Env->List D->Mem->Res (List D):=λZ h M=>(ge Z M).bind λx M=>if h.length<sz then .ok (h++[x]) M else .bad
def ll (j:Env->Mem->Res Bool)(g:Env->List D->Mem->Res (List D)):Env->List D->Mem->Res (List D):=λZ h M=>(j Z M).bind λk M=>if k then g Z h M else .ok h M
def dW (t:gG)(g:Env->List D->Mem->Res (List D))(Z:Env):List D->D->Mem->Res (List D):=λh d M=>(b8 M (cy t d Z)).bind λρ1 M=>g ρ1 h M
def vo (t:gG)(j:Env->Mem->Res Walk)(g:Env->List D->Mem->Res (List D)):Env->List D->Mem->Res (List D):=λZ h M=>(j Z M).bind λw M=>dU (dW t g Z) w h M
section
variable{fa:Fa}{X:Cx}{a:Addr}
set_option tactic.hygienic true in
def vD (he:DE fa X elt ge):DB fa X (LA fa X.K a) a [] (eval elt X.env >>= λx=>call (.builtin "list.append") [.ref a,x] >>= λ_=>pure ()) (bN ge):=by
 rintro z s σ H Q μ Z M Y I P hM hc ⟨R,J,hH,hr⟩ h;obtain⟨x,W,e,q⟩:=aT h;split at q
 ·next hz=>
  refine tqa (aY (he z s σ H (λv y=>∃j,Ext μ H j y/\RelM fa X.K j y W/\Rep fa X.K j y x v) I {μ,Z,M,P,hM,?_}) λu s1 ⟨v,y,S,rv,j,F,O,r1⟩=>?_)
  ·rw[e];exact λv y j F O r1=>⟨j,F,O,r1⟩
  have B:y a=some (.lst J):=by rw[F.pk a R];exact hH
  have E:a∈j.priv:=by rw[F.pr];exact R
  have hl:J.length<sizeLine:=by rw[hr.length,<- dM];exact hz
  refine tqa (aY (sk z s1 σ y (.ref a) [v] (.ref a) [u] (λ_ L=>L=upd y a (.lst (J++[v]))) S rfl (.cons rv .nil) ⟨a,J,v,rfl,rfl,B,hl,rfl⟩) λ_ s2 ⟨_,L,U,_,e2⟩=>tqb {σ,L,U,?_});subst e2;have xd:f7 a j y j (upd y a (.lst (J++[v]))):=f7.writeP E B;exact q σ _ j (F.toD.trans xd) ((P.ext F).extW xd.toExtW) (O.writeP E B) {E,_,bR,((hr.ext F).append (.one r1)).extW xd.toExtW}
 ·exact q.elim
def Nv (O:Ec A)(U:DT fa X c gc)(S:DB fa X A a W body g) :
 DB fa X A a W (isTrue c X.env (eval c X.env) >>= λok=>if ok=true then body else pure ()) (ll gc g):=by
 intro u s σ H Q μ Z M B I E R Y L h;obtain⟨k,J,e,q⟩:=aT h;refine tqa (aY (U u s σ H (λb y=>b=k/\∃j,Ext μ H j y/\RelM fa X.K j y J) I {μ,Z,M,E,R,?_}) λb s1 ⟨y,F,P,j,v,z⟩=>?_)
 ·rw[e];exact λy j v z=>⟨rfl,j,v,z⟩
 subst P;cases b with
 | true=>
   rw[if_pos rfl];exact S u s1 σ y Q j Z J B F (E.ext v) z Y (O _ _ _ _ _ v L) (aA q λ_ _ w=>w.ext v.toD)
 | false=>
   rw[if_neg QF];exact tqb {σ,y,F,q σ y j v.toD (E.ext v) z (O _ _ _ _ _ v L)}
def xx (sA:Ec A)
 (heq:compTurn ce k (.ref it) (.ref a) X.env=(standAt p >>= λ_=>pyNext (.ref it) >>= λr=>match r with
  |none=>pure (.done .next)
  |some v=>letOwnedTupleGo tg (.ref it) v >>= λ_=>assign tg X.env v >>= λ_=>body >>= λ_=>again (.compLoop ce k (.ref it) (.ref a) X.env)))
 (hd:(model X.prog X.w).den (.compLoop ce k (.ref it) (.ref a) X.env)=(compTurn ce k (.ref it) (.ref a) X.env).onRaise (λx=>do noteFrame x X.env;theTreesLotGoes x)/\X.A.under (.compLoop ce k (.ref it) (.ref a) X.env)=X.A) (hx:X.xe=FF) (U:X.calm=true) (T:Turn X.prog X.w X.K tg J fp it tn) (hg:PG X tg (gT fa X.K t)) (S:DB fa X A a W body g) (hW:∀i∈W,i∉slots t)
 (I:Inv X pins σ H s) (st:tn 0 s.heap) (hf:∀b∈fp,gA X pins H b) (hE:bx fa X.K μ H σ Z) (hM:RelM fa X.K μ H M)
 (hcl:Clear (slots t++W) Z) (hA:A μ H acc) (wk:eD fa X.K μ H w J) (q:ae (dU (dW t g Z) w acc M) (WB fa X.K A a μ H Z Q)) :
 codeAny (model X.prog X.w) X.A (.compLoop ce k (.ref it) (.ref a) X.env) (λr Y=>r=.ok .next/\∃j H',Inv X pins j H' Y/\Q j H') s:=by
 have stat:∀{H':Hp},(∀b∈fp,H' b=none)->∀b∈fp,gA X pins H' b:=λhn b S=>{hn b S,(hf b S).2};have clt:=λi hi=>hcl i (RA _ hi);have clW:∀d ρ1,cy t d Z=some ρ1->Clear W ρ1:=λd ρ1 e i hi d' z=>by
  rw[(sP e).2 i (hW i hi)] at z;exact hcl i (Q2 _ hi) d' z
 let P:Nat->Nat->Qn->Prop:=λm i Y=>∃j H' μ' M' B,Inv X pins j H' Y/\tn i Y.heap/\(∀b∈fp,H' b=none)/\f7 a μ H μ' H'/\bx fa X.K μ' H' j Z/\RelM fa X.K μ' H' M'/\A μ' H' B/\
  ae (gL (dW t g Z) w m i B M') (WB fa X.K A a μ H Z Q)
 have P0:∃m,P m 0 s:={_,σ,H,μ,M,acc,I,st,λb S=>(hf b S).1,.refl,hE,hM,hA,q};obtain⟨m0,P0⟩:=P0;have hturn:∀(n:Nat) (i:Nat) (s3:Qn),P n i s3->wpAny (model X.prog X.w) X.A (pyNext (.ref it)) (λr y=>match r with
  |none=>(∃j H',Inv X pins j H' y/\Q j H')
  |some v=>wpAny (model X.prog X.w) X.A (letOwnedTupleGo tg (.ref it) v) (λ_ F=>wpAny (model X.prog X.w) X.A (assign tg X.env v) (λ_ L=>wpAny (model X.prog X.w) X.A body (λ_ O=>∃m,m<n/\P m (i+1) O) FF L) FF F) FF y) FF s3:=by
  rintro n i s3 ⟨σ3,H3,E,M3,R,I3,st3,fr3,x3,hE3,hM3,hA3,q3⟩;have one:∀(d:D) (rest:List D->Mem->Res (List D)) (next:List D->Mem->Prop),J.go i H3->(∀x H',J.yld i H3 x H'->Ext E H3 E H'/\RelM fa X.K E H' M3/\Rep fa X.K E H' d x)->ae ((dW t g Z R d M3).bind rest) (WB fa X.K A a μ H Z Q)->
   (∀j H' μ' M' B Y,Inv X pins j H' Y->tn (i+1) Y.heap->(∀b∈fp,H' b=none)->f7 a μ H μ' H'->bx fa X.K μ' H' j Z->RelM fa X.K μ' H' M'->A μ' H' B->ae (rest B M') (WB fa X.K A a μ H Z Q)->∃m,m<n/\P m (i+1) Y)->
   wpAny (model X.prog X.w) X.A (pyNext (.ref it)) (λr y=>match r with
    |none=>(∃j H',Inv X pins j H' y/\Q j H')
    |some v=>wpAny (model X.prog X.w) X.A (letOwnedTupleGo tg (.ref it) v) (λ_ F=>wpAny (model X.prog X.w) X.A (assign tg X.env v) (λ_ L=>wpAny (model X.prog X.w) X.A body (λ_ O=>∃m,m<n/\P m (i+1) O) FF L) FF F) FF y) FF s3:=by
   intro d rest next go yl qd fin
   refine aY (T.item X rfl rfl rfl U i pins s3 σ3 H3 FF I3 (stat fr3) st3 go) ?_;rintro r s4 ⟨u,hr4,h4⟩;subst hr4;refine aY h4 ?_;rintro _ s5 ⟨x,H5,I5,r5,y5,st5,fr5⟩;obtain⟨x5,hM5,rd⟩:=yl x H5 y5;have I5':=I5.pinned (stat fr5) (T.obj _ _ st5);obtain⟨acc6,M6,e6,q6⟩:=aT qd;obtain⟨ρ1,M7,e7,e8⟩:=fA e6;cases eb:cy t d Z with
   |none=>rw[eb] at e7;cases e7
   | some ρ2=>
     rw[eb] at e7;cases e7;have hg':=hg _ s5 σ3 H5 x u (λj H'=>H'=H5/\bx fa X.K E H5 j ρ1) I5' r5 {E,Z,_,d,ρ1,hE3.ext x5,hM5,rd,eb,λσ1 h1=>⟨rfl,h1⟩};rw[hx] at hg';refine aY hg' ?_;rintro _ s6 ⟨σ6,H6,I6,eH,hE6⟩;subst eH;have hb':=S _ s6 σ6 H6 (λj H'=>∃μ',f7 a E H6 μ' H'/\bx fa X.K μ' H' j ρ1/\RelM fa X.K μ' H' M6/\A μ' H' acc6) E ρ1 _ R I6 hE6 hM5 (clW d ρ1 eb) (sA _ _ _ _ _ x5 hA3) (by
      rw[e8];exact λj H' μ' z1 z2 z3 z4=>⟨μ',z1,z2,z3,z4⟩)
     rw[hx] at hb';refine aY hb' ?_;rintro _ s7 ⟨σ7,H7,I7,μ7,x7,hE7,hM7,hA7⟩;refine fin σ7 H7 μ7 M6 acc6 s7 I7.unpinned (T.keep _ _ _ st5 λb S o e=>(I7.pin (b,o) (Q2 _ (Q2 _ (jF S e)))).1) (λb S=>?_) ((x3.trans x5.toD).trans x7) (hE7.unbind eb clt) hM7 hA7 q6;obtain⟨o,e,dd⟩:=T.obj _ _ st5 b S;exact(I7.pin (b,o) (Q2 _ (Q2 _ (jF S e)))).2.1
  have stop:J.stop i H3->ae (.ok R M3) (WB fa X.K A a μ H Z Q)->wpAny (model X.prog X.w) X.A (pyNext (.ref it)) (λr y=>match r with
   |none=>(∃j H',Inv X pins j H' y/\Q j H')
   |some v=>wpAny (model X.prog X.w) X.A (letOwnedTupleGo tg (.ref it) v) (λ_ F=>wpAny (model X.prog X.w) X.A (assign tg X.env v) (λ_ L=>wpAny (model X.prog X.w) X.A body (λ_ O=>∃m,m<n/\P m (i+1) O) FF L) FF F) FF y) FF s3:=λhs q=>by
   refine aY (T.done X rfl rfl rfl U i pins s3 σ3 H3 FF I3 (stat fr3) st3 hs) ?_;rintro r s4 ⟨hr4,I4⟩;subst hr4;exact{σ3,H3,I4,q σ3 H3 E x3 hE3 hM3 hA3}
  cases n with
  |zero=>exact q3.elim
  | succ n=>
    unfold gL at q3;cases e2:w M3 with
    |none=>rw[e2] at q3;exact q3.elim
    | some ds=>
      rw[e2] at q3;dsimp only at q3;obtain⟨go,stp⟩:=wk E H3 M3 ds x3.toExtW hM3 e2;cases ed:ds[i]? with
      | none=>
        rw[ed] at q3;exact stop (stp i (List.getElem?_eq_none_iff.mp ed)) q3
      | some d=>
        rw[ed] at q3;obtain⟨g1,g2⟩:=go i d ed;refine one d (gL (dW t g Z) w n (i+1)) (λ_ _=>True) g1 g2 q3 ?_;intro j H' μ' M' B Y z1 z2 z3 z4 z5 z6 z7 z8;exact{n,`a,j,H',μ',M',B,z1,z2,z3,z4,z5,z6,z7,z8}
 refine Bx heq hd (λn Y=>∃i,P n i Y) (λn s3 ⟨i,h3⟩=>?_) m0 {0,P0};refine aY (hturn n i s3 h3) λr s1 h=>?_;cases r with
 |none=>exact⟨rfl,h⟩
 |some v=>exact aY h λ_ s2 h=>aY h λ_ s3 h=>aY h (by rintro _ s4 ⟨m,hm,h⟩;exact{m,hm,i+1,h})
end
section
variable{prog:Q0}{w:QX}{A:Rz}{s:Qn}{R:Result->Qn->Prop}
def tj {j t1 B t2 y:Expr}
 (E:codeAny (model prog w) A (.compLoop (.ListComp j [{t1,B,f1,0},{t2,y,f2,0}] scope pos) 1 it acc env) R s)
 (h:wpAny (model prog w) A (pyIter it) (λu v=>codeAny (model prog w) A (.compLoop (.ListComp j [{t1,B,f1,0},{t2,y,f2,0}] scope pos) 1 u acc env) R v)
  (notedBy (model prog w) A env λx v=>R (.error x) v) s) :
 codeAny (model prog w) A (.compStart (.ListComp j [{t1,B,f1,0},{t2,y,f2,0}] scope pos) 1 it acc env) R s:=by
 refine codeAny_of_tree ?_;refine wpAny_notedAt ?_;refine tqa (wpAny_askSetting (wpAny_ite ?_));split
 ·first
   |exact tqa (tqb (tqb (And.intro rfl E)))
   |exact tqb (And.intro rfl E)
 ·first
   |exact tqa (wpAny_rule (tqa (wpAny_standAt (tqa (wpAny_mono h (λu v z=>tqb (And.intro rfl z)) λ_ _ x=>x)))))
   |(refine tqa (wpAny_rule ?_);show wpAny _ _ (standAt y.pos >>= _) _ _ s;exact tqa (wpAny_standAt (tqa (wpAny_mono h (λu v z=>tqb (And.intro rfl z)) λ_ _ x=>x))))
end
section
variable{fa:Fa}{X:Cx}{a:Addr}
def LN {y t1 W t2 B:Expr}(hx:X.xe=FF)(F:X.calm=true)(hi:DI fa X t2 B gw)(hg:PG X t2 (gT fa X.K t))(he:DE fa X y ge)
 (hs:∀x,foldedSetIterable B X.env x=pure x) :
 DB fa X (LA fa X.K a) a (slots t) (eval B X.env >>= λx=>standAt B.pos >>= λ_=>foldedSetIterable B X.env x >>= λx=>holding [x] (pyIter x) >>= λj=>runOwn (.compStart (.ListComp y [{t1,W,[],0},{t2,B,[],0}] scope pos) 1 j (.ref a) X.env) X.env >>= λ_=>pure ()) (vo t gw (bN ge)):=by
 intro E s σ H Q μ Z M acc I hE hM hc hA h;obtain⟨w,M1,e,q⟩:=aT h;refine tqa (aY (hi E s σ H (λJ U=>∃u,Ext μ H u U/\RelM fa X.K u U M1/\eD fa X.K u U w J) I {μ,Z,M,hE,hM,?_}) λv s1 h1=>?_)
 ·rw[e];exact λJ U u x1 m1 Y=>⟨u,x1,m1,Y⟩
 refine tqa (wpAny_standAt (tqa (wpAny_of_eq (hs v) (tqa (tqo (aY h1 λitv s2 h2=>?_))))));obtain⟨it,fp,tn,J,H2,ei,I2,T,P,f2,μ2,x2,m2,Y⟩:=h2;subst ei;have go:=xx LA.stab (Cd y t1 W t2 B scope pos (.ref it) (.ref a) X.env) ⟨rfl,rfl⟩ hx F T hg (vD he) (λi hi=>nomatch hi) I2 P f2 (hE.ext x2) m2 (by simpa using hc) (LA.stab _ _ _ _ _ x2 hA) Y (aA q λ_ _ z=>z.ext x2.toD)
 refine tqa (wpAny_runOwn ?_);have L:codeAny (model X.prog X.w) (X.A.mark none) (.compLoop (.ListComp y [{t1,W,[],0},{t2,B,[],0}] scope pos) 1 (.ref it) (.ref a) X.env) (λr O=>match r with|.ok f=>wpAny (model X.prog X.w) X.A (pure ():Sem Unit) (λ_ O=>∃S H',Inv X E S H' O/\Q S H') X.xe O|.error e=>cameBackBy (model X.prog X.w) X.A X.env X.xe e O) s2:=
  codeAny_mono go λr O ⟨er,z⟩=>by subst er;exact tqb z
 exact tj L (T.self _ 0 _ _ _ P L)
end
section
variable{fa:Fa}{K:Qf}{μ1 μ':Mu}{H1 H':Hp}{M1 M':Mem}{a:Addr}
noncomputable def KC (μ:Mu)(a:Addr):Mu:={μ.pub,a::μ.priv,μ.ob}
def mU (h:RelM fa K μ1 H1 M1)(j:H1 a=none)(o:HO):ExtW μ1 H1 (KC μ1 a) (upd H1 a o):=by
 have x:ExtW μ1 H1 μ1 (upd H1 a o):=(Ext.alloc h j).toExtW;refine{x.mu,x.tups,λb u e n=>{(x.lsts b u e n).1,λz=>?_},x.frzs,x.exts,x.obs};rcases z with z|z
 ·exact n (.inl z)
 ·rcases Qu.mp z with z|z
  ·subst z;rw[j] at e;cases e
  ·exact n (.inr z)
def Aq (h:RelM fa K μ1 H1 M1)(j:H1 a=none)(vs:List V):RelM fa K (KC μ1 a) (upd H1 a (.lst vs)) M1:=by
 have x:=mU h j (.lst vs);refine{λk v e=>(h.at' k v e).imp ((by rintro⟨b,u,h1,h2,h3⟩;exact{b,u,h1,by rw[aI (aX h2 j)];exact h2,h3.extW x})) (by rintro⟨b,h1,h2,h3⟩;exact{b,h1,h2,h3.extW x (aI (h3.new j))}),h.out,h.oout,h.inj,h.oinj,h.sep,λb y=>?_}
 ·rcases Qu.mp y with z|z
  ·subst z;exact{⟨vs,bR⟩,λk e=>by
    obtain⟨_,_,_,q,_⟩:=h.mu_lt e;rw[j] at q;cases q}
  ·obtain⟨⟨u,q⟩,n⟩:=h.pv b z;exact{{u,by rw[aI (aX q j)];exact q},n}
set_option tactic.hygienic true in
def G6 (h:RelM fa K μ1 H1 M1)(ha:H1 a=none)(x:f7 a (KC μ1 a) (upd H1 a (.lst [])) μ' H')(v:RelM fa K μ' H' M')(hH:H' a=some (.lst vs))(hr:aO fa K μ' H' acc vs)
 (q:ae (bu m acc M') (bw fa K μ1 H1 Q)):Q (.ref a) H':=by
 have S:=λz=>h.pne ha z rfl;have E:=x.pr;have U:∀k,μ'.pub k≠some a:=(v.pv a (by rw[E];exact Qv)).2
 have F:=mU h ha (.lst []);have xe:Ext μ1 H1 ⟨μ'.pub,μ1.priv,μ'.ob⟩ H':=by
  refine{{λk b e=>x.mu k b e,λb y e=>x.tups b y (F.tups b y e),λb y e n=>?_,λb ob u e=>x.frzs b ob u (F.frzs b ob u e),λb o i e=>x.exts b o i (F.exts b o i e),λk b e=>x.obs k b (F.obs k b e)},rfl,λb B=>?_}
  ·obtain⟨H,I⟩:=F.lsts b y e n;obtain⟨z3,z4⟩:=x.lsts b y H I;refine{z3,λz=>z4 ?_};rcases z with z|z
   ·exact .inl z
   ·exact .inr (by rw[E];exact Qm _ z)
  ·have nb:b≠a:=λe=>S (by rw[<- e];exact B)
   rw[x.pk b (Qm _ B) nb,aI nb]
 have Y:ExtW μ' H' ⟨μ'.pub,μ1.priv,μ'.ob⟩ H':={λ_ _ e=>e,λ_ _ e=>e,λb y e n=>{e,λz=>n (z.elim .inl λz=>.inr (by rw[E];exact Qm _ z))},λ_ _ _ e=>e,λ_ _ _ e=>e,λ_ _ e=>e}
 have me:RelM fa K ⟨μ'.pub,μ1.priv,μ'.ob⟩ H' M':={λk L e=>(v.at' k L e).imp ((by rintro⟨b,y,h1,h2,h3⟩;exact{b,y,h1,h2,h3.extW Y})) (by rintro⟨b,h1,h2,h3⟩;exact{b,h1,h2,h3.extW Y rfl}),v.out,v.oout,v.inj,v.oinj,v.sep,λb B=>v.pv b (by rw[E];exact Qm _ B)}
 have re:=hr.extW Y;have R:¬ (⟨μ'.pub,μ1.priv,μ'.ob⟩:Mu).Mt a:=λz=>z.elim ((by rintro⟨k,e⟩;exact U k e)) S
 unfold bu at q;split at q
 ·cases m with
  | false=>
    exact q (.ref a) H' _ xe me {a,vs,rfl,⟨hH,R⟩,re}
  | true=>
    have pc:∀k b,(gn ⟨μ'.pub,μ1.priv,μ'.ob⟩ M'.length a).pub k=some b->(k=M'.length/\b=a)\/(k≠M'.length/\μ'.pub k=some b):=λk b e=>by
     have e:(if k=M'.length then some a else μ'.pub k)=some b:=e;split at e
     ·next z=>cases e;exact .inl ⟨z,rfl⟩
     ·next z=>exact .inr ⟨z,e⟩
    have O:∀k b,μ'.pub k=some b->(gn ⟨μ'.pub,μ1.priv,μ'.ob⟩ M'.length a).pub k=some b:=λk b e=>by
     show(if k=M'.length then some a else μ'.pub k)=some b;split
     ·next z=>rw[z,v.out _ (Qo _)] at e;cases e
     ·exact e
    have ac:(gn ⟨μ'.pub,μ1.priv,μ'.ob⟩ M'.length a).pub M'.length=some a:=by
     show(if M'.length=M'.length then some a else _)=some a;rw[if_pos rfl]
    have nc:∀b,¬ μ'.Mt b->¬ (gn ⟨μ'.pub,μ1.priv,μ'.ob⟩ M'.length a).Mt b:=λb n z=>by
     rcases z with⟨k,z⟩|z
     ·rcases pc k b z with⟨_,e⟩|⟨_,e⟩
      ·exact n (.inr (by rw[E,e];exact Qv))
      ·exact n (.inl ⟨k,e⟩)
     ·exact n (.inr (by rw[E];exact Qm _ z))
    have xc:ExtW μ' H' (gn ⟨μ'.pub,μ1.priv,μ'.ob⟩ M'.length a) H':={O,λ_ _ e=>e,λb y e n=>{e,nc b n},λ_ _ _ e=>e,λ_ _ _ e=>e,λ_ _ e=>e};have W:Ext μ1 H1 (gn ⟨μ'.pub,μ1.priv,μ'.ob⟩ M'.length a) H':=by
     refine{{λk b e=>O k b (x.mu k b e),xe.tups,λb y e n=>?_,xe.frzs,xe.exts,xe.obs},rfl,xe.pk};obtain⟨H,I⟩:=F.lsts b y e n;obtain⟨z3,z4⟩:=x.lsts b y H I;exact{z3,nc b z4}
    have P:RelM fa K (gn ⟨μ'.pub,μ1.priv,μ'.ob⟩ M'.length a) H' (M'++[acc]):=by
     refine{λk L e=>?_,λk hk=>?_,λk hk=>v.oout k (by simp at hk;omega),λj k b e1 e2=>?_,v.oinj,λk b z=>?_,λb B=>?_}
     ·by_cases hk:k<M'.length
      ·rw[QR hk] at e;rcases v.at' k L e with⟨b,y,h1,h2,h3⟩|⟨b,h1,h2,h3⟩
       ·exact .inl {b,y,O k b h1,h2,h3.extW xc}
       ·exact .inr {b,h1,by show(if k=M'.length then some a else μ'.pub k)=none;rw[if_neg (Q3 hk)];exact h2,h3.extW xc rfl}
      ·have M:k=M'.length:=by
        have:=(Qg.mp e).1;simp at this;omega
       subst M;rw[Rq (Qo _)] at e;simp at e;subst e;exact .inl {a,vs,ac,hH,hr.extW xc}
     ·simp at hk;show(if k=M'.length then some a else μ'.pub k)=none;rw[if_neg `a]
      exact v.out k `a
     ·rcases pc j b e1 with⟨j1,J⟩|⟨j1,J⟩<;>rcases pc k b e2 with⟨k1,k2⟩|⟨k1,k2⟩
      ·omega
      ·exact absurd (J ▸ k2) (U k)
      ·exact absurd (k2 ▸ J) (U j)
      ·exact v.inj j k b J k2
     ·show μ'.ob (uY k)=none;rcases pc k b z with⟨e,_⟩|⟨_,e⟩
      ·rw[e];exact v.oout _ (Qo _)
      ·exact v.sep k b e
     ·have B:=B;obtain⟨H,I⟩:=v.pv b (by rw[E];exact Qm _ B)
      refine{H,λk e=>?_};rcases pc k b e with⟨_,e⟩|⟨_,e⟩
      ·exact S (e ▸ B)
      ·exact I k e
    exact q (.ref a) H' _ W P ⟨a,rfl,ac⟩
 ·exact q.elim
end
section
variable{fa:Fa}{X:Cx}
def bL (m:Bool)(n:Nat)(t:gG)(j:Env->Mem->Res Walk)(g:Env->List D->Mem->Res (List D)):Env->Mem->Res D:=λh M=>
 (j h M).bind λw M=>(dU (dW t g (List.replicate n none++h)) w [] M).bind (bu m)
def qE (X:Cx)(u B h:Expr)(y:List Expr)(rest:List Comprehension)(j:Scope)(pos:Pos)(body:Addr->RE->Sem Unit):Prop:=
 ∀(z a:Addr) (env:RE),compTurn (.ListComp u ({B,h,y,0}::rest) j pos) 0 (.ref z) (.ref a) env=(standAt h.pos >>= λ_=>pyNext (.ref z) >>= λr=>match r with
  |none=>pure (.done .next)
  |some v=>letOwnedTupleGo B (.ref z) v >>= λ_=>assign B env v >>= λ_=>body a env >>= λ_=>again (.compLoop (.ListComp u ({B,h,y,0}::rest) j pos) 0 (.ref z) (.ref a) env))
structure Block (fa:Fa) (X:Cx) (A:Addr->PA) (own bn:List Str) (scope:Scope) (tg:Expr) (t:gG) (W:List Nat) (body:Addr->RE->Sem Unit) (g:Env->List D->Mem->Res (List D)):Prop where
 pg:∀cl C fp s H,PG (jq X own bn scope cl C fp s H) tg (gT fa X.K t)
 db:∀cl C fp s H a,DB fa (jq X own bn scope cl C fp s H) (A a) a W (body a (compEnvC scope cl C X.env)) g
def BB (h:∀i∈W,i<n):Clear W (List.replicate n none++Z):=λi j d e=>by
 rw[QR (by simpa using h i j),RZ] at e
 simp[h i j] at e
def CQ {K:Qf}(n:Nat)(h:bx fa K μ H σ Z):bx fa K μ H (List.replicate n none++σ) (List.replicate n none++Z):=by
 refine{by simp[h.len],λi d e=>?_}
 by_cases j:i<n
 ·rw[QR (by simpa using j),RZ] at e
  simp[j] at e
 ·rw[Rq `o] at e ⊢
  simp only[List.length_replicate] at e ⊢;exact h.at' _ d e
def qw {rest:List Comprehension}
 (S:iI X own bn scope) (R:X.calm=true) (hi:DI fa X tg iter gw) (B:Block fa X (LA fa X.K) own bn scope tg t W body g) (hT:qE X elt tg iter ifs rest scope pos body) (hW:∀i∈W,i∉slots t) (hn:∀i∈slots t++W,i<own.length)
 (hs:∀x,foldedSetIterable iter X.env x=pure x)
 (I:Inv X pins σ H s) (hE:bx fa X.K μ H σ Z) (hM:RelM fa X.K μ H M) (h:ae (bL m own.length t gw g Z M) (bw fa X.K μ H Q))
 (post:∀(a C:Addr) (s':Qn) (H':Hp),Inv X pins σ H' s'->Q (.ref a) H'->(∃m,s'.heap.Ns C m)->(∀σ2 E s2,Inv X pins σ2 E s2->(H' C=none->E C=none)->E C=none/\∀P,Heap.SameBut C s2.heap P->Inv X pins σ2 E {s2 with heap:=P})->H' C=none->(C≠X.env.locals/\∀x c,X.env.cells.lookup x=some c->c≠C)->compPost (model X.prog X.w) X.A X.xe use QQ (.ref a) C (.ok .next) s') :
 wpAny (model X.prog X.w) X.A (comprehension (.ListComp elt ({tg,iter,ifs,0}::rest) scope pos) scope X.env p0 (newList []) false (eval iter X.env) use) QQ X.xe s:=by
 obtain⟨w,M1,ew,q⟩:=aT h;obtain⟨acc,M2,ea,q2⟩:=aT q;obtain⟨cl,hcl,O,L⟩:=yU λy hy hf=>I.ok.has y.1 (S.free y hy hf);refine wpAny_comprehension_free rfl hs hcl S.kind S.loc ?_;refine aY (hi pins s σ H (λJ H1=>∃μ1,Ext μ H μ1 H1/\RelM fa X.K μ1 H1 M1/\eD fa X.K μ1 H1 w J) I {μ,Z,M,hE,hM,?_}) λv s1 h1=>aY h1 λitv s2 h2=>?_
 ·rw[ew];exact λJ H1 μ1 x1 m1 wk=>⟨μ1,x1,m1,wk⟩
 obtain⟨it,fp,tn,J,E,ei,I2,T,st2,f2,μ2,x2,m2,wk⟩:=h2;subst ei;refine wpAny_newObj_type ?_;have ha:=I2.hok.fresh (Qo _);have I3:Inv X pins σ (upd E s2.heap.objs.size (.lst [])) {s2 with heap:=s2.heap.push {cls:=.type "list",dict:=none,data:=.seq ([]:List Qj).toArray}}:=
  I2.laid (λb o e=>Qi _ e) (Qo _) {RN _,[],_,.nil,QD _ rfl}
 generalize hs3:({s2 with heap:=s2.heap.push {cls:=.type "list",dict:=none,data:=.seq ([]:List Qj).toArray}}:Qn)=s3 at I3 ⊢
 have k3:∀b o,s2.heap.get? b=some o->s3.heap.get? b=some o:=λb o e=>by rw[<- hs3];exact Qi _ e
 have fo2:=T.obj _ _ st2;have f3:∀b∈fp,gA X pins (upd E s2.heap.objs.size (.lst [])) b:=λb u=>by
  obtain⟨o,e,_⟩:=fo2 b u;exact{by rw[aI (Q3 (Qy e))];exact(f2 b u).1,(f2 b u).2}
 have fo3:∀b∈fp,∃o,s3.heap.get? b=some o:=λb u=>let{o,e,_}:=fo2 b u;{o,k3 b o e}
 obtain⟨CL,U⟩:=NM S O L (s3.heap.push {cls:=.type "dict",data:=.dict #[]}) (R0 ..);generalize F:cellsFrom (s3.heap.objs.size+1) scope.names cl=cl' at CL U;refine Bl ?_;rw[F];have j:(pushCells (s3.heap.push {cls:=.type "dict",data:=.dict #[]}) scope.names).Ns s3.heap.objs.size (λ_=>none):=(Heap.Ns.new s3.heap (.type "dict")).keeps (pushCells_keeps _ _);have k4:∀b o,s3.heap.get? b=some o->(pushCells (s3.heap.push {cls:=.type "dict",data:=.dict #[]}) scope.names).get? b=some o:=λb o e=>pushCells_keeps _ _ b o (Qi _ e);generalize pushCells (s3.heap.push {cls:=.type "dict",data:=.dict #[]}) scope.names=h₁ at j k4 U ⊢;clear hcl F O L cl
 rename List (Str×Addr)=>cl
 have I4:=DZ (t':=s3.toks) I3 S CL f3 fo3 j k4 U;have Y:=I4.ok;have f4:∀b∈fp,gA (jq X own bn scope cl s3.heap.objs.size fp s3 (upd E s2.heap.objs.size (.lst []))) [] (upd E s2.heap.objs.size (.lst [])) b:=λb u=>
  {(f3 b u).1,(Y.exf b u).1,Y.exfs b u,.inl u,(Y.exf b u).2,λp hp=>nomatch hp}
 have st4:=T.keep _ _ _ st2 λb u o e=>k4 b o (k3 b o e);have x3:=mU m2 ha (.lst []);have go:=xx LA.stab (X:=jq X own bn scope cl s3.heap.objs.size fp s3 (upd E s2.heap.objs.size (.lst []))) (acc:=[]) (hT it s2.heap.objs.size _) ⟨rfl,rfl⟩ rfl R T (B.pg _ _ _ _ _) (B.db _ _ _ _ _ _) hW I4 st4 f4
  (CQ own.length ((hE.ext x2).extW x3)) (Aq m2 ha []) (BB hn) {Qv,_,bR,rfl} (zr wk x3) (by
   rw[ea];rintro σ' H' μ' z1 z2 z3 ⟨_,vs',z4,z5⟩;exact G6 m2 ha z1 z3 z4 z5 (ky q2 x2))
 have go':codeAny (model X.prog X.w) X.A (.compLoop (.ListComp elt ({tg,iter,ifs,0}::rest) scope pos) 0 (.ref it) (.ref s2.heap.objs.size) (compEnvC scope cl s3.heap.objs.size X.env)) (compPost (model X.prog X.w) X.A X.xe use QQ (.ref s2.heap.objs.size) s3.heap.objs.size) {s3 with heap:=h₁}:=
  codeAny_mono go λr s' ⟨er,σ',H',I',z⟩=>by
   subst er;refine post _ _ s' H' (comp_back I3 f3 I') z (let{m,hn,_}:=I'.loc;⟨m,hn⟩) (λσ2 E s2' I2' hf=>{hf I'.free,λP hs''=>By I3 (hf I'.free) I2' hs''}) I'.free {Rv I3.lt,λx c e z=>by
    obtain⟨v,q⟩:=I3.cell x c e;exact absurd q.lt (by rw[z];exact Rt _)}
 exact codeAny_compStart_list go' (T.self _ 0 _ _ _ st4 go')
def LQ (m:Bool){v z j:Expr}{rest:List Comprehension}
 (S:iI X own bn scope) (u:X.calm=true) (hi:DI fa X z j gw) (B:Block fa X (LA fa X.K) own bn scope z t W body g) (R:qE X v z j ifs rest scope pos body) (U:∀i∈W,i∉slots t) (hn:∀i∈slots t++W,i<own.length)
 (hs:∀x,foldedSetIterable j X.env x=pure x):DE fa X (.ListComp v ({z,j,ifs,0}::rest) scope pos) (bL m own.length t gw g):=by
 rintro F s σ H Q I ⟨μ,Z,M,O,P,h⟩;rw[eval_ListComp];refine qw S u hi B R U hn hs I O P h ?_;rintro a C Y H' J q ⟨m,hn⟩ y hf _;exact{m,hn,λL E=>{.ref a,H',(y σ H' Y J id).2 L E,rfl,q}}
def yP (m:Bool){y:Str}{rest:List Comprehension}
 (S:iI X own bn scope) (j:X.calm=true) (hi:DI fa X tg iter gw) (B:Block fa X (LA fa X.K) own bn scope tg t W body g) (hT:qE X elt tg iter ifs rest scope pos body) (hW:∀i∈W,i∉slots t) (hn:∀i∈slots t++W,i<own.length)
 (hs:∀x,foldedSetIterable iter X.env x=pure x) (hN:X.N.Nodup) (hy:X.N[i]?=some y) (hl:X.env.scope.names.lookup y=some .local)
 (J:swapsWith (.ListComp elt ({tg,iter,ifs,0}::rest) scope pos) (some (.Name y py)) spos.line X.env=pure true) :
 DS fa X (.Assign [.Name y py] (.ListComp elt ({tg,iter,ifs,0}::rest) scope pos) spos) (λZ M=>(bL m own.length t gw g Z M).bind λx M=>(b8 M (cy (.one i) x Z)).bind λρ1 M=>.ok (.next ρ1) M):=by
 rintro O s σ H D' I ⟨μ,Z,M,L,Y,h⟩;obtain⟨x,M1,ex,q⟩:=aT h;rw[exec_Assign_Name_used _ _ _ _ J];refine tqa (wpAny_standAt (tqa ?_));refine tqa (aY (qw S j hi B hT hW hn hs I L Y (by
  rw[ex];exact λv H' μ' P m1 r1=>q _ H' μ' P ((L.ext P).set r1) m1) ?_) λ_ s' hq=>tqb (tqb hq))
 rintro a C s' H' Q q ⟨m,hn⟩ u hf ⟨nL,nC⟩;refine wpAny_assign_Name (rW Q hN hy (.inl hl) (v:=.ref a) rfl (λs2 R ⟨b,hb,E⟩=>?_) (.inr hl));have nb:C≠b:=by
  rcases E with z|z
  ·rw[z];exact nL
  ·exact Ru (nC y b z)
 exact{m,hn.sameBut hb nb,λU F=>{_,H',(u _ H' s2 R id).2 U F,q}}
end
section
variable{X:Cx}{pins:List (Addr×Obj)}{σ:L2.St}{H:Hp}{s:Qn}{h':Heap}{t':Nat}{ch:List Addr}
def wj (I:Inv X pins σ H s)(hf:∀b∈ch,gA X pins H b)(k:∀b o,b∉ch->s.heap.get? b=some o->h'.get? b=some o):Inv X pins σ H {s with heap:=h',toks:=t'}:=by
 have j:∀b u,H b=some u->b∉ch:=λb u e z=>by rw[(hf b z).1] at e;cases e
 refine I.step (λb y=>{(hf b y).2.2.2.1,(hf b y).2.1,(hf b y).2.2.2.2.1,(hf b y).2.2.2.2.2}) (λb o _ _ h e _=>k b o h e) (λb o _ _ h e _=>{o.slots,k b o h e}) (λ_ _ _ _ n=>n)
  (λb o h e=>{o,k b o h e}) (λ_ _ e=>e) (λ_ _ _ e=>e) (λb ps e=>{#[],by rw[e];simp}) (λm hm=>?_) (λb u e=>?_) I.bare
 ·obtain⟨o,E,B,ho,r⟩:=hm;exact{o,E,B,k _ o (λz=>(hf _ z).2.1 rfl) ho,r}
 ·refine(I.hok b u e).stay (λc v h q=>k c v ?_ q) (λ_ q=>q) λ_ _ q=>q;rcases h with z|z
  ·rw[z];exact j b u e
  ·exact j c _ z
def rR (I:Inv X pins σ H s)(hf:∀b∈ch,gA X pins H b)(k:∀b o,b∉ch->s.heap.get? b=some o->h'.get? b=some o)(B:s.heap.objs.size<=T)(new:eK X.prog X.w (upd H T o) h' T o) :
 Inv X pins σ (upd H T o) {s with heap:=h',toks:=t'}:=by
 have hn:=I.hok.fresh B;have y:∀b u,H b=some u->b∉ch:=λb u e z=>by rw[(hf b z).1] at e;cases e
 refine I.step (λb h=>{(hf b h).2.2.2.1,(hf b h).2.1,(hf b h).2.2.2.2.1,(hf b h).2.2.2.2.2}) (λb o _ _ j e _=>k b o j e) (λb o _ _ j e _=>{o.slots,k b o j e})
  (λb o _ e n=>by rw[aI (Q3 (QI (Qy e) B))];exact n)
  (λb o j e=>{o,k b o j e}) (λb xs e=>by rw[aI (aX e hn)];exact e) (λb ob u e=>by rw[aI (aX e hn)];exact e) (λb ps e=>{#[],by rw[aI (aX e hn),e];simp}) (λm hm=>?_) (λb u e=>?_) I.bare
 ·obtain⟨o,F,E,ho,r⟩:=hm;exact{o,F,E,k _ o (λz=>(hf _ z).2.1 rfl) ho,r}
 ·by_cases h:b=T
  ·subst h;rw[bR] at e;cases e;exact new
  ·rw[aI h] at e;refine(I.hok b u e).stay (λc v j q=>k c v ?_ q) (λc q=>by rw[aI (aX q hn)];exact q) λc xs q=>by rw[aI (aX q hn)];exact q
   rcases j with z|z
   ·rw[z];exact y b u e
   ·exact y c _ z
end
section
variable{fa:Fa}{X:Cx}{a:Expr}{ga:Env->Mem->Res D}{pos p:Pos}
noncomputable def cj:∀(ds:List D) (k i:Nat),(dH k ds)[i]?=(ds[i]?).map λd=>.tup [.int ((k+i:Nat):Int),d]
 |[],_,_=>by simp[dH]
 |d::ds,k,0=>by simp[dH]
 | d::ds,k,i+1=>by
   have:=cj ds (k+1) i;simp only[dH,Q6,this]
   congr 1
   funext d
   congr 3
   omega
noncomputable def dm:∀(ds:List D) (k:Nat),(dH k ds).length=ds.length
 |[],_=>rfl
 |d::ds,k=>by simp[dH,dm ds]
end
def bO:Bool->Heap->Addr->Array Qj->Prop
 |true,h,a,j=>h.IsList a j
 |false,h,a,j=>h.IsTuple a j
def fC:Bool->Heap->Addr->Addr->Nat->Prop
 |true,h,j,a,i=>h.IsListIter j a i
 |false,h,j,a,i=>h.IsTupleIter j a i
def bO.extBut (x:bO b h a its)(hs:Heap.ExtBut c h h')(n:a≠c):bO b h' a its:=by
 cases b<;>(obtain⟨o,ho,r⟩:=x;exact{o,hs a o n ho,r})
def fC.extBut (x:fC b h it a i)(hs:Heap.ExtBut c h h')(n:it≠c):fC b h' it a i:=by
 cases b<;>(obtain⟨o,ho,r⟩:=x;exact{o,hs it o n ho,r})
def bO.at (x:bO b h a its)(k:∀o,h.get? a=some o->h'.get? a=some o):bO b h' a its:=by
 cases b<;>(obtain⟨o,ho,r⟩:=x;exact{o,k o ho,r})
def fC.at (x:fC b h it a i)(k:∀o,h.get? it=some o->h'.get? it=some o):fC b h' it a i:=by
 cases b<;>(obtain⟨o,ho,r⟩:=x;exact{o,k o ho,r})
def fC.obj (x:fC b h it a i):∃o,h.get? it=some o/\∀v,o.data≠.cell v:=by
 cases b<;>(obtain⟨o,ho,c,d⟩:=x;exact{o,ho,λv z=>by rw[d] at z;cases z})
section
variable{prog:Q0}{w:QX}{A:Rz}{E:Qj->Qn->Prop}{s:Qn}
def vX {a b:Nat}(h:a≠b):@Ne Addr a b:=h
def IQ {T:Addr}{j:Array Qj}{k:Nat}{x:Qj}{Q:Unit->Qn->Prop}(v:s.heap.get? T=some {cls:=.type "tuple",data:=.seq j})(hz:j.size<=64)
 (h:∀u,u.get? T=some {cls:=.type "tuple",data:=.seq (j.setIfInBounds k x)}->Heap.SameBut T s.heap u->Q () {s with heap:=u}) :
 wpAny (model prog w) A (updateSeq T (·.setIfInBounds k x)) Q E s:=by
 refine wpAny_updateSeq v rfl (h _ ?_ (Heap.SameBut.update ..)) (Qs hz `d) (by rw[Array.size_setIfInBounds];exact Qs hz `d)
 rw[RH _ v rfl];simp[Obj.mapSeq]
def jD {b:Bool}{y a:Addr}{i:Nat}{j:Array Qj}{Q:Qj->Qn->Prop}(hh:A.handled=none)(h:fC b s.heap y a i)(hl:bO b s.heap a j)
 (I:∀x u,j[i]?=some x->fC b u y a (i+1)->Heap.SameBut y s.heap u->Q x {s with heap:=u})
 (H:j[i]?=none->∀u e,Heap.ExtBut y s.heap u->(∃o,u.get? e=some o/\o.cls=.type "StopIteration")->E (.ref e) {s with heap:=u}):wpAny (model prog w) A (Builtin.SmallTypes.nextOf (.ref y)) Q E s:=by
 cases b with
 | true=>cases v : j[i]? with
   |some x=>exact wpAny_nextOf_list_item h hl v λu=>I x u v
   |none=>exact wpAny_nextOf_list_end hh h hl v (H v)
 | false=>
   obtain⟨o,ho,J,hd⟩:=id h;obtain⟨L,B,_,nl,z⟩:=hl;refine tqa (wpAny_callSpecial?_slot h.typeIs F.slot_tuple_iterator_next
    (wpAny_call_entry F.slot_tuple_iterator_next h.typeIs F.entry_tuple_iterator_next ?_ (F.args_tuple_iterator_next_1 _)))
   show wpAny _ _ (field (.ref y) 0 >>= _) _ _ s;refine tqa (tqf ho hd rfl ?_);show wpAny _ _ (if (Value.ref a==Value.none)=true then _ else _) _ _ s;rw[if_neg (show ¬ ((Value.ref a==Value.none)=true) from QF)];refine tqa (tqf ho hd rfl ?_);refine tqa (wpAny_seqItems B z ?_);cases v:j[i]? with
   | some x=>
     simp only[Int.toNat_natCast,v];refine tqa (wpAny_setField ho hd `s (tqb {x,rfl,tqb (I x _ v ?_ (Heap.SameBut.update ..))}))
     exact{_,RH _ ho (R7 (RB hd _)),(Obj.cls_mapFields ..).trans J,by
      rw[RB hd];simp[rawInt]}
   | none=>
     simp only[Int.toNat_natCast,v];refine tqa (wpAny_rule (tqa (wpAny_setField ho hd `s ?_)))
     refine tqa ?_;refine tqa (wpAny_newObj_type ?_ (by size_fits))
     refine tqa (wpAny_of_eq (by first|rfl|(simp only[firstArgMember];rfl)) ?_)
     refine wpAny_newObj_type ?_ (by size_fits)
     refine tqa (wpAny_handled ?_);first|rw[show A.in1.handled=none from hh]|rw[hh]
     refine tqa (tqb (wpAny_throw ?_));exact H v _ _ (((Heap.SameBut.update ..).extBut.push _).push _) {_,QD _ rfl,rfl}
noncomputable abbrev jV (us:Array Qj):Obj:={cls:=.type "tuple",data:=.seq us}
noncomputable def qO (n k j:Nat):List Qj:=(List.range' k j).map λk=>Value.ref (n+k)
def y7 (n m:Nat)(h j:Heap):Prop:=∀(c:Nat) o,(c<n\/c=n+m\/n+m+2<c)->h.get? c=some o->j.get? c=some o
def zd (n i k:Nat)(l:List (Bool×Nat))(h:Heap):Prop:=∀(j:Nat) b a,l[j]?=some (b,a)->fC b h (n+j) a (if j<k then i+1 else i)
def L1 (n:Nat)(l:List (Bool×Nat))(xs:Nat->Array Qj)(h:Heap):Prop:=∀(j:Nat) b a,l[j]?=some (b,a)->a<n/\bO b h a (xs j)
abbrev qD (h:Heap)(n m:Nat)(v:Qj):Prop:=IsZip h (n+m+2) (n+m) (n+m+1) v
def PU (n m i k:Nat)(l:List (Bool×Nat))(xs:Nat->Array Qj)(v h:Heap):Prop:=qD h n m .ellipsis/\(∃u:Array Qj,u.size=m/\(∀j<k,u[j]?=(xs j)[i]?)/\h.get? (n+m+1)=some (jV u))/\zd n i k l h/\L1 n l xs h/\y7 n m v h/\h.objs.size=v.objs.size
theorem E2 {M:Model}{u:Type}{f:Qj×Nat->u->Sem (ForInStep u)}{b:u}{Q:u->Qn->Prop}(n m:Nat)(I:Nat->Qn->Prop)
 (hs:∀k s,k<m->I k s->wpAny M A (f (.ref (n+k),k) b) (λr v=>r=.yield b/\I (k+1) v) E s) (y:∀s,I m s->Q b s):∀(j k:Nat) (s:Qn),k+j=m->I k s->wpAny M A (forIn ((qO n k j).zipIdx k) b f) Q E s
 |0,k,s,e,h=>tqb (y s (e ▸ h))
 | j+1,k,s,e,h=>by
   show wpAny M A (forIn ((Value.ref (n+k),k)::(qO n (k+1) j).zipIdx (k+1)) b f) Q E s;rw[List.forIn_cons];refine tqa (aY (hs k s `a h) ?_)
   rintro _ v ⟨rfl,z⟩;exact E2 n m I hs y j (k+1) v `a z
def tZ {n m i:Nat}{l:List (Bool×Nat)}{xs:Nat->Array Qj}{us:Array Qj}{Q:Qj->Qn->Prop}(hh:A.handled=none)(hl:l.length=m+1)(h64:m<64)
 (hz:qD s.heap n (m+1) .none) (hTI:s.heap.get? (n+(m+1))=some (jV (qO n 0 (m+1)).toArray)) (hTO:s.heap.get? (n+(m+1)+1)=some (jV us)) (U:us.size=m+1) (hi:zd n i 0 l s.heap) (H:L1 n l xs s.heap)
 (hQ:∀F us,us.size=m+1->(∀k<m+1,us[k]?=(xs k)[i]?)->qD F n (m+1) (rawInt s.heap.objs.size)->F.get? (n+(m+1)+1)=some (jV us)->zd n (i+1) 0 l F->F.get? s.heap.objs.size=some (jV us)->y7 n (m+1) s.heap F->Q (.ref s.heap.objs.size) {s with heap:=F})
 (hE:∀F e k,k<m+1->(xs k)[i]?=none->y7 n (m+1) s.heap F->(∃o,F.get? e=some o/\o.cls=.type "StopIteration")->E (.ref e) {s with heap:=F}) :
 wpAny (model prog w) A (Builtin.«zip.__next__» {[.ref (n+(m+1)+2)],[]}) (λfin s'=>∃v,fin=.done (.ret v)/\Q v s') E s:=by
 show wpAny _ _ (field (.ref (n+(m+1)+2)) 2 >>= _) _ _ _;refine tqa (tqf hz rfl rfl ?_);refine tqa (tqf hz rfl rfl ?_);refine tqa (wpAny_seqItems hTI rfl ?_);refine tqa ?_;refine tqa (tqf hz rfl rfl (tqb ?_));refine tqa (wpAny_rule ?_);refine tqa (tqf hz rfl rfl ?_);refine tqa (wpAny_setField_rec hz `s λh0 hz0 S=>?_)
 have u0:∀(c:Nat) o,c≠n+(m+1)+2->s.heap.get? c=some o->h0.get? c=some o:=λc o ne=>S.extBut c o ne;have mm:∀{j b a},l[j]?=some (b,a)->j<m+1:=λe=>hl ▸ (Qg.mp e).1;refine tqa (E2 n (m+1) (λk s'=>∃h,s'={s with heap:=h}/\PU n (m+1) i k l xs s.heap h) ?_ ?_ (m+1) 0 _ (RS _) {h0,rfl,hz0,{us,U,λ_ z=>absurd z (Nat.not_lt_zero _),u0 _ _ `a hTO},λj b a e=>(hi j b a e).at λo=>u0 _ o (by have:=mm e;omega),λj b a e=>{(H j b a e).1,(H j b a e).2.at λo=>u0 _ o (by have:=(H j b a e).1;omega)},λc o L=>u0 c o `a,S.1})
 ·rintro k _ hk ⟨h,rfl,hz,⟨us,U,hx,hT⟩,hi,H,kp,sz⟩;obtain⟨⟨b,a⟩,e⟩:∃p,l[k]?=some p:={_,QA `a}
  have it:=hi k b a e;rw[if_neg (Rt k)] at it;refine tqa (wpAny_onRaise ?_);refine tqa (jD hh it (H k b a e).2 (λx h1 ex j1 u=>tqb ?_) λen h1 e1 u ⟨oe,J,R⟩=>?_)
  ·have O:=u.extBut _ _ (vX `a) hT
   refine tqa (wpAny_seqItems O rfl ?_);refine tqa (IQ O `a λh2 hT2 B=>?_)
   have I:∀(c:Nat) o,c≠n+k->c≠n+(m+1)+1->h.get? c=some o->h2.get? c=some o:=λc o x y z=>B.extBut c o y (u.extBut c o x z);refine tqa (wpAny_letGo (tqb {rfl,h2,rfl,I _ _ `a `a hz,{_,(Array.size_setIfInBounds ..).trans U,λj hj=>?_,hT2},λj b' a' M=>?_,λj b a e=>{(H j b a e).1,(H j b a e).2.at λo=>I _ o (by have:=(H j b a e).1;omega) (by have:=(H j b a e).1;omega)},λc o L x=>I c o `a `a (kp c o L x),by rw[B.1,u.1,sz]}))
   ·by_cases jk:j=k
    ·subst jk;rw[Array.getElem?_setIfInBounds_self_of_lt `a,ex]
    ·rw[Array.getElem?_setIfInBounds_ne (Ru jk),hx j `a]
   ·by_cases jk:j=k
    ·subst jk;cases e.symm.trans M;rw[if_pos (Nat.lt_succ_self _)];exact j1.at λo=>B.extBut _ o (vX `a)
    ·have q:=hi j b' a' M;have:=mm M;rw[show(if j<k+1 then i+1 else i)=if j<k then i+1 else i by split<;>split<;>omega]
     exact q.at λo=>I _ o `a `a
  ·have W:=u _ _ (vX `a) hz
   have hez:e1≠n+(m+1)+2:=λx=>by subst x;rw[W] at J;cases J;simp at R
   exact wpAny_setField_rec W `s λh2 _ B=>hE h2 e1 k hk en (λc o L x=>B.extBut _ _ (vX `a) (u _ _ (vX `a) (kp c o L x))) {oe,B.extBut _ _ hez J,R}
 ·rintro _ ⟨h4,rfl,X,⟨us,U,hx,hT⟩,hi,H,kp,sz4⟩;refine tqa (wpAny_seqItems hT rfl ?_);refine tqa (wpAny_newTuple (hsz:=Qs (show us.toList.length<=64 by rw[RW];omega) `d) ?_)
  have hzlt:=Qy X;refine tqa ?_;have hz6:qD (h4.push (jV us)) n (m+1) .ellipsis:=Qi _ X;refine tqa (wpAny_setField_rec hz6 `s λh7 hz7 hs7=>?_)
  refine wpAny_setField_rec hz7 `s λh8 Y hs8=>?_
  have I:∀(c:Nat) o,c≠n+(m+1)+2->(h4.push (jV us)).get? c=some o->h8.get? c=some o:=λc o c1 e=>hs8.extBut _ _ c1 (hs7.extBut _ _ c1 e);refine tqb {_,rfl,?_};have P:=I h4.objs.size _ (Rv hzlt) (QD _ rfl);rw[sz4] at P Y ⊢;refine hQ h8 us U hx Y (I _ _ `a (Qi _ hT)) (λj b a e=>?_) P λc o L e=>I c o `a (Qi _ (kp c o L e))
  have q:=hi j b a e;rw[if_pos (mm e)] at q;exact q.at λo M=>I _ o (by have:=mm e;omega) (Qi _ M)
end
def jv (K:Qf)(H:Hp):Bool->Addr->List V->Prop
 |true,a,xs=>dC K H a xs
 |false,a,xs=>d9 K H a xs
noncomputable def eY:D->Bool
 |.tup _=>false
 |_=>true
noncomputable def dN:D->Bool
 |.tup _=>true
 |.lst _=>true
 |.frz _=>true
 |.cell _=>true
 |_=>false
def nu {X:Cx}{u:List (Addr×Obj)}{v:L2.St}{H:Hp}{s:Qn}{b:Bool}{a:Addr}{xs:List V}(I:Inv X u v H s)(h:jv X.K H b a xs):∃j:List Qj,Vals xs j/\bO b s.heap a j.toArray:=by
 cases b with
 |true=>obtain⟨j,r,p,_⟩:=I.list h;exact⟨j,r,p.isList⟩
 |false=>obtain⟨j,r,p,_⟩:=I.tuple h;exact⟨j,r,p⟩
def lN {X:Cx}{j:List (Addr×Obj)}{v:L2.St}{H:Hp}{s:Qn}{b:Bool}{a:Addr}{xs ys:List V}(I:Inv X j v H s)(h:jv X.K H b a xs)(u:jv X.K H b a ys):xs=ys:=by
 cases b with
 |true=>exact I.list_inj h u
 |false=>exact I.tuple_inj h u
def gV {fa:Fa}{X:Cx}{μ:Mu}{H:Hp}{M:Mem}{d:D}{a:Addr}{ds:List D}(v:RelM fa X.K μ H M)(h:Rep fa X.K μ H d (.ref a))(e:b7 M d=some ds):∃vs,jv X.K H (eY d) a vs/\aO fa X.K μ H ds vs:=by
 cases d with
 |tup xs=>cases e;obtain⟨u,vs,e,s,r⟩:=h;cases e;exact⟨vs,s,r⟩
 |lst xs=>obtain⟨u,vs,j,s,r⟩:=bW v h (e);cases j;exact⟨vs,s,r⟩
 |frz xs=>obtain⟨u,vs,j,s,r⟩:=bW v h (e);cases j;exact⟨vs,s,r⟩
 |cell k=>obtain⟨u,vs,j,s,r⟩:=bW v h (e);cases j;exact⟨vs,s,r⟩
 |_=>cases e
def iQ {fa:Fa}{X:Cx}{y:List (Addr×Obj)}{L:L2.St}{μ:Mu}{H:Hp}{s:Qn}{M:Mem}{d:D}{v:V}(I:Inv X y L H s)(F:RelM fa X.K μ H M)(h:Rep fa X.K μ H d v)(e:dN d=true):∃(a:Nat) (j:Array Qj),v=.ref a/\bO (eY d) s.heap a j:=by
 have u:∀B,b7 M d=some B->∃(a:Nat) (j:Array Qj),v=.ref a/\bO (eY d) s.heap a j:=λB z=>by
  obtain⟨a,J,rfl,_,_⟩:=jY F h z;obtain⟨J,s1,_⟩:=gV F h z;obtain⟨j,_,p⟩:=nu I s1;exact⟨a,j.toArray,rfl,p⟩
 cases d with
 |tup xs=>exact u xs rfl
 |lst xs=>exact u xs rfl
 |frz xs=>exact u xs rfl
 | cell k=>
   obtain⟨a,e,hk⟩:=id h;obtain⟨B,_,z,_⟩:=F.mu_lt hk;exact u B z
 |_=>cases e
def bO.lt {b:Bool}{h:Heap}{a:Addr}{j:Array Qj}(x:bO b h a j):a<h.objs.size:=by
 cases b<;>(obtain⟨o,ho,r⟩:=x;exact Qy ho)
def bO.push {b:Bool}{h:Heap}{a:Addr}{j:Array Qj}(x:bO b h a j)(ob:Obj):bO b (h.push ob) a j:=by
 cases b<;>(obtain⟨o,ho,r⟩:=x;exact{o,Qi _ ho,r})
noncomputable def eX (b:Bool)(a:Addr):Obj:={cls:=.type (if b then "list_iterator" else "tuple_iterator"),data:=.fields #[.ref a,.int 0 0]}
def fC.new {b:Bool}{h:Heap}{j a:Addr}(e:h.get? j=some (eX b a)):fC b h j a 0:=by
 cases b<;>exact{_,e,rfl,rfl}
def ia {prog:Q0}{w:QX}{A:Rz}{E:Qj->Qn->Prop}{s:Qn}{b:Bool}{a:Addr}{j:Array Qj}{Q:Qj->Qn->Prop}(h:bO b s.heap a j)(u:Q (.ref s.heap.objs.size) {s with heap:=s.heap.push (eX b a)}):wpAny (model prog w) A (pyIter (.ref a)) Q E s:=by
 cases b with
 |true=>exact wpAny_pyIter_list h u
 |false=>exact wpAny_pyIter_tuple h u
abbrev kg:=List (Bool×Nat)
def FU (K:Qf)(l:kg):It:=
 {λi H=>∀ (j : Nat) b a,l[j]? = some (b,a) -> ∃ xs x,jv K H b a xs /\ xs[i]? = some x,
  λi H v u=>∃p h,H p=none/\v=.ref p/\u=upd H p (.tup h)/\h.length=l.length/\∀(j:Nat) b a,l[j]?=some (b,a)->∀xs,jv K H b a xs->h[j]?=xs[i]?,
  λi H=>(∀(j:Nat) b a,l[j]?=some (b,a)->∃xs,jv K H b a xs)/\∃(j:Nat) (b:Bool) (a:Nat) (xs:List V),l[j]?=some (b,a)/\jv K H b a xs/\xs.length<=i}
def tW (n m:Nat)(l:kg)(i:Nat)(h:Heap):Prop:=qD h n (m+1) .none/\h.get? (n+(m+1))=some (jV (qO n 0 (m+1)).toArray)/\(∃j:Array Qj,j.size=m+1/\h.get? (n+(m+1)+1)=some (jV j))/\zd n i 0 l h
noncomputable def Ei (n m:Nat):List Addr:=List.range' n (m+4)
def ef {n m b:Nat}:b∈Ei n m↔n<=b/\b<n+(m+4):=List.mem_range'_1
def EI {X:Cx}{u:List (Addr×Obj)}{B:L2.St}{H:Hp}{s:Qn}{l:kg}(I:Inv X u B H s)(h:∀(j:Nat) b a,l[j]?=some (b,a)->∃xs,jv X.K H b a xs) :
 ∃(vs:Nat->List V) (ws:Nat->List Qj),∀(j:Nat) b a,l[j]?=some (b,a)->jv X.K H b a (vs j)/\Vals (vs j) (ws j)/\bO b s.heap a (ws j).toArray:=by
 obtain⟨f,hf⟩:=Classical.skolem.mp λj:Nat=>show ∃p:List V×List Qj,∀b a,l[j]?=some (b,a)->jv X.K H b a p.1/\Vals p.1 p.2/\bO b s.heap a p.2.toArray from by
  cases e:l[j]? with
  |none=>exact{([],[]),λ_ _ z=>by cases z}
  | some p=>
    obtain⟨xs,y⟩:=h j p.1 p.2 e;obtain⟨v,r,q⟩:=nu I y;exact{(xs,v),λJ F z=>by cases z;exact⟨y,r,q⟩}
 exact{λj=>(f j).1,λj=>(f j).2,hf}
theorem Et:∀{us:List Qj}{R:Nat->V->Prop},(∀(k:Nat) w,us[k]?=some w->∃y,RelV y w/\R k y)->∃ys,Vals ys us/\∀(k:Nat) y,ys[k]?=some y->R k y
 |[],R,_=>{[],.nil,λ_ _ z=>by simp at z}
 | w::r,R,h=>by
   obtain⟨y,e,q⟩:=h 0 w rfl;obtain⟨ys,v,t⟩:=Et λk w e=>h (k+1) w e;exact{y::ys,.cons e v,λk z e=>match k,e with
    |0,e=>by cases e;exact q
    |k+1,e=>t k z e}
def uc {P:Q0}{w:QX}{K:Qf}{M:List Expr}{kk:Nat}{pos:Pos}(n m:Nat)(l:kg)(hl:l.length=m+1)(O:m<64)(hn:∀(j:Nat) b a,l[j]?=some (b,a)->a<n) :
 Turn P w K (.Tuple M kk pos) (FU K l) (Ei n m) (n+(m+1)+2) (λi h=>tW n m l i h) where
 mem:=ef.mpr `a
 obj:=λi h ⟨h1,h2,⟨us,_,h3⟩,B⟩ (b:Nat) u=>by
  replace u:=ef.mp u;by_cases c:b<n+(m+1)
  ·obtain⟨j,rfl⟩:∃j,b=n+j:={b-n,`a}
   exact(B j _ _ (QA `a)).obj
  ·rcases(show b=n+(m+1)\/b=n+(m+1)+1\/b=n+(m+1)+2 by omega) with rfl|rfl|rfl
   ·exact{_,h2,λv z=>by cases z}
   ·exact{_,h3,λv z=>by cases z}
   ·exact{_,h1,λv z=>by cases z}
 keep:=λi h h' ⟨h1,h2,⟨us,y,h3⟩,B⟩ k=>{k _ (ef.mpr `a) _ h1,k _ (ef.mpr `a) _ h2,{us,y,k _ (ef.mpr `a) _ h3},λj b a e=>(B j b a e).at (k _ (ef.mpr (by have:=(Qg.mp e).1;omega)))}
 item:=by
  rintro X hP S hK hc i U s σ H E I hf ⟨h1,h2,⟨us,y,h3⟩,B⟩ hg;subst hP S hK;obtain⟨vs,ws,L⟩:=EI I λj b a e=>(hg j b a e).imp (by rintro _ ⟨_,h,_⟩;exact h)
  have it:∀k,k<m+1->∃x w b a,l[k]?=some (b,a)/\(vs k)[i]?=some x/\(ws k)[i]?=some w/\RelV x w:=λk hk=>by
   have e:l[k]?=some (l[k]'(`a)):=QA _
   obtain⟨xs,x,J,ex⟩:=hg k _ _ e;obtain⟨q1,q2,_⟩:=L k _ _ e;rw[lN I J q1] at ex;obtain⟨w,S,r⟩:=q2.get ex;exact{x,w,_,_,e,ex,S,r}
  have R:s.TypeIs (.ref (n+(m+1)+2)) "zip":={_,h1,rfl};unfold pyNext;refine tqa (wpAny_attempt (wpAny_callSpecial?_slot R F.slot_zip_next
   (wpAny_call_entry F.slot_zip_next R F.entry_zip_next
    (tZ (I.ok.hd hc) hl O h1 h2 h3 y B (λj b a e=>{hn j b a e,(L j b a e).2.2}) (λh4 us y J z1 z2 g hTT hk=>tqb {_,rfl,?_}) λh' e k hk en _ _=>?_) (F.args_zip_next_1 _))))
  ·have zlt:n+(m+1)+2<s.heap.objs.size:=Qy h1;refine wpAny_letOwnedTupleGo_zip z1 λh5 hz5 hs5=>?_;have Y:∀(c:Nat) o,c≠n+(m+1)+2->h4.get? c=some o->h5.get? c=some o:=λc o=>hs5.extBut c o;obtain⟨ys,vy,ty⟩:=Et (us:=us.toList) λk w e=>by
    have hk:k<m+1:=by have:=(Qg.mp e).1;rw[RW] at this;omega
    obtain⟨x,w',_,_,_,ex,ew,r⟩:=it k hk;have q:=J k hk;rw[Array.getElem?_toList] at e;simp only[List.getElem?_toArray] at q;rw[e,ew] at q;cases q;exact⟨x,r,ex⟩
   have ly:ys.length=m+1:=by rw[vy.length,RW,y]
   refine{.ref s.heap.objs.size,upd H s.heap.objs.size (.tup ys),rR (s:=s) I hf (λ(b:Nat) o u q=>Y b o (λz=>u (ef.mpr `a)) (hk b o (by rw[ef] at u;omega) q)) (Qo _) {by rw[ly];exact Qs (show m+1<=64 by omega) `d,us.toList,vy,{_,Y _ _ (Rv zlt) hTT,rfl,_,rfl}},rfl,
    {_,ys,I.hok.fresh (Qo _),rfl,rfl,ly.trans hl.symm,λj b a e xs J=>?_},{hz5,Y _ _ `a (hk _ _ `a h2),{us,y,Y _ _ `a z2},λj b a e=>(g j b a e).at λo=>Y _ o (by have:=(Qg.mp e).1;omega)},λ(b:Nat) u=>?_}
   ·have hj:j<ys.length:=by have:=(Qg.mp e).1;omega
    have e1:=QA hj;rw[lN I J (L j b a e).1,ty j _ e1,e1]
   ·rw[ef] at u;rw[aI (Q3 (by omega:(b:Nat)<s.heap.objs.size))];exact(hf b (ef.mpr u)).1
  ·obtain⟨_,_,_,_,_,_,ew,_⟩:=it k hk;simp only[List.getElem?_toArray] at en;rw[ew] at en;cases en
 done:=by
  rintro X hP S hK hc i U s σ H E I hf ⟨h1,h2,⟨us,y,h3⟩,B⟩ ⟨hs,k,b,a,xs,ek,hq,le⟩;subst hP S hK;obtain⟨vs,ws,L⟩:=EI I hs;have R:s.TypeIs (.ref (n+(m+1)+2)) "zip":={_,h1,rfl};unfold pyNext;refine tqa (wpAny_attempt (wpAny_callSpecial?_slot R F.slot_zip_next
   (wpAny_call_entry F.slot_zip_next R F.entry_zip_next
    (tZ (I.ok.hd hc) hl O h1 h2 h3 y B (λj b a e=>{hn j b a e,(L j b a e).2.2}) (λh4 us y J _ _ _ _ _=>?_) λh' e k _ _ hk he=>?_) (F.args_zip_next_1 _))))
  ·exfalso;have hk:=(Qg.mp ek).1;have q:=J k `a
   obtain⟨q1,q2,_⟩:=L k b a ek;rw[Array.getElem?_eq_getElem `a] at q
   simp only[List.getElem?_toArray] at q;rw[RG (by rw[<- q2.length,lN I q1 hq];exact le)] at q
   cases q
  ·obtain⟨o,ho,hcl⟩:=he;refine tqa (wpAny_isInstance ⟨o,ho,hcl⟩ isSubtype_stop ?_);exact tqb {rfl,wj I hf λ(b:Nat) o u q=>hk b o (by rw[ef] at u;omega) q}
 self:=λ_ _ _ _ _ st h=>wpAny_pyIter_zip st.1 h
noncomputable def i9 (h:Heap):kg->Heap
 |[]=>h
 |p::r=>i9 (h.push (eX p.1 p.2)) r
noncomputable def tJ (h:Heap):kg->List Qj
 |[]=>[]
 |p::r=>.ref h.objs.size::tJ (h.push (eX p.1 p.2)) r
noncomputable def pU:∀{h:Heap}{l:kg},(i9 h l).objs.size=h.objs.size+l.length
 |_,[]=>rfl
 |h,p::r=>by show(i9 _ r).objs.size=_;rw[pU,R0,List.length_cons];omega
noncomputable def mF:∀{l:kg}{h:Heap}{c:Nat}{o:Obj},h.get? c=some o->(i9 h l).get? c=some o
 |[],_,_,_,e=>e
 |_::r,_,_,_,e=>mF (l:=r) (Qi _ e)
noncomputable def si:∀{l:kg}{h:Heap}{j:Nat}{p:Bool×Nat},l[j]?=some p->(i9 h l).get? (h.objs.size+j)=some (eX p.1 p.2)
 |_::r,h,0,_,e=>by cases e;exact mF (l:=r) (QD _ rfl)
 | q::r,h,j+1,_,e=>by
   have:=si (h:=h.push (eX q.1 q.2)) (j:=j) e;rw[R0,Nat.add_assoc,Nat.add_comm 1] at this;exact this
noncomputable def uM:∀{l:kg}{h:Heap}{n k:Nat},h.objs.size=n+k->tJ h l=qO n k l.length
 |[],_,_,_,_=>rfl
 | p::r,h,n,k,e=>by
   have:=uM (l:=r) (h:=h.push (eX p.1 p.2)) (k:=k+1) (by rw[R0,e];rfl)
   show Value.ref h.objs.size::tJ _ r=Value.ref (n+k)::qO n (k+1) r.length;rw[this,e]
abbrev Eh (h:Heap)(l:kg):Heap:=(i9 h l).push (jV (tJ h l).toArray)
abbrev wg (h:Heap)(l:kg):Heap:=(Eh h l).push (jV (l.map λ_=>Value.none).toArray)
abbrev rO (h:Heap)(l:kg):Heap:=(wg h l).push {cls:=.type "zip",data:=.fields #[.none,.bool false,.bool false,.ref (i9 h l).objs.size,.ref (Eh h l).objs.size]}
def we (h:Heap){l:kg}{m:Nat}(hl:l.length=m+1):(wg h l).objs.size=h.objs.size+(m+1)+2/\tW h.objs.size m l 0 (rO h l)/\∀c o,h.get? c=some o->(rO h l).get? c=some o:=by
 have u:(i9 h l).objs.size=h.objs.size+(m+1):=by rw[pU,hl]
 have s1:(Eh h l).objs.size=h.objs.size+(m+1)+1:=by rw[R0,u]
 have s2:(wg h l).objs.size=h.objs.size+(m+1)+2:=by rw[R0,s1]
 have B:∀{c:Nat}{o},(i9 h l).get? c=some o->(rO h l).get? c=some o:=λe=>Qi _ (Qi _ (Qi _ e));have v:(rO h l).get? (i9 h l).objs.size=some _:=Qi _ (Qi _ (QD _ rfl));have y:(rO h l).get? (Eh h l).objs.size=some _:=Qi _ (QD _ rfl);have z:(rO h l).get? (wg h l).objs.size=some _:=QD _ rfl;rw[u,uM (Nat.add_zero _).symm,hl] at v;rw[s1] at y;rw[s2,s1,u] at z;exact{s2,{z,v,{_,by simp[hl],y},λj b a e=>fC.new (B (si e))},λc o e=>B (mF e)}
def yp (b0:Bool)(a0:Nat)(b1:Bool)(a1:Nat)(xs0 xs1:Array Qj) :
 Meets (Builtin.«zip.__new__» {[.type "zip",.ref a0,.ref a1],[]}) (λ_ R s=>bO b0 s.heap a0 xs0/\bO b1 s.heap a1 xs1/\
  R (.ok (.ret (.ref (wg s.heap [(b0,a0),(b1,a1)]).objs.size))) {s with heap:=rO s.heap [(b0,a0),(b1,a1)]}):=
 .of_wp λprog w A R s h=>by
  obtain⟨y,g,d,tk,os⟩:=s;obtain⟨z,B,h⟩:=h;have j:=sub_zip;have u:=z;have v:bO b1 (Shared.heap {y.push (eX b0 a0),g,d,tk,os}) a1 xs1:=(B).push _;wp_walk using ia u,ia v
  exact{_,rfl,h}
def yo (b0:Bool)(a0:Nat)(b1:Bool)(a1:Nat)(b2:Bool)(a2:Nat)(xs0 xs1 xs2:Array Qj) :
 Meets (Builtin.«zip.__new__» {[.type "zip",.ref a0,.ref a1,.ref a2],[]}) (λ_ R s=>bO b0 s.heap a0 xs0/\bO b1 s.heap a1 xs1/\bO b2 s.heap a2 xs2/\
  R (.ok (.ret (.ref (wg s.heap [(b0,a0),(b1,a1),(b2,a2)]).objs.size))) {s with heap:=rO s.heap [(b0,a0),(b1,a1),(b2,a2)]}):=
 .of_wp λprog w A R s h=>by
  obtain⟨j,g,d,tk,os⟩:=s;obtain⟨B,F,H,h⟩:=h;have u:=sub_zip;have v:=B;have y:bO b1 (Shared.heap {j.push (eX b0 a0),g,d,tk,os}) a1 xs1:=(F).push _;have z:bO b2 (Shared.heap {(j.push (eX b0 a0)).push (eX b1 a1),g,d,tk,os}) a2 xs2:=((H).push _).push _;wp_walk using ia v,ia y,ia z
  exact{_,rfl,h}
def qH (a b c:Qj):checkTypeCall "zip" {[a,b,c],[]}=pure ():=by kernel_rfl
def tf (a b c:Qj):checkBuiltinCall "zip.__new__" {[.type "zip",a,b,c],[]}=pure ():=by kernel_rfl
def m9 (a b c d:Qj):argsOk "object.__init__" {[a,b,c,d],[]}:=by
 unfold argsOk;rw[signature?_of (n:=['_','_','t','i','n','i','_','_']) (by kernel_rfl) F.owner_object];kernel_rfl
section
variable{prog:Q0}{w:QX}{A:Rz}{E:Qj->Qn->Prop}{s:Qn}{a0 a1 a2:Nat}{b0 b1 b2:Bool}{xs0 xs1 xs2:Array Qj}{Q:Qj->Qn->Prop}
def BE (u:bO b0 s.heap a0 xs0)(v:bO b1 s.heap a1 xs1)(h:∀j,tW s.heap.objs.size 1 [(b0,a0),(b1,a1)] 0 j->(∀c o,s.heap.get? c=some o->j.get? c=some o)->Q (.ref (s.heap.objs.size+2+2)) {s with heap:=j}) :
 wpAny (model prog w) A (call (.type "zip") [.ref a0,.ref a1]) Q E s:=by
 obtain⟨z,y,x⟩:=we s.heap (l:=[(b0,a0),(b1,a1)]) rfl;refine callType_new F.called_zip `d (F.typeCall_zip_2 _ _) (F.newCall_zip_2 _ _) (λobj=>F.args_object_init_3 obj _ _) F.entry_zip_new (yp b0 a0 b1 a1 xs0 xs1) {u,v,?_}
 show _/\_;rw[z];exact{{_,y.1,rfl},h _ y x}
def BD (u:bO b0 s.heap a0 xs0)(v:bO b1 s.heap a1 xs1)(B:bO b2 s.heap a2 xs2)(h:∀j,tW s.heap.objs.size 2 [(b0,a0),(b1,a1),(b2,a2)] 0 j->(∀c o,s.heap.get? c=some o->j.get? c=some o)->Q (.ref (s.heap.objs.size+3+2)) {s with heap:=j}) :
 wpAny (model prog w) A (call (.type "zip") [.ref a0,.ref a1,.ref a2]) Q E s:=by
 obtain⟨z,y,x⟩:=we s.heap (l:=[(b0,a0),(b1,a1),(b2,a2)]) rfl;refine callType_new F.called_zip `d (qH _ _ _) (tf _ _ _) (λobj=>m9 obj _ _ _) F.entry_zip_new (yo b0 a0 b1 a1 b2 a2 xs0 xs1 xs2) {u,v,B,?_}
 show _/\_;rw[z];exact{{_,y.1,rfl},h _ y x}
end
def pG (d0 d1:D):Walk:=λM=>(b7 M d0).bind λh=>(b7 M d1).map λj=>jx h j
def nK (j u:Env->Mem->Res D):Env->Mem->Res Walk:=λh M=>(j h M).bind λd0 M=>(u h M).bind λd1 M=>if dN d0&&dN d1 then .ok (pG d0 d1) M else .bad
noncomputable def t9:∀(j u:List D) (i:Nat) (d:D),(jx j u)[i]?=some d↔∃h e1,j[i]?=some h/\u[i]?=some e1/\d=.tup [h,e1]
 |v::t0,y::t1,0,d=>by simp[jx,eq_comm]
 | v::t0,y::t1,i+1,d=>by
   have:=t9 t0 t1 i d;simpa[jx] using this
 |[],_,i,d=>by simp[jx]
 |_::_,[],i,d=>by simp[jx]
noncomputable def t8:∀(j u:List D) (i:Nat),(jx j u).length<=i->j.length<=i\/u.length<=i
 |v::t0,y::t1,0,h=>by simp[jx] at h
 | v::t0,y::t1,i+1,h=>by
   have:=t8 t0 t1 i (by simpa[jx] using h)
   simpa using this
 |[],_,i,h=>`s
 |_::_,[],i,h=>`s
def pF (d0 d1 d2:D):Walk:=λM=>(b7 M d0).bind λh=>(b7 M d1).bind λj=>(b7 M d2).map λu=>f9 h j u
def qo (j u v:Env->Mem->Res D):Env->Mem->Res Walk:=λh M=>(j h M).bind λd0 M=>(u h M).bind λd1 M=>(v h M).bind λd2 M=>if dN d0&&dN d1&&dN d2 then .ok (pF d0 d1 d2) M else .bad
theorem rN:∀(j u v:List D) (i:Nat) (d:D),(f9 j u v)[i]?=some d↔∃h e1 e2,j[i]?=some h/\u[i]?=some e1/\v[i]?=some e2/\d=.tup [h,e1,e2]
 |y::t0,z::t1,B::t2,0,d=>by simp[f9,eq_comm]
 | y::t0,z::t1,B::t2,i+1,d=>by
   have:=rN t0 t1 t2 i d;simpa[f9] using this
 |[],_,_,i,d=>by simp[f9]
 |_::_,[],_,i,d=>by simp[f9]
 |_::_,_::_,[],i,d=>by simp[f9]
noncomputable def rM:∀(j u v:List D) (i:Nat),(f9 j u v).length<=i->j.length<=i\/u.length<=i\/v.length<=i
 |y::t0,z::t1,B::t2,0,h=>by simp[f9] at h
 | y::t0,z::t1,B::t2,i+1,h=>by
   have:=rM t0 t1 t2 i (by simpa[f9] using h)
   simpa using this
 |[],_,_,i,h=>`s
 |_::_,[],_,i,h=>`s
 |_::_,_::_,[],i,h=>`s
noncomputable def EL {fa:Fa}{K:Qf}{μ:Mu}{H:Hp}:∀{es:List D}{ws:List V},es.length=ws.length->(∀(j:Nat) e w,es[j]?=some e->ws[j]?=some w->Rep fa K μ H e w)->aO fa K μ H es ws
 |[],[],_,_=>rfl
 |e::es,w::ws,hl,h=>{w,ws,rfl,h 0 e w rfl rfl,EL (by simpa using hl) λj e w=>h (j+1) e w}
def ub {fa:Fa}{X:Cx}{μ0:Mu}{H0:Hp}{l:kg}{w:Walk} (Y:∀μ H M ds,ExtW μ0 H0 μ H->RelM fa X.K μ H M->w M=some ds->∃ys:List (List D),ys.length=l.length/\(∀(j:Nat) y b a,ys[j]?=some y->l[j]?=some (b,a)->∃vs,jv X.K H b a vs/\aO fa X.K μ H y vs)/\
 (∀(i:Nat) d,ds[i]?=some d->∃es,d=.tup es/\es.map some=ys.map (·[i]?))/\∀i,ds.length<=i->∃y∈ys,y.length<=i):eD fa X.K μ0 H0 w (FU X.K l):=λμ H M ds x L e=>by
 obtain⟨ys,hl,B,hd,he⟩:=Y μ H M ds x L e;have at_:∀(j:Nat) b a,l[j]?=some (b,a)->∃y vs,ys[j]?=some y/\jv X.K H b a vs/\aO fa X.K μ H y vs:=λj b a e=>by
  have hj:=(Qg.mp e).1;have u:=QA (l:=ys) (i:=j) `a
  obtain⟨vs,q,r⟩:=B j _ b a u e;exact{_,vs,u,q,r}
 refine{λi d O=>?_,λi O=>{λj b a e=>?_,?_}}
 ·obtain⟨es,rfl,F⟩:=hd i d O;have J:∀{j:Nat}{y:List D},ys[j]?=some y->es[j]?.map some=some y[i]?:=λ{j y} u=>by
   have:=congrArg (·[j]?) F;simpa[u] using this
  have le:es.length=l.length:=by have:=congrArg List.length F;simpa[hl] using this
  have S:∀(j:Nat) b a,l[j]?=some (b,a)->∃vs e v,es[j]?=some e/\jv X.K H b a vs/\vs[i]?=some v/\Rep fa X.K μ H e v:=λj b a e=>by
   obtain⟨y,vs,u,q,r⟩:=at_ j b a e;have z:=J u;cases h:es[j]? with
   |none=>rw[h] at z;cases z
   | some e=>
     rw[h] at z;obtain⟨v,B,R⟩:=r.get (Qp z).symm;exact⟨vs,e,v,rfl,q,B,R⟩
  refine{λj b a e=>?_,λy H' ⟨p,zs,P,u,U,lz,t⟩=>?_}
  ·obtain⟨vs,_,v,_,q,B,_⟩:=S j b a e;exact⟨vs,v,q,B⟩
  subst U u;refine{Ext.alloc L P,L.alloc P,p,zs,rfl,.inl (.inl bR),EL (le.trans lz.symm) λj e w F W=>?_};have I:=QA (l:=l) (i:=j) (by have:=(Qg.mp F).1;omega)
  obtain⟨vs,e',v,h1,q,B,R⟩:=S j _ _ I;have z:=t j _ _ I vs q;rw[W,B] at z;rw[F] at h1;cases z;cases h1;exact R.ext (Ext.alloc L P)
 ·obtain⟨_,vs,_,q,_⟩:=at_ j b a e;exact⟨vs,q⟩
 ·obtain⟨y,hy,ly⟩:=he i O;obtain⟨j,J⟩:=List.getElem?_of_mem hy;have I:=QA (l:=l) (i:=j) (by have:=(Qg.mp J).1;omega)
  obtain⟨vs,q,r⟩:=B j y _ _ J I;exact{j,_,_,vs,I,q,by rw[r.length];exact ly}
section
variable{fa:Fa}{X:Cx}{μ0:Mu}{H0:Hp}{d0 d1 d2:D}{a0 a1 a2:Nat}(r0:Rep fa X.K μ0 H0 d0 (.ref a0))(r1:Rep fa X.K μ0 H0 d1 (.ref a1))(r2:Rep fa X.K μ0 H0 d2 (.ref a2))
include r0 r1
theorem zq:eD fa X.K μ0 H0 (pG d0 d1) (FU X.K [(eY d0,a0),(eY d1,a1)]):=ub λR H M O x F e=>by
 obtain⟨v,L,e⟩:=Rb.mp e;obtain⟨B,s1,rfl⟩:=Qr.mp e;refine{[v,B],rfl,λj y b a u h=>?_,λi d hd=>?_,λi J=>?_}
 ·match j,u,h with
  |0,u,h=>cases u;cases h;exact gV F (Rep.extW x r0) L
  |1,u,h=>cases u;cases h;exact gV F (Rep.extW x r1) s1
 ·obtain⟨P,e1,I,h1,rfl⟩:=(t9 v B i d).mp hd;exact{_,rfl,by simp[I,h1]}
 ·rcases t8 v B i J with z|z<;>exact{_,`s,z}
include r2
theorem zp:eD fa X.K μ0 H0 (pF d0 d1 d2) (FU X.K [(eY d0,a0),(eY d1,a1),(eY d2,a2)]):=ub λS H M P x v e=>by
 obtain⟨B,O,e⟩:=Rb.mp e;obtain⟨F,s1,e⟩:=Rb.mp e;obtain⟨I,s2,rfl⟩:=Qr.mp e;refine{[B,F,I],rfl,λj y b a u h=>?_,λi d hd=>?_,λi L=>?_}
 ·match j,u,h with
  |0,u,h=>cases u;cases h;exact gV v (Rep.extW x r0) O
  |1,u,h=>cases u;cases h;exact gV v (Rep.extW x r1) s1
  |2,u,h=>cases u;cases h;exact gV v (Rep.extW x r2) s2
 ·obtain⟨R,e1,e2,J,h1,h2,rfl⟩:=(rN B F I i d).mp hd;exact{_,rfl,by simp[J,h1,h2]}
 ·rcases rM B F I i L with z|z|z<;>exact{_,`s,z}
end
set_option tactic.hygienic true in
def HZ {fa:Fa}{X:Cx}{B:List Expr}{kk:Nat}{tp p pos:Pos}{Y e1:Expr}{g0 g1:Env->Mem->Res D}(h0:DE fa X Y g0)(h1:DE fa X e1 g1)(hg:Gl X "zip")(hm:X.mg "zip"=none)
 (F:starEach [Y,e1] X.env=[(false,eval Y X.env),(false,eval e1 X.env)]) (v:starEach [e1] X.env=[(false,eval e1 X.env)]):DI fa X (.Tuple B kk tp) (.Call (.Name "zip" p) [Y,e1] [] pos) (nK g0 g1):=by
 rintro O s σ H R I ⟨μ,Z,M,hE,hM,h⟩;obtain⟨d0,M0,c0,t0⟩:=aT h;obtain⟨d1,M1,c1,t1⟩:=aT t0;split at t1
 ·next J=>
  simp only[Qh] at J;obtain⟨hq0,hq1⟩:=J;refine Call_ (iq I hg hm boot_zip (Ro (aY (bS h0 (bS h1 eA v) (by rw[F,v]) pos O s σ H (λvs y=>∃U W u,vs=[U,W]/\Ext μ H u y/\RelM fa X.K u y M1/\Rep fa X.K u y d0 U/\Rep fa X.K u y d1 W) I ?_) λus s1 ⟨vs,y,z,r1,U,W,u,ev,x1,L,P,S⟩=>?_) (by rw[F,v]) (by rw[v];rfl)))
  ·refine{μ,Z,M,hE,hM,?_};rw[c0];intro U y u x1 L r0;refine{u,Z,M0,(hE.ext x1),L,?_};rw[c1];intro W H2 μ2 x2 m2 r1;exact{U,W,μ2,rfl,(x1.trans x2),m2,(r0.ext x2),r1}
  subst ev;obtain⟨a0,its0,rfl,z0⟩:=iQ z L P hq0;obtain⟨a1,its1,rfl,z1⟩:=iQ z L S hq1;cases r1 with
  | cons y0 r1=>
    cases r1 with
    | cons y1 r1=>
      cases r1;obtain rfl:=y0;obtain rfl:=y1;refine BE z0 z1 λh1 za hk=>?_;have I2:=z.kept (t':=s1.toks) hk;refine wpAny_pyIter_zip za.1 ?_;refine{s1.heap.objs.size+2+2,Ei s1.heap.objs.size 1,_,_,y,rfl,I2,uc s1.heap.objs.size 1 [(eY d0,a0),(eY d1,a1)] rfl `d (λj b a e=>match j,e with
       |0,e=>by cases e;exact z0.lt
       |1,e=>by cases e;exact z1.lt),za,λb hb=>?_,t1 _ y u x1 L (zq P S)}
      have hb:=(ef.mp hb).1;exact z.fpOk hb (z.hok.fresh hb)
 ·exact t1.elim
set_option tactic.hygienic true in
def HY {fa:Fa}{X:Cx}{F:List Expr}{kk:Nat}{tp p pos:Pos}{e0 e1 e2:Expr}{g0 g1 g2:Env->Mem->Res D}(h0:DE fa X e0 g0)(h1:DE fa X e1 g1)(h2:DE fa X e2 g2)(hg:Gl X "zip")(hm:X.mg "zip"=none)
 (J:starEach [e0,e1,e2] X.env=[(false,eval e0 X.env),(false,eval e1 X.env),(false,eval e2 X.env)]) (y:starEach [e1,e2] X.env=[(false,eval e1 X.env),(false,eval e2 X.env)]) (L:starEach [e2] X.env=[(false,eval e2 X.env)]):DI fa X (.Tuple F kk tp) (.Call (.Name "zip" p) [e0,e1,e2] [] pos) (qo g0 g1 g2):=by
 rintro P s σ H R I ⟨μ,Z,M,hE,hM,h⟩;obtain⟨d0,M0,c0,t0⟩:=aT h;obtain⟨d1,M1,c1,t1⟩:=aT t0;obtain⟨d2,M2,c2,t2⟩:=aT t1;split at t2
 ·next O=>
  simp only[Qh,and_assoc] at O;obtain⟨hq0,hq1,hq2⟩:=O;refine Call_ (iq I hg hm boot_zip (Ro (aY (bS h0 (bS h1 (bS h2 eA L) (by rw[y,L])) (by rw[J,y]) pos P s σ H (λvs v=>∃Y v1 v2 u,vs=[Y,v1,v2]/\Ext μ H u v/\RelM fa X.K u v M2/\Rep fa X.K u v d0 Y/\Rep fa X.K u v d1 v1/\Rep fa X.K u v d2 v2) I ?_) λus s1 ⟨vs,v,z,r1,Y,v1,v2,u,ev,x1,B,S,U,W⟩=>?_) (by rw[J,y]) (by rw[y];rfl)))
  ·refine{μ,Z,M,hE,hM,?_};rw[c0];intro Y v u x1 B r0;refine{u,Z,M0,(hE.ext x1),B,?_};rw[c1];intro v1 H2 μ2 x2 m2 r1;refine{μ2,Z,M1,((hE.ext x1).ext x2),m2,?_};rw[c2];intro v2 H3 μ3 x3 m3 r2;exact{Y,v1,v2,μ3,rfl,((x1.trans x2).trans x3),m3,((r0.ext x2).ext x3),(r1.ext x3),r2}
  subst ev;obtain⟨a0,its0,rfl,z0⟩:=iQ z B S hq0;obtain⟨a1,its1,rfl,z1⟩:=iQ z B U hq1;obtain⟨a2,its2,rfl,z2⟩:=iQ z B W hq2;cases r1 with
  | cons y0 r1=>
    cases r1 with
    | cons y1 r1=>
      cases r1 with
      | cons y2 r1=>
        cases r1;obtain rfl:=y0;obtain rfl:=y1;obtain rfl:=y2;refine BD z0 z1 z2 λh1 za hk=>?_;have I2:=z.kept (t':=s1.toks) hk;refine wpAny_pyIter_zip za.1 ?_;refine{s1.heap.objs.size+3+2,Ei s1.heap.objs.size 2,_,_,v,rfl,I2,uc s1.heap.objs.size 2 [(eY d0,a0),(eY d1,a1),(eY d2,a2)] rfl `d (λj b a e=>match j,e with
         |0,e=>by cases e;exact z0.lt
         |1,e=>by cases e;exact z1.lt
         |2,e=>by cases e;exact z2.lt),za,λb hb=>?_,t2 _ v u x1 B (zp S U W)}
        have hb:=(ef.mp hb).1;exact z.fpOk hb (z.hok.fresh hb)
 ·exact t2.elim
noncomputable def yN (h:Addr):Obj:={cls:=.type "enumerate",data:=.fields #[.none,.bool false,.ref h,rawInt 0,.none,.none]}
set_option tactic.hygienic true in
def AV (l:Addr)(us:Array Qj)(n:Nat)(dct:Option Addr)(sl:Array (Option Qj)) :
 Meets (Builtin.«enumerate.__new__» {[.type "enumerate",.ref l],[]}) (λ_ R s=>s.heap.get? l=some {.type "tuple",dct,.seq us n,sl}/\
  R (.ok (.ret (.ref (s.heap.push (eX false l)).objs.size))) {s with heap:=(s.heap.push (eX false l)).push (yN s.heap.objs.size)}):=
 .of_wp λprog w A R s h=>by
  obtain⟨v,g,d,tk,os⟩:=s;obtain⟨j,h⟩:=h;have q:=sub_enumerate;have u:Heap.IsTuple (Shared.heap ⟨v,g,d,tk,os⟩) l us:={_,j,rfl,n,rfl};wp_walk using AutoSeq1.wpAny_loadPart' j
  refine wpAny_stack_any λ_=>tqb ?_;split
  ·rename_i c _ _ _ _ _;cases (c==Value.type "enumerate")<;>
   ·wp_walk using AutoSeq1.wpAny_loadPart' j,wpAny_pyIter_tuple u
    exact{_,rfl,h}
  ·wp_walk using AutoSeq1.wpAny_loadPart' j,wpAny_pyIter_tuple u
   exact{_,rfl,h}
section
variable{prog:Q0}{w:QX}{A:Rz}{E:Qj->Qn->Prop}{s:Qn}
def D4 (u:bO b s.heap l us)
 (h:∀j,IsEnum j (s.heap.objs.size+1) s.heap.objs.size 0 .none->fC b j s.heap.objs.size l 0->(∀c o,s.heap.get? c=some o->j.get? c=some o)->Q (.ref (s.heap.objs.size+1)) {s with heap:=j}):wpAny (model prog w) A (call (.type "enumerate") [.ref l]) Q E s:=by
 cases b with
 |true=>exact call_enumerate_list u λj e i _ k=>h j e i k
 | false=>
   obtain⟨⟨c,dct,B,sl⟩,z,y,n,hd⟩:=u;cases y;cases hd;refine callType_new F.called_enumerate `d (F.typeCall_enumerate_1 _) (F.newCall_enumerate_1 _) (λo=>F.args_object_init_2 o _) F.entry_enumerate_new (AV l us n dct sl) {z,?_}
   have v:(s.heap.push (eX false l)).objs.size=s.heap.objs.size+1:=R0 ..;rw[v];have he:IsEnum ((s.heap.push (eX false l)).push (yN s.heap.objs.size)) (s.heap.objs.size+1) s.heap.objs.size 0 .none:=by
    have:=QD (s.heap.push (eX false l)) (o:=yN s.heap.objs.size) rfl;rw[v] at this;exact this
   exact{{_,he,rfl},h _ he (fC.new (Qi _ (QD _ rfl))) λc o x=>Qi _ (Qi _ x)}
def LI (hh:A.handled=none)(y:l≠it)(us:Array Qj):Draws prog w A it [it,l] us.size (λi v=>us[i]?=some v) (λi h=>fC b h it l i/\bO b h l us) where
 live:=λ_ _ st=>let{o,ho,_}:=st.1.obj;⟨o,ho⟩
 frame:=λ_ _ _ st hk=>{st.1.at λo e=>hk it `s o e,st.2.at λo e=>hk l `s o e}
 item:=λi s Q E J st I=>jD hh st.1 st.2 (λx F u B j=>I _ F s.toks u {B,st.2.extBut j.extBut y} j) λz=>by rw[Array.getElem?_eq_getElem J] at z;cases z
 done:=λs Q E st H=>jD hh st.1 st.2 (λx F u=>by rw[Array.getElem?_eq_none (Qo _)] at u;cases u) λ_=>H
def LH (hh:A.handled=none)(v:us[i]?=none):Draws prog w A it [it,l] i (λ_ _=>True) (λk h=>k=i/\fC b h it l i/\bO b h l us) where
 live:=λ_ _ st=>let{o,ho,_}:=st.2.1.obj;⟨o,ho⟩
 frame:=λ_ _ _ st hk=>{st.1,st.2.1.at λo e=>hk it `s o e,st.2.2.at λo e=>hk l `s o e}
 item:=λk s Q E u st z=>absurd st.1 (Q3 u)
 done:=λs Q E st j=>jD hh st.2.1 st.2.2 (λx y e=>by rw[v] at e;cases e) λ_=>j
def Nt {P:Nat->Qj->Prop}{St:Nat->Heap->Prop}(D:Draws prog w A it fp n P St)(k:Nat):Draws prog w A it fp (k+n) (λj=>P (j-k)) (λj h=>k<=j/\St (j-k) h) where
 live:=λ_ _ st=>D.live _ _ st.2
 frame:=λ_ _ _ st hk=>{st.1,D.frame _ _ _ st.2 hk}
 item:=λj s Q E B st y=>D.item (j-k) s Q E (by have:=st.1;omega) st.2 λx u tk z hs=>y x u tk z {Nat.le_succ_of_le st.1,by rw[Nat.succ_sub st.1];exact hs}
 done:=λs Q E st v=>D.done s Q E (by have:=st.2;rwa [Sh] at this) v
end
noncomputable def Oq (K:Qf)(b:Bool)(a:Addr)(k:Nat):It:=
 {λi H=>∃xs x,jv K H b a xs/\xs[i]?=some x,λi H v h=>∃p x,H p=none/\v=.ref p/\h=upd H p (.tup [.int (k+i:Nat),x])/\∀xs,jv K H b a xs->xs[i]?=some x,λi H=>∃xs,jv K H b a xs/\xs.length<=i}
def zF {K:Qf}(b:Bool)(a L e:Addr)(k:Nat)(M:e≠L)(hna:a≠L)(hea:e≠a) :
 Turn P w K (.Tuple elts kk pos) (Oq K b a k) [e,L] e (λi h=>(∃old,IsEnum h e L (k+i:Nat) old)/\fC b h L a i) where
 mem:=`s
 obj:=λi h ⟨⟨old,he⟩,hi⟩ c B=>by
  rcases Qu.mp B with z|z
  ·subst z;exact{_,he,λv z=>by cases z}
  ·have e:c=L:=by simpa using z
   subst e;exact hi.obj
 keep:=(by rintro i h h' ⟨⟨old,he⟩,st⟩ q;exact{{old,q e `s _ he},st.at λo e=>q L `s o e})
 item:=by
  intro X hP hw hK hc i S s σ H E I hf st hg;subst hP hw hK;obtain⟨xs,x,Y,hx⟩:=hg;obtain⟨⟨old,he⟩,F⟩:=st;obtain⟨J,rv,p⟩:=nu I Y;obtain⟨u,hu,ru⟩:=rv.get hx;have hi:i<J.toArray.size:=by have:=(Qg.mp hu).1;simpa using this
  have R:k+i-k=i:=Sh k i;refine wpAny_pyNext_enum_itemD (Nt (LI (A:=X.A.in1) (I.ok.hd hc) hna J.toArray) k) he {Nat.le_add_right k i,by rw[R];exact⟨F,p⟩} (Nat.add_lt_add_left hi k) M (by simp[M,hea]) λU h1 tk y ho j hT hsz hk=>{_,rfl,?_}
  rw[R] at y;replace j:=j.2;rw[show k+i+1-k=i+1 from Sh k (i+1)] at j;have eu:U=u:=by
   have y:J[i]?=some U:=by simpa using y
   rw[hu] at y;exact(Qp y).symm
  subst eu;have hT0:=I.hok.fresh (Qo _);have Q:=Qy he;refine wpAny_letOwnedTupleGo_enum ho λh2 he2 O=>?_;have hT2:h2.get? s.heap.objs.size=some {cls:=.type "tuple",data:=.seq #[.int (k+i:Nat) tk,U]}:=(O.2 _ (Rv Q)).trans hT;refine{.ref s.heap.objs.size,upd H s.heap.objs.size (.tup [.int (k+i:Nat),x]),rR (s:=s) I hf (λc o B q=>(O.2 c (λz=>B (by simp[z]))).trans (hk c o (λz=>B (by simp[z])) (λz=>B (by simp[z])) q)) (Qo _) {?_,[.int (k+i:Nat) tk,U],.cons {_,rfl} (.cons ru .nil),{_,hT2,rfl,_,rfl}},rfl,
   {_,x,hT0,rfl,rfl,λys hy=>by rw[lN I hy Y];exact hx},{⟨U,he2⟩,j.1.extBut O.extBut (Ru M)},λc B=>?_}
  ·show 2<=sizeLine;decide
  ·have:c<s.heap.objs.size:=by
    rcases Qu.mp B with z|z
    ·subst z;exact Q
    ·have e:c=L:=by simpa using z
     subst e;obtain⟨o,e,_⟩:=F.obj;exact Qy e
   rw[aI (Q3 this)];exact(hf c B).1
 done:=by
  intro X hP hw hK hc i S s σ H E I hf st hg;subst hP hw hK;obtain⟨xs,Y,hx⟩:=hg;obtain⟨⟨old,he⟩,F⟩:=st;obtain⟨J,rv,p⟩:=nu I Y;have hl:=rv.length;exact wpAny_pyNext_enum_endD (LH (A:=X.A.in1) (I.ok.hd hc) `o) he ⟨rfl,F,p⟩ λh' eb=>{rfl,wj I hf λc o B q=>eb c o (λz=>B (by simp[z])) q}
 self:=(by rintro _ _ _ _ _ ⟨⟨old,he⟩,_⟩ h;exact wpAny_pyIter_enum he h)
section
variable{fa:Fa}{X:Cx}{a:Expr}{ga:Env->Mem->Res D}{pos p:Pos}
def zu {ad:Addr}{k:Nat}(h:Rep fa X.K μ0 H0 dd (.ref ad)):eD fa X.K μ0 H0 (λM=>(b7 M dd).map (dH k)) (Oq X.K (eY dd) ad k):=λY H M W x j e=>by
 dsimp only at e;cases u:b7 M dd with
 |none=>rw[u] at e;cases e
 | some I=>
   rw[u] at e;have e:=Qp e;subst e;obtain⟨F,s,r⟩:=gV j (Rep.extW x h) u;refine{λi d hd=>?_,λi P=>{F,s,by rw[r.length,<- dm I k];exact P}}
   rw[cj] at hd;cases e1:I[i]? with
   |none=>rw[e1] at hd;cases hd
   | some U=>
     rw[e1] at hd;have hd:=Qp hd;subst hd;obtain⟨v,J,R⟩:=r.get e1;refine{⟨F,v,s,J⟩,λy S ⟨q,z,B,O,L,Q⟩=>?_};have:=Q F s;rw[J] at this;cases this;subst L O;refine{Ext.alloc j B,j.alloc B,q,[.int (k+i:Nat),v],rfl,.inl (.inl bR),.int (k+i:Nat),[v],rfl,rfl,v,[],rfl,R.ext (Ext.alloc j B),rfl}
def gr (ga:Env->Mem->Res D):Env->Mem->Res Walk:=λh M=>(ga h M).bind λx M=>if dN x=true then .ok (λM=>(b7 M x).map (dH 0)) M else .bad
def Ia {B:List Expr}(ha:DE fa X a ga)(hg:Gl X "enumerate")(hm:X.mg "enumerate"=none)(hs:starEach [a] X.env=[(false,eval a X.env)]):DI fa X (.Tuple B kk tp) (.Call (.Name "enumerate" p) [a] [] pos) (gr ga):=by
 rintro F s σ H R I ⟨Y,Z,M,hE,hM,h⟩;obtain⟨x,M1,e,q⟩:=aT h;cases Q:dN x with
 |false=>rw[Q] at q;exact q.elim
 |true=>
 rw[Q] at q;refine Call_ (iq I hg hm boot_enumerate (Ro (aY (bS ha eA hs pos F s σ H (λW u=>∃v j,W=[v]/\Ext Y H j u/\RelM fa X.K j u M1/\Rep fa X.K j u x v) I {Y,Z,M,hE,hM,?_}) λus s1 ⟨W,u,J,r1,v,j,ev,S,O,U⟩=>?_) hs rfl))
 ·rw[e];exact λv u j S O r1=>⟨v,j,rfl,S,O,r1⟩
 subst ev;obtain⟨ad,its,rfl,p1⟩:=iQ J O U Q;cases r1 with
 | cons r1 rr=>
   cases rr;obtain rfl:=r1;have y:=p1.lt;refine D4 p1 λh1 he P hk=>?_;have I2:=J.kept (t':=s1.toks) hk;refine wpAny_pyIter_enum he ?_;refine{s1.heap.objs.size+1,[s1.heap.objs.size+1,s1.heap.objs.size],_,_,u,rfl,I2,zF (eY x) ad s1.heap.objs.size (s1.heap.objs.size+1) 0 (Nat.succ_ne_self _) (Q3 y) (Rv (Nat.lt_succ_of_lt y)),{{.none,he},P},λb L=>?_,q _ u j S O (zu U)};have L:s1.heap.objs.size<=b:=by
    rcases Qu.mp L with z|z
    ·subst z;exact Sg _
    ·have e:b=s1.heap.objs.size:=by simpa using z
     subst e;exact Qo _
   exact J.fpOk L (J.hok.fresh L)
end
abbrev GE:=Env->Mem->Res D
abbrev GT:=Env->Mem->Res Bool
abbrev GA:=Env->Mem->Res (List D)
abbrev GW:=Env->Mem->Res Walk
abbrev GS:=Env->Mem->Res Fl
abbrev GB:=Env->List D->Mem->Res (List D)
abbrev Call:=Nat->List D->Mem->Res D
def aa (i:Nat):GE:=λh M=>b8 M (h[i]?.getD none)
noncomputable def gC (d:D):GE:=λ_ M=>.ok d M
def ak (m:Bool)(o:oA)(a b:GE):GE:=λh M=>(a h M).bind λx M=>(b h M).bind λy M=>fM m o x y M
def az (o:kj)(a b:GE):GE:=λh M=>(a h M).bind λx M=>(b h M).bind λy M=>(b8 M (br o x y M)).bind λb M=>.ok (.bl b) M
def j8 (o j:kj)(a b c:GE):GE:=λh M=>(a h M).bind λx M=>(b h M).bind λy M=>(b8 M (br o x y M)).bind λk M=>
 if k then(c h M).bind λz M=>(b8 M (br j y z M)).bind λb M=>.ok (.bl b) M else .ok (.bl false) M
def dZ (a:GE):GE:=λh M=>(a h M).bind λx M=>match x with|.int i=>.ok (.int (-i)) M|_=>.bad
def dv (a b:GE):GE:=λh M=>(a h M).bind λx M=>match x with|.bl true=>b h M|.bl false=>.ok (.bl false) M|_=>.bad
def Oo (a b:GE):GE:=λh M=>(a h M).bind λx M=>match x with|.bl true=>.ok (.bl true) M|.bl false=>b h M|_=>.bad
def Lj (a:GE):GE:=λh M=>(a h M).bind λx M=>match x with|.bl k=>.ok (.bl (!k)) M|_=>.bad
def cT (t:GT)(a b:GE):GE:=λh M=>(t h M).bind λk M=>if k then a h M else b h M
def av (a b:GE):GE:=λh M=>(a h M).bind λx M=>(b h M).bind λy M=>b8 M (bP x y M)
def bG (m hl hh:Bool)(a lo hi:GE):GE:=λj M=>(a j M).bind λx M=>(lo j M).bind λl M=>(hi j M).bind λh M=>if cv hl l&&cv hh h then cM m x l h M else .bad
noncomputable def b9:GA:=λ_ M=>.ok [] M
def ix (a:GE)(s:GA):GA:=λh M=>(a h M).bind λx M=>(s h M).bind λxs M=>.ok (x::xs) M
def bc (s:GA):GE:=λh M=>(s h M).bind lU
def aG (m:Bool)(s:GA):GE:=λh M=>(s h M).bind (bu m)
def ai (f:Nat)(c:Call)(s:GA):GE:=λj M=>(s j M).bind λh M=>c f h M
def mT (i:Nat)(c:Call)(s:GA):GE:=λh M=>match h[i]?.getD none with|some (.fn f)=>(s h M).bind λj M=>c f j M|_=>.bad
def aH (f:xK)(s:GA):GE:=λj M=>(s j M).bind λh M=>eQ f h M
def bD (t:Ty)(a:GE):GE:=λh M=>(a h M).bind λx M=>(b8 M (bY t x)).bind λb M=>.ok (.bl b) M
def ao (a:GE):GT:=λh M=>(a h M).bind λx M=>b8 M (kM M x)
def gU (a b:GT):GT:=λh M=>(a h M).bind λk M=>if k then b h M else .ok false M
def cq (a b:GT):GT:=λh M=>(a h M).bind λk M=>if k then .ok true M else b h M
def bB (a:GT):GT:=λh M=>(a h M).bind λk M=>.ok (!k) M
def aw (t:gG)(a:GE):GS:=λj M=>(a j M).bind λx M=>(b8 M (cy t x j)).bind λh M=>.ok (.next h) M
def fe (a b d:GE):GS:=λh M=>(d h M).bind λz M=>(a h M).bind λx M=>(b h M).bind λy M=>match x,y with
 | .cell k,.int n=>match M[k]? with
   | some u=>match bC u.length n with
     |some j=>.ok (.next h) (M.set k (u.set j z))
     |none=>.bad
   |none=>.bad
 |_,_=>.bad
def iR (a d:GE):GS:=λh M=>(a h M).bind λx M=>(d h M).bind λz M=>match x with
 | .cell k=>match M[k]? with
   |some j=>if j.length<sz then .ok (.next h) (M.set k (j++[z])) else .bad
   |none=>.bad
 |_=>.bad
def sEx (a:GE):GS:=λh M=>(a h M).bind λ_ M=>.ok (.next h) M
def aD (a:GE):GS:=λh M=>(a h M).bind λx M=>.ok (.ret x) M
noncomputable def EJ:GS:=λ_ M=>.ok (.ret .non) M
def EK:GS:=λh M=>.ok (.next h) M
def OO:GS:=λ_ _=>.bad
def aL (c:GT)(a b:GS):GS:=λh M=>(c h M).bind λk M=>if k then a h M else b h M
def cS (t:gG)(w:GW)(b:GS):GS:=λh M=>(w h M).bind λw M=>dU (i8 t b) w (.next h) M
def aB:GS:=λh M=>.ok (.next h) M
noncomputable def aC (a b:GS):GS:=λh M=>(a h M).bind λfl M=>match fl with
 |.next h=>b h M
 |fl=>.ok fl M
noncomputable def notStar:Expr->Bool
 |.Starred _ _=>false
 |_=>true
def bI (h:notStar a=true):starEach (a::es) env=(false,eval a env)::starEach es env:=by
 cases a<;>first|rfl|cases h
noncomputable def dQ:∀{es:List Expr},es.all notStar=true->(backTo pos (starEach es env)).any (·.1)=false
 |[],_=>rfl
 | a::es,h=>by
   simp only[Q7,Qh] at h;have j:=dQ (pos:=pos) (env:=env) h.2;rw[bI h.1];simpa[backTo] using j
section
variable{fa:Fa}{X:Cx}{a b d:Expr}{ga gb gd:GE}{ta tb:GT}{pos p:Pos}{es:List Expr}{gs:GA}{n:Nat}
def JD {i:Int}(h:Gl X x)(hm:X.mg x=some (.int i t))(hd:(x==("__debug__":Str))=false):DE fa X (.Name x pos) (gC (.int i)):=jS (v:=.int i) (iT h hm ⟨t,rfl⟩ hd) λ_ _=>rfl
end
structure Df where
 params:Nat
 slots:Nat
 body:Call->GS
noncomputable def Px:Fl->Mem->Res D
 |.ret d,M=>.ok d M
 |.next _,M=>.ok .non M
 |.exc x _,M=>.err x M
def Pw:Res Fl->Res D
 |.ok fl M=>Px fl M
 |_=>.bad
def gW (c:Call)(d:Df)(ds:List D)(M:Mem):Res D:=if ds.length=d.params then Pw (d.body c (ds.map some++List.replicate (d.slots-ds.length) none) M) else .bad
noncomputable def ah (P:Nat->Option Df):Nat->Call
 |0,_,_,_=>.bad
 | n+1,f,h,M=>match P f with
   |none=>.bad
   |some d=>gW (ah P n) d h M
structure zf (K:Qf) (x qual:Str) (st:Stmt) (f:Addr) (fd:FuncData):Prop where
 ex:∃(oc:Qj) (od:Option Addr) (dV kV doc pm:Qj) (an:Option Addr) (cdv ct:Qj) (osl:Array (Option Qj)),
  fd=PySem.W.fnOf x qual (dO st) (cf st) (aN st) dV kV doc pm an cdv ct/\K.lookup f=some {oc,od,.func fd,osl}/\PySem.W.codeIn K cdv qual=true
 kp:PySem.W.keepIn K (.ref f)=true
def oz.toD {K:Qf}{st:Stmt}(F:oz K x qual st f fd):zf K x qual st f fd:=let⟨oc,od,kV,j,pm,v,h,ct,u,r⟩:=F.ex;{{oc,od,.none,kV,j,pm,v,h,ct,u,r},F.kp}
structure zg (fa:Fa) (P:Q0) (w:QX) (K:Qf) (mg:Str->Option Qj) (base:Heap) (f:Nat) (d:Df):Prop where
 ex:∃(ad:Addr) (fd:FuncData) (ps N:List Str) (st:Stmt) (x qual:Str),fa f=some ad/\zf K x qual st ad fd/\Binds K fd ps []/\((fa (500+f)).isSome=true->Binds K fd ps [.none])/\hR N ps (aN st)/\d.params=ps.length/\d.slots=N.length/\
  ∀(call:Call) (n:Nat) (cdv:Qj) (A:Rz) (outer:List RE) (s:Qn) (H:Hp) (E:XK),(∀f,jw fa P w K mg base n f (call f))->cF (2*n+5) (A.deeper (envOfC qual (aN st) s.heap.objs.size ad cdv))->
   kK fa (fy (gJ P w) P w K mg base N qual (aN st) ad cdv A outer s H E) (cf st) (d.body call)
def zN {K:Qf}(h:aO fa K μ H ds vs):bx fa K μ H (L2.start N vs) (ds.map some++List.replicate (N.length-ds.length) none):=by
 have hl:=h.length;refine{by unfold L2.start;simp[hl],λi d e=>?_}
 by_cases j:i<ds.length
 ·rw[QR (by simpa using j),QK] at e
  cases e1:ds[i]? with
  |none=>rw[e1] at e;cases e
  | some z=>
    rw[e1] at e;cases e;obtain⟨v,u,y⟩:=h.get e1;refine{v,?_,y};unfold L2.start;rw[QR `o,QK,u]
    rfl
 ·rw[Rq `o,RZ] at e
  split at e<;>cases e
def ri {K:Qf}{st:Stmt}(F:zf K x qual st f fd)(S:hR N ps (aN st))(len:∀vs H Q E,sp vs H Q E->vs.length=ps.length)
 (j:∀(h:Qj) (A:Rz) (outer:List RE) (s:Qn) (H:Hp) (vs:List V) (Q:VK) (E:XK),cF k (A.deeper (envOfC qual (aN st) s.heap.objs.size f h))->sp vs H Q E->
  ∃t,mr (fy (gJ P w) P w K mg base N qual (aN st) f h A outer s H E) (cf st) t/\t {nx:=λ_ y=>Q .non y,rt:=Q} (start N vs) H):kY P w K mg base (gJ P w) (k+1) f fd ps sp:=by
 obtain⟨oc,od,dV,kV,z,pm,I,h,ct,B,rfl,lk,u⟩:=F.ex;exact Nj lk u S len λA outer s H vs Q E hr v=>j h A outer s H vs Q E hr v
set_option tactic.hygienic true in
def sO {K:Qf}
 (hs:d.slots=N.length) (L:RelM fa K μ H M) (hr:aO fa K μ H ds vs) (h:iJ (gW c d ds M) (bw fa K μ H Q) (FQ fa K μ H E)):tF fa (fy (gJ P w) P w K mg base N qual scope f cd A outer s H E) (d.body c) {nx:=λ_ u=>Q .non u,rt:=Q} (start N vs) H:=by
 unfold gW at h;split at h
 ·refine{μ,_,M,zN hr,L,?_};rw[<- hs];cases e1:d.body c (ds.map some++List.replicate (d.slots-ds.length) none) M with
  | ok fl U=>
    rw[e1] at h;cases fl with
    | next z=>
      have v:=h;exact λB u j S Y R=>v .non u j S R rfl
    |ret d=>exact h
    | exc x z=>
      have v:=h;exact λF B u j s' a C J c p I y _ m ex O hn fl=>Di I fl (v C J c p u j y m ex O hn)
  |err=>rw[e1] at h;exact h.elim
  |bad=>rw[e1] at h;exact h.elim
 ·exact h.elim
theorem vM {P:Q0}{w:QX}{K:Qf}(h:∀f d,Pg f=some d->zg fa P w K mg base f d):∀(n f:Nat),jw fa P w K mg base n f (ah Pg n f)
 |0,f=>.inl λ_ _=>rfl
 | n+1,f=>by
   have U:=vM h n;cases e:Pg f with
   |none=>exact .inl λj M=>by show(match Pg f with|none=>Res.bad|some d=>gW (ah Pg n) d j M)=Res.bad;rw[e]
   | some d=>
     have eq:∀j M,ah Pg (n+1) f j M=gW (ah Pg n) d j M:=λj M=>by show(match Pg f with|none=>Res.bad|some d=>gW (ah Pg n) d j M)=_;rw[e]
     obtain⟨ad,J,ps,N,st,x,I,h1,F,O,z,S,R,hs,u⟩:=(h f d e).ex;refine .inr {ad,J,ps,h1,F.kp,O,λj M hl=>?_,?_,z}
     ·rw[eq];unfold gW;rw[if_neg (by rw[R];exact hl)]
     ·refine ri F S (λY H Q E v=>v.1) λy A outer s H Y Q E hr v=>{_,u (ah Pg n) n y A outer s H E U hr,?_};obtain⟨hl,μ,M,j,L,hr,B⟩:=v;rw[eq] at B;exact sO hs L hr B
def pE (P:RJ)(e:RU)(h:Str×Addr):Prop:=∃t,e={PyData.keyHash P h.1,.str h.1 t,.ref h.2}
structure gx (K:Qf) (P:RJ) (a:Addr) (kvs:List (Str×Addr)):Prop where
 ex:∃(es:Array RU) (n:Nat),K.lookup a=some {cls:=.type "dict",data:=.dict es n}/\R5 (pE P) es.toList kvs
 nd:(kvs.map (·.1)).Nodup
 ns:(a==sysModules)=false
def xj (kvs:List (Str×Addr)):List (Key×Qj):=kvs.map λh=>(Sum.inr h.1,.ref h.2)
noncomputable def vB:∀{es:List RU}{kvs:List (Str×Addr)},R5 (pE P) es kvs->∀e∈es,∃x t,e.key=.str x t/\e.hash=PyData.keyHash P x
 |_,_,.nil,e,h=>nomatch h
 | _,_,.cons r t,e,h=>by
   rcases Qu.mp h with z|z
   ·subst z;obtain⟨t,rfl⟩:=r;exact{_,t,rfl,rfl}
   ·exact vB t e z
noncomputable def qv:∀{es:List RU}{kvs:List (Str×Addr)},R5 (pE w.params) es kvs->Pairs (lg prog w) es (xj kvs)
 |_,_,.nil=>.nil
 | e::es,h::kvs,.cons r t=>by
   obtain⟨u,rfl⟩:=r;exact Pairs.cons (kC h.1 u) rfl (qv t)
def vc (I:Inv X pins σ H s)(h:gx X.K X.w.params a kvs):s.heap.DictOf (lg X.prog X.w) a (xj kvs):=by
 obtain⟨j,n,lk,pr⟩:=h.ex;refine{_,j,n,I.kIn _ _ lk,⟨rfl,rfl,rfl⟩,rfl,λe he=>?_,qv pr,?_}
 ·obtain⟨x,t,e1,e2⟩:=vB pr e (by simpa using he)
  exact{Sum.inr x,by rw[e1];exact kC x t,e2}
 ·have e:(xj kvs).map (·.1)=(kvs.map (·.1)).map Sum.inr:=by unfold xj;simp
  rw[e];exact List.Pairwise.map _ (λa b (n:a≠b) z=>n (Sum.inr.inj z)) h.nd
def AZ (kvs:List (Str×Addr))(k:Str):valueAt (xj kvs) (Sum.inr k:Key)=(kvs.lookup k).map Value.ref:=by
 induction kvs with
 |nil=>rfl
 | cons j r h=>
   unfold valueAt xj at h ⊢;rw[Sb,List.find?_cons,QZ];by_cases e:j.1=k
   ·subst e;simp
   ·have e2:decide ((Sum.inr j.1:Key)=Sum.inr k)=false:=decide_eq_false λz=>e (Sum.inr.inj z);have u:=Q8.mpr (Ru e);rw[e2,u];exact h
def eZ (fa:Fa)(kvs:List (Str×Addr))(fs:List (Str×Nat)):Prop:=R5 (λ(p:Str×Addr) (q:Str×Nat)=>p.1=q.1/\fa q.2=some p.2) kvs fs
theorem eZ.look:∀{kvs:List (Str×Addr)}{fs:List (Str×Nat)},eZ fa kvs fs->(fs.lookup k=none/\kvs.lookup k=none)\/∃f ad,fs.lookup k=some f/\kvs.lookup k=some ad/\fa f=some ad
 |_,_,.nil=>.inl ⟨rfl,rfl⟩
 | (x,a)::r,(y,f)::t,.cons ⟨e1,e2⟩ q=>by
   subst e1;rw[QZ,QZ];cases e:k==x with
   |true=>exact .inr ⟨f,a,rfl,rfl,e2⟩
   |false=>exact eZ.look q
def lY (fs:List (Str×Nat))(i:GE):GE:=λh M=>(i h M).bind λd M=>match d with
 |.str k=>b8 M ((fs.lookup k).map D.fn)
 |_=>.bad
def iw (fs:List (Str×Nat))(i:GE):GE:=λh M=>(i h M).bind λd M=>match d with
 |.str k=>.ok (.bl (!(fs.lookup k).isSome)) M
 |_=>.bad
section
variable{fa:Fa}{X:Cx}{a b:Expr}{ga gb:GE}{pos p:Pos}{ad:Addr}{kvs:List (Str×Addr)}{fs:List (Str×Nat)}{x:Str}
def Dt (hd:gx X.K X.w.params ad kvs):lC X (λx y H Q=>∃k v,x=.ref ad/\y=.str k/\kvs.lookup k=some v/\Q (.ref v) H):=by
 intro z j E s P H x y v u Q I M O h hs;obtain⟨k,c,rfl,rfl,hk,q⟩:=h;cases M;obtain⟨t,rfl⟩:=O;have B:=vc I hd;have J:s.TypeIs (.ref ad) "dict":=let{o,_,_,ho,{L,_},_}:=B;⟨o,ho,L⟩
 refine tail_any J PySem.F.slot_dict_getitem.lookup (wpAny_getItem_of (k:=(Sum.inr k:Key)) (kC k t) B.mapOf (v:=.ref c) ?_ ?_) hs
 ·rw[AZ,hk];rfl
 ·exact{.ref c,H,I.tok _,rfl,q}
def uW (hd:gx X.K X.w.params ad kvs):bU X (compareOp .NotIn) (λx y H Q=>∃k,x=.str k/\y=.ref ad/\Q (.bl (!(kvs.lookup k).isSome)) H):=by
 intro j s F H x y v u Q I B E h;obtain⟨k,rfl,rfl,q⟩:=h;obtain⟨t,rfl⟩:=B;cases E;have z:=vc I hd;refine wpAny_notIn_of (k:=(Sum.inr k:Key)) (kC k t) hd.ns z.mapOf ?_;rw[AZ,Option.isSome_map];exact{.bl _,H,I.tok _,rfl,q}
def JF (hd:gx X.K X.w.params ad kvs)(ho:eZ fa kvs fs)(L:Gl X x)(hm:X.mg x=some (.ref ad))(u:(x==("__debug__":Str))=false)(J:DE fa X b gb)(hs:lA b):DE fa X (.Subscript (.Name x p) b pos) (lY fs gb):=
 bJ (EO (Dt hd) (iT (v:=.ref ad) L hm rfl u) J hs) λU H Q ⟨R,S,M,E,I,h⟩=>t1 E I h λd P v z y O F j r1 h1=>by
  cases d with
  | str k=>
    obtain⟨d,e,q⟩:=nA h1;rcases ho.look with⟨e1,_⟩|⟨f,c,e1,e2,B⟩
    ·rw[e1] at e;cases e
    ·rw[e1] at e;cases e;exact{k,c,rfl,r1,e2,q (.ref c) z y O j {c,rfl,.inl B}}
  |_=>exact h1.elim
def C3 {d:D}{P:D->Mem->Prop}(h:ae (match d with|.str k=>Res.ok (.bl (!(fs.lookup k).isSome)) M1|_=>.bad) P):∃k,d=.str k/\P (.bl (!(fs.lookup k).isSome)) M1:=by
 cases d with
 |str k=>exact⟨k,rfl,h⟩
 |_=>exact h.elim
def DQ (ho:eZ fa kvs fs)(k:Str):(kvs.lookup k).isSome=(fs.lookup k).isSome:=by
 rcases ho.look with⟨e1,e2⟩|⟨f,c,e1,e2,_⟩<;>rw[e1,e2]<;>rfl
def Bd (ho:eZ fa kvs fs)(z:L2.St)(H:Hp)(Q:VK)(h:tE fa X.K (iw fs ga) z H Q):zK (λx y H Q=>∃k,x=.str k/\y=.ref ad/\Q (.bl (!(kvs.lookup k).isSome)) H) (tE fa X.K ga) (tC (.ref ad)) z H Q:=by
 obtain⟨O,P,M,E,I,h⟩:=h;refine t1 E I h λd L v B u J F j r1 h1=>?_;obtain⟨k,rfl,q⟩:=C3 h1;refine{k,r1,rfl,?_};rw[DQ ho];exact q (.bl _) B u J j rfl
def JE (hd:gx X.K X.w.params ad kvs)(ho:eZ fa kvs fs)(z:Gl X x)(hm:X.mg x=some (.ref ad))(j:(x==("__debug__":Str))=false)(y:DE fa X a ga)(u:behindInMarks .NotIn (.Name x p)=false):DE fa X (.Compare a [.NotIn] [.Name x p] pos) (iw fs ga):=
 bJ (wR (uW hd) y (iT (v:=.ref ad) z hm rfl j) u) λB H Q h=>Bd ho B H Q h
def JO (hd:gx X.K X.w.params ad kvs)(ho:eZ fa kvs fs)(J:Gl X x)(hm:X.mg x=some (.ref ad))(j:(x==("__debug__":Str))=false)(I:DE fa X a ga)(u:behindInMarks .NotIn (.Name x p)=false):DT fa X (.Compare a [.NotIn] [.Name x p] pos) (ao (iw fs ga)):=
 mG (wL (uW hd) I (iT (v:=.ref ad) J hm rfl j) u) λW H Q h=>by
  refine Bd ho W H _ ?_;obtain⟨S,U,M,E,F,h⟩:=h;obtain⟨z,M3,e,q⟩:=aT h;refine{S,U,M,E,F,?_};rw[e];have L:∃k,z=.bl k:=by
   obtain⟨d,Y,e1,e2⟩:=fA e;cases d<;>first|(cases e2;exact{_,rfl})|cases e2
  obtain⟨k,rfl⟩:=L;intro v B y R O P;obtain rfl:v=.bl k:=P;exact{k,rfl,q B y R O}
def mS (m:Bool)(a:GE):GE:=λh M=>(a h M).bind λx M=>match x with
 |.int n=>if -(2^62)<=n/\n<2^20 then bu m ((List.range n.toNat).map λ(k:Nat)=>D.int (k:Int)) M else .bad
 |_=>.bad
def yE:∀(n:Nat) (y:List Qj),y.length=n->(∀(i:Nat) (v:Qj),y[i]?=some v->∃t,v=.int (i:Int) t)->Vals ((List.range n).map λ(k:Nat)=>V.int (k:Int)) y:=by
 intro n y hl h;have z:∀(k:Nat) (y:List Qj),(∀(i:Nat) (v:Qj),y[i]?=some v->∃t,v=.int ((k+i:Nat):Int) t)->Vals ((List.range y.length).map λj=>V.int ((k+j:Nat):Int)) y:=by
  intro k y;induction y generalizing k with
  |nil=>intro _;exact .nil
  | cons v r B=>
    intro h;rw[List.length_cons,List.range_succ_eq_map,Sb,List.map_map];refine .cons (h 0 v rfl) ?_;have:=B (k+1) λi u e=>by
     have:=h (i+1) u (by simpa using e)
     rw[show k+1+i=k+(i+1) by omega];exact this
    refine cast (congrArg (λf=>Vals ((List.range r.length).map f) r) ?_) this
    funext j
    congr 2
    omega
 have:=z 0 y λi v e=>by rw[RS];exact h i v e
 rw[hl] at this;simpa using this
def GV (m:Bool)(hc:X.calm=true)(ha:DE fa X a ga)(L:Gl X "list")(P:X.mg "list"=none)(hg:Gl X "range")(hm:X.mg "range"=none)(hs:starEach [a] X.env=[(false,eval a X.env)])
 (F:starEach [.Call (.Name "range" p2) [a] [] pos2] X.env=[(false,eval (.Call (.Name "range" p2) [a] [] pos2) X.env)]) :
 DE fa X (.Call (.Name "list" p1) [.Call (.Name "range" p2) [a] [] pos2] [] pos) (mS m ga):=by
 rintro y s σ H Q I ⟨μ,Z,M,hE,hM,h⟩;obtain⟨x,M1,e,q⟩:=aT h;have U:∀n,x=.int n->ae (if -(2^62)<=n/\n<2^20 then bu m ((List.range n.toNat).map λ(k:Nat)=>D.int (k:Int)) M1 else .bad) (bw fa X.K μ H Q)->
  wpAny (model X.prog X.w) X.A (eval (.Call (.Name "list" p1) [.Call (.Name "range" p2) [a] [] pos2] [] pos) X.env) (EP X y σ Q) X.xe s:=λn en J=>by
  subst en;by_cases c:-(2^62)<=n/\n<2^20
  ·rw[if_pos c] at J;refine Call_ (iq I L P (by decide +kernel:bootBuiltins "list"=some (.type "list")) (Ro ?_ F rfl))
   rw[F];refine Calls.spliced_cons ?_;refine Call_ (iq I hg hm boot_range (Ro (aY (bS ha eA hs pos2 y s σ H (λvs E=>∃j,vs=[.int n]/\Ext μ H j E/\RelM fa X.K j E M1) I {μ,Z,M,hE,hM,?_}) λus s1 ⟨vs,E,I1,r1,j,ev,Y,W⟩=>?_) hs rfl))
   ·rw[e];intro v E j Y W r1;obtain rfl:v=.int n:=r1;exact⟨j,rfl,Y,W⟩
   subst ev;cases r1 with
   | cons r rr=>
     cases rr;obtain⟨t,rfl⟩:=r;refine call_range_1 ?_;refine Calls.spliced_nil ?_;refine call_list_range (n:=n.toNat) (I.ok.hd hc) (IsRange.new ..) (small_one `a `a `a `a) (by rw[rangeSize_one];split<;>omega) `a λh' tk B c' kp eS S=>?_
     obtain⟨R,O⟩:=S;have I2:Inv X y σ E {s1 with heap:=s1.heap.push {cls:=.type "range",data:=.fields #[.int 0 s1.toks,.int n t,.int 1 (s1.toks+1)]},toks:=s1.toks+1+1}:=I1.kept λb o e=>Qi _ e
     have hv:=yE n.toNat B.toList (by simpa using R) λi v e=>by
      obtain⟨u,z⟩:=O i v (by simpa using e)
      exact{u,by rw[z];simp}
     have rl:aO fa X.K j E ((List.range n.toNat).map λ(k:Nat)=>D.int (k:Int)) ((List.range n.toNat).map λ(k:Nat)=>V.int (k:Int)):=by
      have:=aO.ints (fa:=fa) (K:=X.K) (μ:=j) (H:=E) ((List.range n.toNat).map λ(k:Nat)=>(k:Int));simpa[List.map_map,Function.comp_def] using this
     obtain⟨c1,k1⟩:=gR W rl (ky J Y);refine{.ref _,_,I2.laid (o:=.lst ((List.range n.toNat).map λ(k:Nat)=>V.int (k:Int))) kp (Qo _) {?_,B.toList,c',hv,by simpa using eS},rfl,k1 _ (I2.hok.fresh (Qo _))}
     rw[rl.length,<- dM];exact c1
  ·rw[if_neg c] at J;exact J.elim
 cases x with
 |int n=>exact U n rfl q
 |_=>exact q.elim
end
noncomputable def rB (bn N:List Str)(sc scope:Scope):Bool:=
 scope.names.all (λy=>(y.2 != .cell||scope.names.lookup y.1==some .cell)&&(y.2 != .local||scope.names.lookup y.1==some .local)&&(y.2 != .free||sc.names.lookup y.1==some .cell||sc.names.lookup y.1==some .free)) &&
 bn.length==N.length&&(bn.zip N).all λp=>(p.1==p.2&&(scope.names.lookup p.2 != some .local&&scope.names.lookup p.2 != some .cell))||scope.names.lookup p.1==none
noncomputable def pY {j v:Type}{R:j->v->Prop}:∀{l:List j}{r:List v},l.length=r.length->(∀p∈l.zip r,R p.1 p.2)->R5 R l r
 |[],[],_,_=>.nil
 |a::l,b::r,h,g=>.cons (g (a,b) Qv) (pY (by simpa using h) λp z=>g p (Qm _ z))
 |[],_::_,h,_=>by cases h
 |_::_,[],h,_=>by cases h
def Bz (hk:scope.kind=.function)(hs:X.env.scope=sc)(v:X.N=N)(h:rB bn N sc scope=true):iI X own bn scope:=by
 unfold rB at h;rw[Qh,Qh,Qq,Qq] at h;obtain⟨⟨h1,hl⟩,h2⟩:=h;refine{hk,λy j e=>?_,λy j e=>?_,λy j e=>?_,?_}
 ·have:=h1 y j;rw[e] at this;simpa using this
 ·have:=h1 y j;simp only[Qh] at this;rw[e] at this;simpa using this
 ·have:=h1 y j;simp only[Qh] at this;rw[e] at this;show X.env.scope.names.lookup y.1=_\/X.env.scope.names.lookup y.1=_;rw[hs];simpa using this
 ·rw[v];refine pY (by simpa using hl) λp z=>?_
  have:=h2 p z;simp only[Ry,Qh,beq_iff_eq,bne_iff_ne] at this;exact this
section
variable{fa:Fa}{X:Cx}{elt tg iter c t2 i2:Expr}{scope:Scope}{pos:Pos}{own bn:List Str}{t u:gG}{gw gw2:GW}{ge:GE}{gc:GT}
def oG {l:List Nat}(h:l.all (· < n)=true):∀i∈l,i<n:=λi j=>by
 have:=Qq.mp h i j;simpa using this
def Aa {l W:List Nat}(h:W.all (λi=>!l.contains i)=true):∀i∈W,i∉l:=λi j z=>by
 have:=Qq.mp h i j;simp[z] at this
variable{i:Nat}{y:Str}{py spos:Pos}
def GZ {i:Int}(j:Gl X x)(hm:∃t,X.mg x=some (.int i t))(hd:(x==("__debug__":Str))=false):DE fa X (.Name x pos) (gC (.int i)):=let{_,h}:=hm;JD j h hd
def G1 (h:∃ad j,X.mg x=some (.ref ad)/\gx X.K X.w.params ad j/\eZ fa j fs)(B:Gl X x)(v:(x==("__debug__":Str))=false)(z:DE fa X b gb)(hs:lA b):DE fa X (.Subscript (.Name x p) b pos) (lY fs gb):=
 let{_,_,h1,h2,h3}:=h;JF h2 h3 B h1 v z hs
def G0 (h:∃ad j,X.mg x=some (.ref ad)/\gx X.K X.w.params ad j/\eZ fa j fs)(E:Gl X x)(v:(x==("__debug__":Str))=false)(B:DE fa X a ga)(z:behindInMarks .NotIn (.Name x p)=false):DE fa X (.Compare a [.NotIn] [.Name x p] pos) (iw fs ga):=
 let{_,_,h1,h2,h3}:=h;JE h2 h3 E h1 v B z
def G4 (h:∃ad j,X.mg x=some (.ref ad)/\gx X.K X.w.params ad j/\eZ fa j fs)(E:Gl X x)(v:(x==("__debug__":Str))=false)(B:DE fa X a ga)(z:behindInMarks .NotIn (.Name x p)=false):DT fa X (.Compare a [.NotIn] [.Name x p] pos) (ao (iw fs ga)):=
 let{_,_,h1,h2,h3}:=h;JO h2 h3 E h1 v B z
def GR (h:cF (n+4) X.A):Rm X:=by have:=h.un;show X.A.units+100<cLine;omega
end
noncomputable def jH {j v:Type}{f g:j->Option v}:∀{l:List j},(∀x∈l,f x=g x)->l.filterMap f=l.filterMap g
 |[],_=>rfl
 | a::l,h=>by
   rw[RV,RV,h a Qv,jH λx u=>h x (Qm _ u)]
def sf (n:Nat)(xs:List Qj)(h:xs.length=n):(List.range n).filterMap (λ(k:Nat)=>xs[n-1-k]?)=xs.reverse:=by
 have e:∀k∈List.range n,xs[n-1-k]?=some (xs.reverse.getD k .none):=λk hk=>by
  have hk:=List.mem_range.mp hk;rw[Rk,List.getElem?_reverse `a,h,QA `a]
  simp
 have:(List.range n).filterMap (λk=>xs[n-1-k]?)=(List.range n).map λk=>xs.reverse.getD k .none:=by
  rw[jH e];simp
 rw[this];refine List.ext_getElem? λi=>?_;rw[QK];by_cases j:i<n
 ·rw[Sa j];show some (xs.reverse.getD i .none)=_;rw[Rk,QA (show i<xs.reverse.length by simp;omega)]
  simp
 ·rw[RG `o,RG `o]
  rfl
def s9 (h:List Qj):slicePick h.toArray none none (some (-1))=h.reverse.toArray:=by
 unfold slicePick sliceBounds sliceRange;simp only[Ri,Qw];have e1:¬ ((-1:Int) > 0):=`d
 simp only[e1,if_false];have e2:(if (h.length:Int)-1 > -1 then((h.length:Int)-1 - -1 - -1-1) / (- -1) else 0).toNat=h.length:=by
  split
  ·simp
  ·omega
 rw[e2,List.filterMap_map,<- sf h.length h rfl]
 congr 1
 refine jH λk hk=>?_;have j:((h.length:Int)-1+-1*(k:Int)).toNat=h.length-1-k:=`a
 show h.toArray[((h.length:Int)-1+-1*(k:Int)).toNat]?=_;rw[j];simp
section
variable{prog:Q0}{w:QX}{A:Rz}{E:Qj->Qn->Prop}{s:Qn}
def oa (z:IsTup s.heap t items)(hs:s.heap.IsSliceOf sl .none .none (.int (-1) k))
 (h:Q (.ref s.heap.objs.size) {s with heap:=s.heap.push {cls:=.type "tuple",data:=.seq items.toList.reverse.toArray}})
 (hsz:items.size<=sizeLine):wpAny (model prog w) A (getItem (.ref t) (.ref sl)) Q E s:=by
 have j:sizeOk (.seq items.toList.reverse.toArray):=by
  show items.toList.reverse.toArray.size<=sizeLine;simpa using hsz
 obtain⟨os,u,F,v⟩:=id hs;have B:s.TypeIs (.ref sl) "slice":=⟨os,u,F⟩;unfold getItem;try with_reducible refine tqo ?_
 first|refine tqa (tqb ?_)|skip
 refine tqa (wpAny_sequenceKey z.typeIs `d ?_)
 refine tqa (wpAny_callSpecial?_slot z.typeIs Q1
  (wpAny_call_entry Q1 z.typeIs entry_tuple_getitem ?_ (args_tuple_getitem _ _)))
 show wpAny _ _ (Builtin.Tuple.tupleItemsOf (.ref t) >>= _) _ _ s;refine tqa (tupleItemsOf_ z ?_);refine tqa (wpAny_typeOf B ?_);rw[if_pos `d]
 refine tqa (tqa (tqa (tqf u v rfl (tqa (tqf u v rfl (tqa (tqf u v rfl (tqb ?_))))))));refine tqa (slicePart_int ?_);rw[if_neg `d]
 refine tqa (slicePart_none (tqa (slicePart_none (tqa (tqb ?_)))));have J:Builtin.Slice.sliceAdjust none none (-1) (items.size:Int)=((items.size:Int)-1,-1):=by simp[Builtin.Slice.sliceAdjust]
 have L:Builtin.Slice.slicePlaces ((items.size:Int)-1) (-1) (-1)=items.size:=by
  unfold Builtin.Slice.slicePlaces;rw[if_neg `d]
  split
  ·simp
  ·omega
 show wpAny _ _ (match Builtin.Slice.sliceAdjust none none (-1) (items.size:Int) with|(lo,M)=>pure (lo,(-1:Int),Builtin.Slice.slicePlaces lo M (-1))) _ _ s
 rw[J];show wpAny _ _ (pure ((items.size:Int)-1,(-1:Int),Builtin.Slice.slicePlaces ((items.size:Int)-1) (-1) (-1))) _ _ s;rw[L];refine tqb ?_;have H:¬ ((((items.size:Int)-1)==0&&(-1:Int)==1&&items.size==items.size)=true):=`s
 show wpAny _ _ (if (((items.size:Int)-1)==0&&(-1:Int)==1&&items.size==items.size)=true then _ else _) _ _ s;rw[if_neg H];have y:((List.range items.size).filterMap λ(m:Nat)=>items[(((items.size:Int)-1)+(m:Int) * -1).toNat]?).toArray=items.toList.reverse.toArray:=by
  rw[<- sf items.size items.toList `s]
  congr 1
  refine jH λm hm=>?_;have I:((items.size:Int)-1+(m:Int) * -1).toNat=items.size-1-m:=`a
  rw[I];simp
 rw[y];first
  |exact tqa (wpAny_newObj_type (tqb {_,rfl,tqb h}) j)
  |exact tqa (wpAny_newObj_type (tqa (tqb (tqb {_,rfl,tqb h}))) j)
  |exact tqa (tqa (wpAny_newObj_type (tqb (tqb {_,rfl,tqb h})) j))
  |exact tqa (tqa (wpAny_newObj_type (tqb {_,rfl,tqb h}) j))
end
section
variable{fa:Fa}{X:Cx}{a st:Expr}{ga:GE}{pos p2:Pos}
def ya (m:Bool)(x:D)(M:Mem):Res D:=match x with
 |.tup xs=>.ok (.tup xs.reverse) M
 | x=>match gE M x with
   |some xs=>bu m xs.reverse M
   |none=>.bad
def kS (m:Bool)(a:GE):GE:=λh M=>(a h M).bind λx M=>ya m x M
def JJ (K:Qf):V->Hp->VK->Prop:=λx H Q=>∃a xs,x=.ref a/\((dC K H a xs/\∀p,H p=none->Q (.ref p) (upd H p (.lst xs.reverse)))\/(d9 K H a xs/\∀p,H p=none->Q (.ref p) (upd H p (.tup xs.reverse))))
noncomputable def oC:∀{xs:List V}{us:List Qj},Vals xs us->Vals xs.reverse us.reverse
 |_,_,.nil=>.nil
 | _,_,.cons p r=>by
   rw[List.reverse_cons,List.reverse_cons];exact(oC r).append (.cons p .nil)
def J0 (ha:PE X a ta)(P:PE X st ts) :
 PE X (.Subscript a (.Slice none none (some st) p2) pos) (λF H Q=>ta F H λx O=>ts F O λy W=>y=.int (-1)/\JJ X.K x W Q):=by
 intro j s F H Q I h;refine Subscript_ (aY (ha j s F H _ I h) λv s1 ⟨x,O,I1,r1,q1⟩=>?_);refine wpAny_Slice ?_;rw[evalPart_none];refine tqb ?_;refine tqb ?_;rw[evalPart_some];refine aY (P j s1 F O _ I1 q1) ?_;rintro vu u ⟨y,Y,I3,r3,ey,q3⟩;subst ey;obtain⟨k,rfl⟩:=r3;have J:Inv X j F Y {u with heap:=u.heap.push {cls:=.type "slice",data:=.fields #[.none,.none,.int (-1) k]}}:=I3.kept λb ob q=>Qi _ q
 have L:(u.heap.push {cls:=.type "slice",data:=.fields #[.none,.none,.int (-1) k]}).IsSliceOf u.heap.objs.size .none .none (.int (-1) k):=Heap.IsSliceOf.new ..;obtain⟨b,xs,rfl,q⟩:=q3;cases r1;have U:∃T id,typeLookup (.type T) "__getitem__"=pure (some (.builtin id))/\Shared.TypeIs {u with heap:=u.heap.push {cls:=.type "slice",data:=.fields #[.none,.none,.int (-1) k]}} (.ref b) T/\wpAny (model X.prog X.w) X.A (getItem (.ref b) (.ref u.heap.objs.size)) (EP X j F Q) X.xe {u with heap:=u.heap.push {cls:=.type "slice",data:=.fields #[.none,.none,.int (-1) k]}}:=by
  rcases q with⟨R,q⟩|⟨R,q⟩
  ·obtain⟨S,r,B,M⟩:=J.list R;have z:=r.length;refine{"list",_,slot_list_getitem.lookup,B.isList.typeIs,?_};refine wpAny_getItem_list_slice B.isList L .none .none (.int (-1) k) `d ?_ (by rw[Qw]<;>omega)
   rw[s9];refine{.ref _,_,J.laid (λb ob q=>Qi _ q) (Qo _) ?_,rfl,q _ (J.hok.fresh (Qo _))};exact{by simpa using M,_,0,oC r,QD _ rfl}
  ·obtain⟨S,r,B,M⟩:=J.tuple R;have z:=r.length;refine{"tuple",_,Q1.lookup,B.typeIs,?_};refine oa B L ?_ (by rw[Qw,<- z];exact M)
   refine{.ref _,_,J.laid (λb ob q=>Qi _ q) (Qo _) ?_,rfl,q _ (J.hok.fresh (Qo _))};exact{by simpa using M,_,oC r,IsTup.new _ _}
 obtain⟨T,id,hT,B,hg⟩:=U;exact tail_any B hT hg (by with_unfolding_all rfl)
def ME (m:Bool)(U:DE fa X a ga):DE fa X (.Subscript a (.Slice none none (some (.UnaryOp .USub (.Constant (.int 1) k pc) pu)) p2) pos) (kS m ga):=
 bJ (J0 U (EN zv Ax)) λY H Q ⟨L,W,M,O,S,h⟩=>t1 O S h λx F v B I J P y r1 h1=>by
  refine{1,rfl,rfl,?_};have lst:∀(u:List D) (b:Addr) (j:List V),dC X.K B b j->aO fa X.K I B u j->ae (bu m u.reverse F) (bw fa X.K L H Q)->JJ X.K (.ref b) B Q:=λu b j hs hr h1=>by
   obtain⟨_,q⟩:=gR y hr.reverse (ky h1 J);exact{b,j,rfl,.inl ⟨hs,q⟩}
  cases x with
  | tup u=>
    obtain⟨b,j,rfl,hs,hr⟩:=r1;exact{b,j,rfl,.inr {hs,iL y hr.reverse (bw.ext h1 J)}}
  | lst u=>
    obtain⟨b,j,rfl,hs,hr⟩:=r1;exact lst u b j (dC.of hs.1) hr h1
  | frz u=>
    obtain⟨b,j,rfl,hs,hr⟩:=r1;exact lst u b j (hs.elim ((by rintro⟨o,z⟩;exact .inl (.inr ⟨o,z⟩))) .inr) hr h1
  | cell k=>
    obtain⟨b,rfl,hk⟩:=r1;obtain⟨u,j,e,R,hr⟩:=y.mu_lt hk;have h1:ae (match F[k]? with|some xs=>bu m xs.reverse F|none=>.bad) (bw fa X.K L H Q):=h1
    rw[e] at h1;exact lst u b j (dC.of R) hr h1
  |_=>exact h1.elim
def qM (i j:Nat)(v:GA):GS:=λh M=>(v h M).bind λu M=>match u with
 |[a,b]=>.ok (.next ((h.set i (some a)).set j (some b))) M
 |_=>.bad
def Mz {kt k2 pt2}(R:X.calm=true)(P:X.N.Nodup)(hi:X.N[i]?=some x)(S:X.N[j]?=some y)(B:i≠j)
 (W:X.env.scope.names.lookup x=some .local) (Y:X.env.scope.names.lookup y=some .local) (Q:DA fa X [a,b] gs)
 (U:swappedStores [.Tuple [.Name x px,.Name y py] kt pt] (.Tuple [a,b] k2 pt2) X.env=pure (some [x,y]))
 (hs:swapsWithSole [.Tuple [.Name x px,.Name y py] kt pt] (.Tuple [a,b] k2 pt2) pos.line X.env=pure false) :
 DS fa X (.Assign [.Tuple [.Name x px,.Name y py] kt pt] (.Tuple [a,b] k2 pt2) pos) (qM i j gs):=
 fg (JS R P hi S B W Y Q U hs) λD' σ H ⟨μ,Z,M,L,O,h⟩=>rV L O h λJ M1 vs I F x1 u z r1 h1=>by
  match J,h1 with
  | [d1,d2],h1=>
    obtain⟨v,r,rfl,p1,w',r',rfl,p2,e⟩:=r1;obtain rfl:r'=[]:=e;exact{v,w',rfl,h1 _ I F x1 ((u.set p1).set p2) z}
  |[],h1=>exact h1.elim
  |[_],h1=>exact h1.elim
  |_::_::_::_,h1=>exact h1.elim
end
def mm {fa:Fa}{mg:Str->Option Qj}(e:fa i=some f)(m:mg x=some (.ref f)):∀ad,fa i=some ad->mg x=some (.ref ad):=λad h=>by rw[e] at h;cases h;exact m
def us1 {j:Type}{p:List j->Prop}(h:∀a,p [a])(us:List j)(hl:us.length=1):p us:=by
 obtain⟨a,rfl⟩:=List.length_eq_one_iff.mp hl;exact h a
def NY {j:Type}{p:List j->Prop}(h:∀a b,p [a,b]):∀(us:List j) (hl:us.length=2),p us
 |[a,b],_=>h a b
def us3 {j:Type}{p:List j->Prop}(h:∀a b c,p [a,b,c]):∀(us:List j) (hl:us.length=3),p us
 |[a,b,c],_=>h a b c
def us4 {j:Type}{p:List j->Prop}(h:∀a b c d,p [a,b,c,d]):∀(us:List j) (hl:us.length=4),p us
 |[a,b,c,d],_=>h a b c d
def AU {K:Qf}(X:K.In h)(G:h.Ns mainGlobals mg)(a:PySem.W.nsIn K mainGlobals x=some (some (.ref f))):mg x=some (.ref f):=Rr X G a
def A3:R5 (pE P) [] []:=.nil
def hG (h:R5 (pE P) es kvs):R5 (pE P) ({PyData.keyHash P x,.str x t,.ref a}::es) ((x,a)::kvs):=.cons ⟨t,rfl⟩ h
def EH (K:Qf):Sp:=λj H Q _=>∃(a:Addr) (ns:List Int),j=[.ref a]/\dC K H a (ns.map V.int)/\zc H/\ns.length<=63/\∀h,Q (.bl true) h
def KU {K:Qf}{ad:Addr}{st:Stmt}(h:∀f d,Pg f=some d->zg fa P w K mg base f d)
 (hl:∀ns:List Int,ns.length<=63->∃M,ah Pg (n+1) f [.frz (ns.map D.int)] []=.ok (.bl true) M) (e:Pg f=some d) (F:oz K x qual st ad fd) (S:hR N [y] (aN st)) (hs:d.slots=N.length)
 (u:∀(call:Call) (n:Nat) (j:Qj) (A:Rz) (outer:List RE) (s:Qn) (H:Hp) (E:XK),(∀f,jw fa P w K mg base n f (call f))->cF (2*n+5) (A.deeper (envOfC qual (aN st) s.heap.objs.size ad j))->
  kK fa (fy (gJ P w) P w K mg base N qual (aN st) ad j A outer s H E) (cf st) (d.body call)):kY P w K mg base (gJ P w) (2*n+5+1) ad fd [y] (EH K):=by
 have eq:∀I M,ah Pg (n+1) f I M=gW (ah Pg n) d I M:=λI M=>by show(match Pg f with|none=>Res.bad|some d=>gW (ah Pg n) d I M)=_;rw[e]
 refine ri (oz.toD F) S (λU H Q E B=>?_) λj A outer s H U Q E hr B=>{_,u (ah Pg n) n j A outer s H E (vM h n) hr,?_}
 ·obtain⟨a,ns,rfl,_⟩:=B;rfl
 ·obtain⟨a,ns,rfl,R,O,hn,q⟩:=B;obtain⟨Y,J⟩:=hl ns hn;rw[eq] at J;have rp:aO fa K {λ_=>none,[],λ_=>none} H [.frz (ns.map D.int)] [.ref a]:=by
   refine{.ref a,[],rfl,{a,ns.map V.int,rfl,?_,aO.ints ns},rfl};rcases R with(z|⟨o,z⟩)|z
   ·rcases O a with y|⟨o,xs,y⟩
    ·rw[y] at z;cases z
    ·rw[y] at z;cases z
   ·exact .inl ⟨o,z⟩
   ·exact .inr z
  refine sO (μ:={λ_=>none,[],λ_=>none}) (M:=[]) hs {λk I z=>by simp at z,λ_ _=>rfl,λ_ _=>rfl,(λ_ _ _ z=>nomatch z),(λ_ _ _ z=>nomatch z),(λ_ _ z=>nomatch z),(λ_ z=>nomatch z)} rp ?_
  rw[J];intro v L X _ _ r;obtain rfl:v=.bl true:=r;exact q L
def xb {K:Qf}{ad:Addr}(X:K.In h)(G:h.Ns mainGlobals mg)(a:PySem.W.nsIn K mainGlobals x=some (some (.ref ad)))
 (l:K.lookup ad=some {cls:=.type "dict",data:=.dict es n}) (he:R5 (pE P) es.toList j) (nd:(j.map (·.1)).Nodup) (ns:(ad==sysModules)=false) (dk:eZ fa j fs):∃ad j,mg x=some (.ref ad)/\gx K P ad j/\eZ fa j fs:=
 {ad,j,Rr X G a,{⟨es,n,l,he⟩,nd,ns},dk}
def zL (lo hi:Option Int)(n:Nat):Builtin.Str.strSliceIndices lo hi 1 n=(List.range (HT.aM n n hi-HT.aM n 0 lo)).map (HT.aM n 0 lo+·):=by
 rw[<- sliceRange_one];unfold Builtin.Str.strSliceIndices;simp only[show(1:Int) > 0 by decide,if_true]
 congr 1
 ·cases lo with
  |none=>rfl
  | some i=>
    simp only[HT.aM];split<;>omega
 ·cases hi with
  |none=>rfl
  | some i=>
    simp only[HT.aM];split<;>omega
def i1 (z:Str)(l h:Nat):Str:={(cut z.cps.toList l h).toArray}
section
variable{fa:Fa}{X:Cx}{a b:Expr}{ga gb:GE}{pos p2:Pos}{tg:Expr}
def uT (h:IsPart v o):∃p:Option (Int×Tok),v=partValue p/\p.map (·.1)=o:=by
 cases h with
 |none=>exact⟨none,rfl,rfl⟩
 |int i t=>exact{some (i,t),rfl,rfl}
set_option tactic.hygienic true in
def Jm:mn X (λx lo hi H Q=>∃z:Str,x=.str z/\z.cps.size<=sizeLine/\Q (.str (i1 z (HT.aM z.cps.size 0 lo) (HT.aM z.cps.size z.cps.size hi))) H):=by
 intro F s U H x v R S lo hi sl Q I L hs pl J h;obtain⟨z,rfl,P,q⟩:=h;obtain⟨t,rfl⟩:=L;obtain⟨l,rfl,B⟩:=uT pl;obtain⟨u,rfl,E⟩:=uT J;refine{"str",_,slot_str_getitem.lookup,typeIs_str s z t,?_};refine wpAny_getItem_str_slice (st:=none) hs rfl ?_;have e:(slicePicked z l u none).filterMap (z.cps[·]?)=cut z.cps.toList (HT.aM z.cps.size 0 lo) (HT.aM z.cps.size z.cps.size hi):=by
  unfold slicePicked;rw[B,E];show(Builtin.Str.strSliceIndices lo hi 1 z.cps.size).filterMap _=_;rw[zL,pick_run];rfl
 unfold sliceMade;split
 ·next c=>
  have j:(slicePicked z l u none).length=z.length:=by simpa using c
  have e2:i1 z (HT.aM z.cps.size 0 lo) (HT.aM z.cps.size z.cps.size hi)=z:=by
   have hl:HT.aM z.cps.size z.cps.size hi-HT.aM z.cps.size 0 lo=z.cps.size:=by
    unfold slicePicked at j;rw[B,E] at j;have j:(Builtin.Str.strSliceIndices lo hi 1 z.cps.size).length=z.cps.size:=j;rw[zL] at j;simpa using j
   have O:HT.aM z.cps.size z.cps.size hi<=z.cps.size:=by
    cases hi with
    |none=>exact Qo _
    |some i=>simp only[HT.aM];split<;>omega
   have y:HT.aM z.cps.size 0 lo=0\/z.cps.size=0:=`a
   unfold i1 cut;rw[hl];rcases y with y|y
   ·rw[y];rcases z with⟨M⟩
    rw[List.drop_zero,Rw `s]
   ·have:z.cps=#[]:=Array.eq_empty_of_size_eq_zero y;rcases z with⟨M⟩
    simp at this;subst this;simp
  rw[e2] at q;exact{.str z,H,I,⟨t,rfl⟩,q}
 ·rw[e];refine{?_,.str _,H,I.tok _,{_,rfl},q};have:(cut z.cps.toList (HT.aM z.cps.size 0 lo) (HT.aM z.cps.size z.cps.size hi)).length<=z.cps.size:=by
   unfold cut;rw[Rj,R8];simp;omega
  show(cut z.cps.toList _ _).toArray.size<=sizeLine;simp at this ⊢;omega
def nM (hl hh:Bool)(a lo hi:GE):GE:=λj M=>(a j M).bind λx M=>(lo j M).bind λl M=>(hi j M).bind λh M=>if cv hl l&&cv hh h then(match x with
 | .str z=>if z.cps.size <= sz then(match aM z.cps.size 0 l,aM z.cps.size z.cps.size h with
   |some l,some h=>.ok (.str (i1 z l h)) M
   |_,_=>.bad) else .bad
 |_=>.bad) else .bad
set_option tactic.hygienic true in
def JB (hl hh:Bool){lo hi:Option Expr}(ha:DE fa X a ga)(I:DO fa X lo hl gl)(F:DO fa X hi hh gh):DE fa X (.Subscript a (.Slice lo hi none p2) pos) (nM hl hh ga gl gh):=
 bJ (uQ Jm ha I F) λσ H Q ⟨μ,S,M,hE,hM,h⟩=>t1 hE hM h λx U v H1 J x1 j y r1 h1=>by
  obtain⟨l,W,e2,h2⟩:=aT h1;obtain⟨u,M3,Y,h3⟩:=aT h2;split at h3
  ·next c=>
   rw[Qh] at c;obtain⟨ol,O⟩:=part_of c.1;obtain⟨ou,P⟩:=part_of c.2;refine{J,S,U,j,y,?_};rw[e2];refine{ol,c.1,O,λH2 L R B=>{L,S,W,j.ext R,B,?_}};rw[Y];refine{ou,c.2,P,λH3 μ3 x3 E=>?_};cases x with
   | str z=>
     obtain rfl:v=.str z:=r1;dsimp only at h3;split at h3
     ·next hz=>
      simp only[oK,O,P,Option.map_some] at h3;exact{z,rfl,by rw[<- dM];exact hz,a7 E (bw.ext h3 ((x1.trans R).trans x3)) rfl}
     ·exact h3.elim
   |_=>exact h3.elim
  ·exact h3.elim
def signs (z:Str):List D:=z.cps.toList.map λc=>.str {#[c]}
def Ma (z:Str):It:={λi _=>i<z.cps.size,λi H x h=>h=H/\∃c,z.cps[i]?=some c/\x=.str {#[c]},λi _=>z.cps.size<=i}
def ud {K:Qf}(hn:["enumerate","zip","dict_itemiterator","dict_reverseitemiterator","odict_iterator","itertools.zip_longest","itertools.pairwise"].contains n=false)(j:Addr)(z:Str)(t:Tok)
 (W:∀A':Rz,A'.handled=none->Walks P w A' j [j] [j] z.cps.size (SignAt z) (λi h=>h.IsStrIter j n z t i))
 (S:∀(A:Rz) (i:Nat) (s:Qn) (Q:Qj->Qn->Prop) (E:Qj->Qn->Prop),s.heap.IsStrIter j n z t i->Q (.ref j) s->wpAny (model P w) A (pyIter (.ref j)) Q E s)
 (D:∀(A:Rz) (hh:A.handled=none) (i:Nat) (s:Qn) (Q:Option Qj->Qn->Prop) (E:Qj->Qn->Prop),s.heap.IsStrIter j n z t i->z.cps.size<=i->(∀F,(∀b o,b≠j->s.heap.get? b=some o->F.get? b=some o)->Q none {s with heap:=F})->wpAny (model P w) A (pyNext (.ref j)) Q E s) :
 Turn P w K tg (Ma z) [j] j (λi h=>h.IsStrIter j n z t i) where
 mem:=`s
 obj:=λi h st b B=>by
  have e:b=j:=by simpa using B
  subst e;obtain⟨o,e,c,d⟩:=st;exact{o,e,λv z=>by rw[d] at z;cases z}
 keep:=λi h F st k=>let⟨o,e,r⟩:=st;{o,k j `s o e,r}
 item:=by
  intro X Y hw U hc i y s σ H E I hf st hg;subst Y hw U;obtain⟨L,f1,f2,M,O,R⟩:=hf j `s
  refine(W X.A (I.ok.hd hc)).item i s _ _ hg st λv F tk hv J kk=>?_;obtain⟨c,u,hc',rfl⟩:=hv;have I1:Inv X y σ H {s with heap:=F,toks:=tk}:=I.turned (λb o B e=>kk b o (by simpa using B) e) L f1 M O R
  obtain⟨o,e,co,d⟩:=id J;exact{_,rfl,tP e co d hn {.str {#[c]},H,I1,⟨u,rfl⟩,⟨rfl,c,hc',rfl⟩,J,λb B=>(hf b B).1}}
 done:=by
  intro X Y hw U hc i y s σ H E I hf st hg;subst Y hw U;obtain⟨L,f1,f2,M,O,R⟩:=hf j `s
  exact D X.A (I.ok.hd hc) i s _ _ st hg λF eb=>{rfl,I.turned (λb o B e=>eb b o B e) L f1 M O R}
 self:=λA i s Q E st h=>S A i s Q E st h
def JW {l:Expr}{tl:TE}(hl:PE X l tl):PI X tg l (λF H R=>tl F H λx u=>∃z,x=.str z/\R (Ma z) u):=by
 intro j s F H R I h;refine aY (hl j s F H _ I h) ?_;rintro v s1 ⟨x,u,y,r1,S⟩;obtain⟨z,rfl,q⟩:=S;obtain⟨t,rfl⟩:=r1;have J:∀b∈[s1.heap.objs.size],gA X j u b:=λb O=>by
  have e:b=s1.heap.objs.size:=by simpa using O
  subst e;exact y.fpOk (Qo _) (y.hok.fresh (Qo _))
 cases L:z.cps.all (· < 128)
 ·refine wpAny_pyIter_wide L ?_;exact{s1.heap.objs.size,[s1.heap.objs.size],_,_,u,rfl,y.kept λb o e=>Qi _ e,ud rfl _ z t (λM h=>Walks.strWide h _ z t) (λA i s Q E st h=>wpAny_pyIter_striter_wide st h) (λA B i s Q E st P k=>wpAny_pyNext_wide_end B st `o k),{_,QD _ rfl,rfl,rfl},J,q}
 ·refine wpAny_pyIter_ascii L ?_;exact{s1.heap.objs.size,[s1.heap.objs.size],_,_,u,rfl,y.kept λb o e=>Qi _ e,ud rfl _ z t (λM h=>Walks.strAscii h _ z t) (λA i s Q E st h=>wpAny_pyIter_striter_ascii st h) (λA B i s Q E st P k=>wpAny_pyNext_ascii_end B st `o k),{_,QD _ rfl,rfl,rfl},J,q}
def qp (ga:GE):Env->Mem->Res Walk:=λh M=>(ga h M).bind λx M=>match x with
 |.str z=>.ok (λ_=>some (signs z)) M
 |_=>.bad
def BV (z:Str):eD fa X.K μ0 H0 (λ_=>some (signs z)) (Ma z):=λJ H M I x v e=>by
 cases e;refine{λi d hd=>?_,λi B=>(show z.cps.size<=i by simpa[signs] using B)}
 unfold signs at hd;rw[QK] at hd;cases e:z.cps.toList[i]? with
 |none=>rw[e] at hd;cases hd
 | some c=>
   rw[e] at hd;have j:=Qp hd;subst j;have e2:z.cps[i]?=some c:=by simpa using e
   refine{(QY.mp e2).1,λy E ⟨e1,F,h,u⟩=>?_};rw[e2] at h;cases h;subst e1 u;exact{.refl,v,rfl}
def H8 (F:DE fa X a ga):DI fa X tg a (qp ga):=λj s Q H R I ⟨O,P,M,B,E,h⟩=>by
 obtain⟨x,S,e,q⟩:=aT h;refine JW F j s Q H R I {O,P,M,B,E,?_};rw[e];intro v y u L J r1;cases x with
 | str z=>
   obtain rfl:v=.str z:=r1;exact{z,rfl,q _ y u L J (BV z)}
 |_=>exact q.elim
end
end LD
namespace LD
open PySem PySem.Spec PySem.Calls PyProof.Rows PySem.W
section
variable{prog:Q0}{w:QX}{A:Rz}{E:Qj->Qn->Prop}{s:Qn}{K:Frag}{x C:Addr}{ox:Obj}{od:Option Obj}{name:Str}
noncomputable def lE (K:Frag)(C:Addr):Bool:=findIn K (.ref C) "__getattribute__"==some (some (.builtin "BaseException.__getattribute__"))&&findIn K (.ref C) "__getattr__"==some none&&mroIn K C (.type "BaseException")==some true&&mroIn K C (.type "object")==some true &&
 findIn K (.ref C) "__class__"==some (some (.builtin "object.__class__"))&&specialIn K (.builtin "object.__class__") "__get__"==some (some (.builtin "getset_descriptor.__get__"))&&takesIn K (.builtin "object.__class__")==some true
def Pt (prog:Q0)(w:QX)(A:Rz)(x C:Addr)(Q:Qj->Qn->Prop)(E:Qj->Qn->Prop)(s:Qn):Builtin.ObjectAttr.Found->Prop
 |.value v=>wpAny (model prog w) A (handedOut v) Q E s
 |.bind g a=>wpAny (model prog w) A.in1 (call g [a,.ref x,.ref C]) (λv h=>wpAny (model prog w) A (handedOut v) Q E h) (λ_ _=>False) s
 |.missing=>False
def xp {u j:Bool}(X:K.In s.heap)(I:InstAt s.heap x ox C od)(B:lE K C=true)(hf:findObj K C od name=some r)
 (h:Pt prog w A x C Q E s r) :
 wpAny (model prog w) A (getAttrBy (.ref x) (.str name tk) u j) Q E s:=by
 unfold lE at B;simp only[Qh,beq_iff_eq] at B;obtain⟨⟨⟨⟨⟨⟨H,J⟩,L⟩,Y⟩,_⟩,_⟩,_⟩:=B;obtain⟨hh,g,d,t,os⟩:=s;have P:=I.type (M:=model prog w);have R:=looks_findIn (M:=model prog w) X H;have S:=looks_findIn (M:=model prog w) X J;have U:=looks_find (M:=model prog w) X I hf;have W:=looks_mroIn (M:=model prog w) X L;have O:(Value.builtin "BaseException.__getattribute__"==Value.builtin "object.__getattribute__")=false:=`k
 have hk:builtinKind "BaseException.__getattribute__"=some .slot:=`k
 have y:splitId "BaseException.__getattribute__"=some ("BaseException","__getattribute__"):=`k
 refine tqo (tqa (P.at (tqa (R.at ?_))));show wpAny _ _ (if (true&&Value.builtin "BaseException.__getattribute__"==Value.builtin "object.__getattribute__")=true then _ else _) _ _ _;rw[O,if_neg `d]
 refine tqa (S.at (tqa (wpAny_attempt (tqo ?_))));unfold callGetattribute;rw[if_neg (by cases j<;>decide)]
 refine tqa (wpAny_of_eq (PySem.F.excAttr_ValueError.ga.bind (.ref x)) ?_);refine wpAny_call (codeAny_call_builtin PySem.F.excAttr_ValueError.ga.plain F.entry_bexc_ga ?_);refine tqa (tqa (P.at (W.at ?_)))
 repeat (any_goals (first|assumption|wp_step))
 refine wpAny_loadPart_at I.at_ (tqb ?_);rw[I.cls];refine tqa (U.at ?_);cases r with
 |value v=>exact tqb h
 | bind g a=>
   exact tqa (tqo (wpAny_mono h (λv s' z=>tqb z) λ_ _ z=>z.elim))
 |missing=>exact h.elim
def Bk {Q:Option Qj->Qn->Prop}(X:K.In s.heap)(I:InstAt s.heap x ox C od)(v:lE K C=true)(h:Q (some (.ref C)) {s with toks:=s.toks+1}):wpAny (model prog w) A (getAttr? (.ref x) "__class__") Q E s:=by
 have j:=v;unfold lE at j;simp only[Qh,beq_iff_eq] at j;obtain⟨⟨⟨⟨⟨⟨_,_⟩,_⟩,hm⟩,y⟩,hn⟩,u⟩:=j;have hf:findObj K C od "__class__"=some (.bind (.builtin "getset_descriptor.__get__") (.builtin "object.__class__")):=by
  obtain⟨B,z,_⟩:=Rb.mp hm;unfold findObj;rw[z,RY,y,RY];simp[hn,u]
 refine tqa (wpAny_mkText (tqa (wpAny_attempt (xp X I v hf ?_))));exact wpAny_call (class_get X I hm (handed_on rfl (tqb h)))
set_option tactic.hygienic true in
def HL (X:K.In s.heap)(I:InstAt s.heap x ox C od)(L:lE K C=true)(z:∀(M:Model) u,K.In u->Sj M u (typeOf c) (.type "type"))(y:∀(M:Model) u,K.In u->Sj M u (isType c) true)
 (H:(Value.ref C==c)=false) (j:∀(M:Model) u,K.In u->Sj M u (isSubtype (.ref C) c) false) (h:Q (.bool false) {s with toks:=s.toks+1}):wpAny (model prog w) A (call (.builtin "isinstance") [.ref x,c]) Q E s:=by
 refine call_isinstance_of ?_ (by intro q;cases q)
 have B:Sj (model prog w) s.heap (isType (.ref C)) true:=by
  have v:=L;unfold lE at v;simp only[Qh,beq_iff_eq] at v;obtain⟨cd,F,_⟩:=Rb.mp v.1.1.1.2;unfold clsIn at F;split at F
  ·rename_i c' d' P S ho;intro U Y W s' k q;exact tqa (wpAny_loadPart (k _ _ (X _ _ ho)) (tqb q))
  ·cases F
 have z:=z (model prog w) s.heap X;have y:=y (model prog w) s.heap X;have j:=j (model prog w) s.heap X;obtain⟨R,g,d,tt,os⟩:=s;have J:=I.type (M:=model prog w);have O:Sj (model prog w) R (isInstance (.ref x) c) false:=J.andThen j;refine tqa (J.at ?_);rw[if_neg (λq=>by rw[H] at q;exact Bool.noConfusion q)]
 refine tqa (z.at ?_);rw[if_pos `d]
 k_delta "plainIsInstance"
 refine tqa (tqa (y.at ?_));refine tqa (O.at ?_);refine tqa (Bk X I L ?_);refine tqa (B.at ?_);refine tqa (wpAny_rule ?_);refine j.at ?_;exact tqb h
set_option tactic.hygienic true in
def DC {D:Addr}(X:K.In s.heap)(I:InstAt s.heap x ox C od)(B:lE K C=true)(e:kin_not K C D=true)(h:Q (.bool false) {s with toks:=s.toks+1}):wpAny (model prog w) A (call (.builtin "isinstance") [.ref x,.ref D]) Q E s:=by
 unfold kin_not at e;rw[Qh,Qh,Qh] at e;obtain⟨⟨⟨y,e1⟩,e2⟩,z⟩:=e;refine HL X I B (λ_ u j=>looks_typeIn j (beq_iff_eq.mp e2)) (λ_ u j=>?_) ?_ (λ_ u j=>looks_subIn j (beq_iff_eq.mp z)) h
 ·unfold clsIn at e1;split at e1
  ·rename_i M O v F ho;intro H L J P k q;exact tqa (wpAny_loadPart (k _ _ (j _ _ ho)) (tqb q))
  ·cases e1
 ·exact Bool.eq_false_iff.mpr λq=>of_decide_eq_true y (Value.ref.inj (beq_iff_eq.mp q))
def HM (X:K.In s.heap)(I:InstAt s.heap x ox C od)(j:typeOf (.type T)=pure (.type "type"))(hm:mroIn K C (.type T)=some true)(h:Q (.bool true) s):wpAny (model prog w) A (call (.builtin "isinstance") [.ref x,.type T]) Q E s:=by
 refine call_isinstance_of ?_ (by intro q;cases q)
 have v:=looks_mroIn (M:=model prog w) X hm;obtain⟨z,g,d,B,os⟩:=s;have u:=I.type (M:=model prog w);have y:Sj (model prog w) z (isInstance (.ref x) (.type T)) true:=u.andThen v;refine tqa (u.at ?_);rw[if_neg (by intro q;cases beq_iff_eq.mp q)]
 refine tqa (wpAny_of_eq j ?_);rw[if_pos `d]
 k_delta "plainIsInstance"
 refine tqa (tqa (wpAny_of_eq rfl ?_));refine tqa (y.at ?_);exact tqb (tqb h)
end
end LD
namespace LD
open PySem PySem.Spec PyProof.Rows L2
noncomputable def cU (f:Nat)(c:Call)(s:GA):GE:=λj M=>match s j M with
 |.ok h M=>c f h M
 |_=>.bad
noncomputable def BR (k:D->Mem->Res Fl)(Z:Env):Res D->Res Fl
 |.ok d M=>k d M
 |.err x M=>.ok (.exc x Z) M
 |.bad=>.bad
def hV (a:GE):GS:=λh M=>BR (λ_ M=>.ok (.next h) M) h (a h M)
def hX (t:gG)(a:GE):GS:=λh M=>BR (λx M=>(b8 M (cy t x h)).bind λj M=>.ok (.next j) M) h (a h M)
def xY (a:GE):GS:=λh M=>BR (λx M=>.ok (.ret x) M) h (a h M)
noncomputable def yJ (t:GT)(a b:GE):GE:=λh M=>match t h M with
 |.ok k M=>if k then a h M else b h M
 |_=>.bad
noncomputable def jX (c:Nat)(s:GA):GS:=λh M=>match s h M with
 |.ok j M=>if j.length<=sz then .ok (.exc (.exc c none) h) M else .bad
 |_=>.bad
def cb (o:Option Nat)(a:GE):GE:=λh M=>(a h M).bind λx M=>match x with
 |.exc c _=>.ok (.bl (match o with|some k=>k==c|none=>true)) M
 |_=>.bad
noncomputable def II (i:Nat):Fl->Mem->Res Fl
 |.next h,M=>.ok (.next (h.set i none)) M
 |.ret d,M=>.ok (.ret d) M
 |.exc _ _,_=>.bad
def Ov (i:Nat)(h:GS):Fl->Mem->Res Fl
 |.exc x j,M=>(h (j.set i (some x)) M).bind (II i)
 |fl,M=>.ok fl M
def oJ (b:GS)(i:Nat)(h:GS):GS:=λj M=>(b j M).bind (Ov i h)
def N4 (fa:Fa)(X:Cx)(g:GE):TE:=λv H Q=>∃h j M,bx fa X.K h H v j/\RelM fa X.K h H M/\iJ (g j M) (bw fa X.K h H Q) (λx u=>XW fa X h H x j u)
abbrev DX (fa:Fa)(X:Cx)(e:Expr)(g:GE):Prop:=PE X e (N4 fa X g)
section
variable{fa:Fa}{X:Cx}{a b:Expr}{ga gb:GE}{ta:GT}{pos p:Pos}{es:List Expr}{gs:GA}{n:Nat}
def x_call (f:Nat){call:Call}(C:∀f,jw fa X.prog X.w X.K X.mg X.base n f (call f))(hr:cF (2*n+4) X.A)(hex:X.ex=[])(hg:Gl X x)(hm:∀ad,fa f=some ad->X.mg x=some (.ref ad))(hs:DA fa X (a::es) gs)
 (hdb:(x==("__debug__":Str))=false) (he:notStar a=true) (hpl:es.all notStar=true):DX fa X (.Call (.Name x p) (a::es) [] pos) (cU f call gs):=by
 rintro B s σ H Q I ⟨μ,Z,M,hE,hM,h⟩;unfold cU at h;cases eg:gs Z M with
 |err=>rw[eg] at h;exact h.elim
 |bad=>rw[eg] at h;exact h.elim
 | ok E R=>
   rw[eg] at h;have h:iJ (call f E R) (bw fa X.K μ H Q) (λx P=>XW fa X μ H x Z P):=h;rcases C f with hb|⟨ad,fd,ps,h1,h2,h3,h4,F,_⟩
   ·rw[hb] at h;exact h.elim
   ·have hl:E.length=ps.length:=by
     by_cases hl:E.length=ps.length
     ·exact hl
     ·rw[h4 E R hl] at h;exact h.elim
    refine wpAny_Call_Name_kw (gp I hg (hm ad h1) ?_ hdb);refine PySem.W.callWith_K I.ok.mod.kin h2 (aY (hs pos B s σ H (λU z=>∃j,Ext μ H j z/\RelM fa X.K j z R/\aO fa X.K j z E U) I {μ,Z,M,hE,hM,by rw[eg];exact λU z j Y m1 r1=>⟨j,Y,m1,r1⟩}) λus s1 ⟨U,z,O,r,j,Y,m1,r1⟩=>{O.kIn,?_}) (bI he) (dQ hpl)
    have hsp:Ji fa X.K ps.length (call f) U z Q λCv dx J=>∃y P v C' c p,Cv=.ref C'/\Ext j z v J/\RelM fa X.K v J P/\y=.exc c p/\fa (fk c)=some C'/\y8 J c dx p/\XW fa X μ H y Z P:=by
     refine{by rw[r1.length];exact hl,j,R,E,m1,r1,?_}
     cases S:call f E R with
     |ok d M2=>rw[S] at h;exact bw.ext h Y
     |err y M2=>rw[S] at h;exact λC dx c p J v y' m ex hc hn=>{_,M2,v,C,c,p,rfl,y',m,ex,hc,hn,h}
     |bad=>rw[S] at h;exact h.elim
    have hl2:us.length=ps.length:=by rw[<- r.length,r1.length];exact hl
    have hb:=h3 s1 us O.kIn (by simpa using hl2)
    rw[List.append_nil] at hb;refine wpAny_call (codeAny_mono (F.run X.A X.stack s1 z {us,[]} us U Q _ hr O.env0 hb r hsp) λr' s' L=>?_);cases r' with
    | error e=>
      unfold CR at L;obtain⟨a',C',dx,J,rfl,I',fl,y,P,v,C2,c,p,S,ye,m',ey,hc,hn,hw⟩:=A9 O hex L;cases S;exact hw B σ J v s' a' C' dx c p I' (Y.trans ye) ((hE.ext Y).ext ye) m' ey hc hn fl
    | ok fl=>
      cases fl with
      |ret u=>exact O.after L
      |next=>exact False.elim L
      |brk=>exact False.elim L
      |cont=>exact False.elim L
def Mg (S:DT fa X c ta)(P:DX fa X a ga)(R:DX fa X b gb):DX fa X (.IfExp c a b pos) (yJ ta ga gb):=
 bJ (uR S P R) λW H Q ⟨B,j,M,F,O,h⟩=>by
  unfold yJ at h;cases u:ta j M with
  |err=>rw[u] at h;exact h.elim
  |bad=>rw[u] at h;exact h.elim
  | ok k v=>
    rw[u] at h;refine{B,j,M,F,O,?_};rw[u];intro I E z U;have go:∀g:GE,iJ (g j v) (bw fa X.K B H Q) (λx J=>XW fa X B H x j J)->N4 fa X g W I Q:=λg q=>by
     refine{E,j,v,F.ext z,U,?_};cases e:g j v with
     |ok d L=>rw[e] at q;exact bw.ext q z
     |err y L=>rw[e] at q;exact XW.ext q z
     |bad=>rw[e] at q;exact q
    cases k with
    |true=>exact go ga h
    |false=>exact go gb h
def MA (I:DX fa X a ga)(hs:swapsWith a none pos.line X.env=pure false):DS fa X (.Expr a pos) (hV ga):=
 fg (ny I hs) λP O H ⟨L,z,M,u,F,h⟩=>{L,z,M,u,F,by
  unfold hV at h;cases e:ga z M with
  |ok d E=>rw[e] at h;exact λv B j y J r1=>h O B j y (u.ext y) J
  |err x E=>rw[e] at h;exact h
  |bad=>rw[e] at h;exact h.elim}
def Jt (R:DX fa X a ga)(S:PG X tg (gT fa X.K t))(hs:swapsWithSole [tg] a pos.line X.env=pure false)(U:swappedStores [tg] a X.env=pure none)(h1:(assignEach [tg] X.env).map (·.2)=[assign tg X.env]) :
 DS fa X (.Assign [tg] a pos) (hX t ga):=
 fg (uL R S hs U h1) λD σ H ⟨W,y,M,I,Q,h⟩=>{W,y,M,I,Q,by
  unfold hX at h;cases e:ga y M with
  | ok d P=>
    rw[e] at h;obtain⟨E,M2,u,q⟩:=aT h;cases z:cy t d y with
    |none=>rw[z] at u;cases u
    | some Y=>
      rw[z] at u;cases u;exact λv O j L J r1=>{j,y,_,d,E,I.ext L,J,r1,z,λF B=>q F O j L B J}
  |err x P=>rw[e] at h;exact h
  |bad=>rw[e] at h;exact h.elim}
def Jr (z:DX fa X a ga):DS fa X (.Return (some a) pos) (xY ga):=
 fg (As z) λE F H ⟨B,j,M,v,y,h⟩=>{B,j,M,v,y,by
  unfold xY at h;cases e:ga j M with
  |ok d u=>rw[e] at h;exact h
  |err x u=>rw[e] at h;exact h
  |bad=>rw[e] at h;exact h.elim}
end
noncomputable abbrev ow:List Qj:=[.type "ValueError",.type "Exception",.type "BaseException",.type "object"]
noncomputable def Jp (K:Qf)(C:Addr)(f:ClassData->Addr->List Qj->String->Bool):Bool:=match K.lookup C with
 | some {.type "type",_,.cls h,sl}=>(match h.mro,sl.toList with
   |.ref j::bm,[_,_,_,_,some (.builtin n),_]=>f h j bm n
   |_,_=>false)
 |_=>false
set_option tactic.hygienic true in
def Ad {K:Qf}(X:K.In h)(q:Jp K C f=true) :
 ∃u N nm q bs hdct sn sub ab col dd k0 k1 k2 k3 k5 dl n j,f {nm,bs,.ref j::u,N,q,hdct,sn,sub,ab,col,dl} j u n=true/\h.get? C=some {.type "type",dd,.cls {nm,bs,.ref j::u,N,q,hdct,sn,sub,ab,col,dl},#[k0,k1,k2,k3,some (.builtin n),k5]}:=by
 unfold Jp at q;split at q
 ·rename_i dd y sl ho;split at q
  ·rename_i j u k0 k1 k2 k3 n k5 hm hs;obtain⟨nm,bs,B,ns,qn,hd,sn,sub,ab,col,z⟩:=y;subst hm;have v:sl=#[k0,k1,k2,k3,some (.builtin n),k5]:=by
    obtain⟨l⟩:=sl;simp only at hs;rw[hs]
   subst v;exact{_,_,_,_,_,_,_,_,_,_,_,_,_,_,_,_,_,_,_,q,X _ _ ho}
  ·cases q
 ·cases q
def DF {K:Qf}(X:K.In h)(q:PySem.W.excIn K C bmB newId=true) :
 ∃j N nm q bs hdct sn sub ab col dd k0 k1 k2 k3 k5 v,h.get? C=some (excClassObj nm q C N bs j hdct sn sub ab col dd k0 k1 k2 k3 k5 newId)/\h.Ns N v/\v "__init__"=none/\OwnTail h bmB j:=by
 obtain⟨j,ns,nm,qn,bs,hd,sn,sub,ab,col,dd,k0,k1,k2,k3,k5,dl,n,z,q,ho⟩:=Ad X q;simp only[Qh,beq_iff_eq,RI] at q;obtain⟨⟨⟨⟨⟨rfl,rfl⟩,rfl⟩,y⟩,hok⟩,u⟩:=q;exact{j,ns,nm,qn,bs,hd,sn,sub,ab,col,dd,k0,k1,k2,k3,k5,_,ho,.of_isNs (PySem.W.isNs_of_in X hok),PySem.W.nsMap_none_of_in X hok u,PySem.W.tail_of_in X y}
def AJ (x:eK P w H h a o):∃ob,h.get? a=some ob:=by
 cases o with
 |lst xs=>obtain⟨_,_,_,_,e⟩:=x;exact{_,e}
 |tup xs=>obtain⟨_,_,_,ob,e,_⟩:=x;exact{_,e}
 |dK j=>obtain⟨_,_,_,_,o,_,_,e,_⟩:=x;exact{_,e}
 |dT j=>obtain⟨_,_,_,_,o,_,_,e,_⟩:=x;exact{_,e}
 |set S n=>obtain⟨o,_,_,_,e,_⟩:=x;exact{_,e}
 |ins C v fs=>obtain⟨_,_,_,e,_⟩:=x;exact{_,e}
 |own y=>exact x
 |xd fs=>obtain⟨_,⟨_,_,_,e,_⟩,_⟩:=x;exact{_,e}
 |rng lo z=>obtain⟨_,_,_,e⟩:=x;exact{_,e}
 |frz ob u=>obtain⟨e,_⟩:=x;exact{_,e}
 |tbl ps=>exact{_,x}
 |met f y=>exact{_,x}
 |ext B=>obtain⟨_,e,_⟩:=x;exact e
 |dn es=>obtain⟨_,_,o,e,_⟩:=x;exact⟨o,e⟩
def lX (I:Inv X pins σ H s)(h:X.ex=[])(hn:s.heap.get? e=none):ni X e/\H e=none:=by
 refine{{?_,λp v z=>?_},?_}
 ·cases q:X.s₀.heap.get? e with
  |none=>rfl
  | some o=>
    obtain⟨y,j⟩:=I.base.there e o q (by rw[h];simp)
    rw[hn] at j;cases j
 ·have:=(I.pin p (RA _ v)).1;rw[z,hn] at this;cases this
 ·cases q:H e with
  |none=>rfl
  | some u=>
    obtain⟨ob,z⟩:=AJ (I.hok e u q);rw[hn] at z;cases z
section
variable{fa:Fa}{X:Cx}{a b:Expr}{ga gb:GE}{ta:GT}{pos p:Pos}{es:List Expr}{gs:GA}{n:Nat}
set_option tactic.hygienic true in
def GP (c:Nat){x:Str}(hx:∃C,X.mg x=some (.ref C)/\fa (fk c)=some C/\PySem.W.excIn X.K C ow "ValueError.__new__"=true)(L:X.ex=[])(hg:Gl X x)(hc:X.calm=true)(hs:DA fa X (a::es) gs)
 (J:(x==("__debug__":Str))=false) (he:notStar a=true) (S:es.all notStar=true):DS fa X (.Raise (some (.Call (.Name x np) (a::es) [] cpos)) none pos) (jX c gs):=by
 rintro u s σ H D' I ⟨μ,Z,M,hE,hM,h⟩;obtain⟨C,Q,O,P⟩:=hx;obtain⟨bm,N,nm,q,bs,hdct,sn,sub,ab,col,dd,k0,k1,k2,k3,k5,mN,hC,hN,R,T⟩:=DF I.ok.mod.kin P;unfold jX at h;cases z:gs Z M with
 |err=>rw[z] at h;exact h.elim
 |bad=>rw[z] at h;exact h.elim
 | ok ds M1=>
   rw[z] at h;dsimp only at h;split at h
   ·next hz=>
    refine wpAny_Raise_call_subT (nm:=nm) (q:=q) (N:=N) (bs:=bs) (hdct:=hdct) (sn:=sn) (sub:=sub) (ab:=ab) (col:=col) (dd:=dd) (k0:=k0) (k1:=k1) (k2:=k2) (k3:=k3) (k5:=k5) PySem.F.excBase_ValueError (T.hasType `k) (I.ok.hd hc) (dQ (by simp[he,S])) R (gp I hg Q {rfl,?_} J)
    have ar:=aY (hs cpos u s σ H (λvs v=>∃j,Ext μ H j v/\RelM fa X.K j v M1/\aO fa X.K j v ds vs) I {μ,Z,M,hE,hM,by rw[z];exact λvs v j E U r1=>⟨j,E,U,r1⟩}) (Q':=λY s2=>([]:List (Str×Qj))=[]/\Y.length<=sizeLine/\s2.heap.get? C=some (excClassObj nm q C N bs bm hdct sn sub ab col dd k0 k1 k2 k3 k5 "ValueError.__new__")/\s2.heap.Ns N mN/\OwnTail s2.heap ow bm/\∀B e,Heap.MadeExcOf s2.heap B e (.ref C) Y->X.xe (.ref e) {s2 with heap:=B}) λY s1 ⟨vs,v,y,r,j,E,U,r1⟩=>by
     refine{rfl,?_,y.bk _ _ hC,hN.keeps y.bk,T.keeps y.bk,λB e hm=>?_}
     ·rw[<- r.length,r1.length,<- dM];exact hz
     ·obtain⟨t,ht,_,_⟩:=hm.there;obtain⟨n1,n2⟩:=lX y L hm.new;exact h u σ v j {s1 with heap:=B} e C none c none (y.kept hm.keeps) E (hE.ext E) U rfl O rfl {n1,n2,_,_,ht,rfl,rfl,rfl,.inl rfl}
    rw[bI he] at ar ⊢;exact PySem.Calls.evalArgs_plain ar
   ·exact h.elim
end
structure ng (fa:Fa) (K:Qf):Prop where
 g:∀c C,fa (fk c)=some C->lE K C=true/\PySem.W.mroIn K C (.type "ValueError")=some true/\PySem.W.isIn K (.ref C) C=true
 d:∀c C D,fa (fk c)=some C->fa 999=some D->PySem.W.isIn K (.ref C) D=true/\PySem.W.mroIn K C (.ref D)=some true/\PySem.W.mroIn K D (.type "BaseException")=some true/\PySem.W.typeIn K (.ref D)=some (.type "type")
 n:∀c C c' C',fa (fk c)=some C->fa (fk c')=some C'->c'≠c->PySem.W.kin_not K C C'=true
section
variable{fa:Fa}{X:Cx}{pins:List (Addr×Obj)}{σ:L2.St}{H:Hp}{s:Qn}{μ:Mu}
def rf (I:Inv X pins σ H s)(r:Rep fa X.K μ H (.exc c p) v):∃a C u od,v=.ref a/\fa (fk c)=some C/\RO s.heap a u C od:=by
 obtain⟨a,C,y,rfl,hf,j,hn⟩:=r;obtain⟨⟨o,J,h1,h2,h3,h4,E⟩,_,_⟩:=I.hok a _ j;have h:PySem.W.notCls o=true:=by unfold PySem.W.notCls;rw[h4]
 cases p with
 | none=>
   exact{a,C,o,none,rfl,hf,h1,h2,h,by rw[h3,hn];trivial}
 | some i=>
   obtain⟨d,rfl,hd⟩:=hn;obtain⟨F,⟨od,B,z,e,_⟩,_⟩:=I.hok d _ hd;exact{a,C,o,some od,rfl,hf,h1,h2,h,by rw[h3];exact e}
def pS (fa:Fa)(K:Qf)(o:Option Nat)(w:V)(xs:List V)(H:Hp)(Q:VK):Prop:=∃μ c p v,xs=[v,w]/\Rep fa K μ H (.exc c p) v/\Q (.bl (match o with|some k=>k==c|none=>true)) H
def HH (B:ng fa X.K){D:Addr}(j:fa (fk k)=some D):c4 X (.builtin "isinstance") (pS fa X.K (some k) (.ref D)):=by
 intro pins s σ H xs L Q I r h;obtain⟨μ,c,p,v,rfl,F,q⟩:=h;obtain⟨u,w,rfl,r1,r2⟩:=vals2 r;obtain rfl:w=Value.ref D:=r2;obtain⟨a,C,J,od,rfl,hf,E⟩:=rf I F;obtain rfl:u=Value.ref a:=r1;dsimp only at q;by_cases y:k=c
 ·subst y;rw[j] at hf;cases hf;rw[beq_self_eq_true] at q;exact PySem.W.isi_call I.kIn (λM=>E.type) (B.g k D j).2.2 (by intro z;cases z) {.bl true,H,I,rfl,q}
 ·rw[Q8.mpr y] at q;exact DC I.kIn E (B.g c C hf).1 (B.n c C k D hf j y) {.bl false,H,I.tok _,rfl,q}
def HJ (B:ng fa X.K){D:Addr}(y:fa 999=some D):c4 X (.builtin "isinstance") (pS fa X.K none (.ref D)):=by
 intro pins s σ H xs J Q I r h;obtain⟨μ,c,p,v,rfl,E,q⟩:=h;obtain⟨u,w,rfl,r1,r2⟩:=vals2 r;obtain rfl:w=Value.ref D:=r2;obtain⟨a,C,F,od,rfl,hf,j⟩:=rf I E;obtain rfl:u=Value.ref a:=r1;exact PySem.W.isi_call I.kIn (λM=>j.type) (B.d c C D hf y).1 (by intro z;cases z) {.bl true,H,I,rfl,q}
def HI (y:ng fa X.K):c4 X (.builtin "isinstance") (pS fa X.K none (.ty "ValueError")):=by
 intro pins s σ H xs E Q I r h;obtain⟨μ,c,p,v,rfl,z,q⟩:=h;obtain⟨u,w,rfl,r1,r2⟩:=vals2 r;obtain rfl:w=Value.type "ValueError":=r2;obtain⟨a,C,B,od,rfl,hf,j⟩:=rf I z;obtain rfl:u=Value.ref a:=r1;exact HM I.kIn j (by kernel_rfl) (y.g c C hf).2.1 {.bl true,H,I,rfl,q}
end
section
variable{fa:Fa}{X:Cx}{a:Expr}{ga:GE}{pos p1 p2:Pos}{x:Str}
def rh (h:tE fa X.K (cb o ga) σ H Q):tE fa X.K ga σ H λv y=>pS fa X.K o w [v,w] y Q:=by
 obtain⟨μ,J,M,z,E,h⟩:=h;exact t1 z E h λx I v y u F B j r1 h1=>by
  cases x with
  |exc c p=>exact{u,c,p,v,rfl,r1,a7 j (bw.ext h1 F) rfl}
  |_=>exact h1.elim
def qP (k:Nat)(z:ng fa X.K)(E:∃D,X.mg x=some (.ref D)/\fa (fk k)=some D)(y:DE fa X a ga)(B:Gl X "isinstance")(hm:X.mg "isinstance"=none)(u:Gl X x)(j:(x==("__debug__":Str))=false)
 (he:starEach [a,.Name x p1] X.env=(false,eval a X.env)::starEach [.Name x p1] X.env):DE fa X (.Call (.Name "isinstance" p2) [a,.Name x p1] [] pos) (cb (some k) ga):=by
 obtain⟨D,h1,h2⟩:=E;exact bJ (iU (HH z h2) B hm `k (bS y (bS (iT u h1 (v:=.ref D) rfl j) eA `r) he) `d `d he `r) λσ H Q h=>rh h
def GY (z:ng fa X.K)(E:∃D,X.mg x=some (.ref D)/\fa 999=some D)(y:DE fa X a ga)(B:Gl X "isinstance")(hm:X.mg "isinstance"=none)(u:Gl X x)(j:(x==("__debug__":Str))=false)
 (he:starEach [a,.Name x p1] X.env=(false,eval a X.env)::starEach [.Name x p1] X.env):DE fa X (.Call (.Name "isinstance" p2) [a,.Name x p1] [] pos) (cb none ga):=by
 obtain⟨D,h1,h2⟩:=E;exact bJ (iU (HJ z h2) B hm `k (bS y (bS (iT u h1 (v:=.ref D) rfl j) eA `r) he) `d `d he `r) λσ H Q h=>rh h
def GX (z:ng fa X.K)(y:DE fa X a ga)(B:Gl X "isinstance")(hm:X.mg "isinstance"=none)(j:Gl X "ValueError")(u:X.mg "ValueError"=none)
 (he:starEach [a,.Name "ValueError" p1] X.env=(false,eval a X.env)::starEach [.Name "ValueError" p1] X.env):DE fa X (.Call (.Name "isinstance" p2) [a,.Name "ValueError" p1] [] pos) (cb none ga):=
 bJ (iU (HI z) B hm `k (bS y (bS (wU j u `k (v:=.ty "ValueError") rfl) eA `r) he) `d `d he `r) λσ H Q h=>rh h
end
set_option tactic.hygienic true in
def wd {K:Qf}{x C D:Addr}(X:K.In s.heap)(I:RO s.heap x ox C od)
 (y:PySem.W.mroIn K D (.type "BaseException")=some true) (L:PySem.W.typeIn K (.ref D)=some (.type "type")) (hs:PySem.W.mroIn K C (.ref D)=some true) (h:Q true s):wpAny (model prog w) A (excMatches (.ref x) (.ref D)) Q E s:=by
 obtain⟨O,g,d,t,os⟩:=s;have v:=PySem.W.looks_mroIn (M:=model prog w) X hs;have z:=PySem.W.looks_mroIn (M:=model prog w) X y;have F:=PySem.W.looks_typeIn (M:=model prog w) X L;have f:=tc_notTuple;obtain⟨cd,u,_⟩:=Rb.mp y;unfold PySem.W.clsIn at u;split at u
 ·rename_i Y d' J P ho;have j:=X _ _ ho;have B:Sj (model prog w) O (isType (.ref D)) true:=λR U S s' k q=>by
   exact tqa (wpAny_loadPart (k _ _ j) (tqb q))
  refine tqa (tqa (F.at (wpAny_of_eq f ?_)))
  repeat (first|with_reducible refine tqa (B.at ?_)|with_reducible refine z.at ?_|with_reducible refine v.at ?_|with_reducible refine wpAny_loadPart_at I.at_ ?_|wp_step)
  rw[I.cls];refine v.at ?_
  repeat (first|exact h|wp_step)
 ·cases u
def qr (f:mv New C dx a s.heap H)(h:Q () s):wpAny M A (setFlight (.ref a) none) Q E s:=by
 obtain⟨_,_,o,B,h1,_,_,h4,z⟩:=f;rcases z with t|⟨T,y,ts,t1,_,_,_,j,u,v⟩
 ·refine tqa (tqf h1 h4 t ?_);rw[if_neg `d]
  exact tqb h
 ·refine tqa (tqf h1 h4 t1 ?_);rw[if_pos `s]
  refine wpAny_setField j u (QY.mp v).1 ?_;have e:=Heap.update_setField_same s.heap T y ts 3 .none j u v;show Q () {s with heap:=s.heap.update T (Obj.mapFields (·.setIfInBounds 3 .none))}
  rw[e];exact h
section
variable{X:Cx}{pins:List (Addr×Obj)}{σ:L2.St}{H:Hp}{s:Qn}
def xn (I:Inv X pins σ H s)(W:X.N.Nodup)(hi:X.N[i]?=some x)(hk:X.env.scope.names.lookup x=some .local)
 (h:∀R,Inv X pins (σ.set i none) H R->Q () R):wpAny M A (do bindName X.env x .none;unbindBehindTheSuite X.env x ps) Q E s:=by
 obtain⟨m,hn,hl⟩:=id I.loc;have B:(X.env.scope.kind==.class||(X.env.scope.kind==.module&&X.env.locals != X.env.globals))=false:=by rw[I.ok.kind];rfl
 refine wpAny_nameGoes_keeps hk hn B λh' v P hs=>h _ ?_;obtain⟨oL,_,_,Y,_⟩:=id hn;have n0:∀b o,X.s₀.heap.get? b=some o->b≠X.env.locals:=λb o e=>Q3 (QI (Qy e) I.ok.above);refine{I.ok,I.os,I.bare,{λb o e n L J=>?_,λb o e n L J=>?_,I.base.free,λb o e J=>?_,I.base.tups,I.base.frzs,I.base.tbls},{_,P,λj y v' e1 e2 U=>?_},λy c e=>?_,I.free,I.freeC,λp hp=>?_,λb ob e=>?_,by simpa using I.len}
 ·exact(hs.2 b (n0 b o e)).trans (I.base.keep b o e n L J)
 ·obtain⟨sl,e1⟩:=I.base.slot b o e n L J;exact{sl,(hs.2 b (n0 b o e)).trans e1}
 ·obtain⟨o',e1⟩:=I.base.there b o e J;exact{o',(hs.2 b (n0 b o e)).trans e1}
 ·by_cases O:j=i
  ·subst O;by_cases F:j<σ.length
   ·rw[QW F] at e2;cases e2
   ·rw[RG (by simpa using F)] at e2;cases e2
  ·rw[QH (Ru O)] at e2;obtain⟨u',r',q⟩:=hl j y v' e1 e2 U;refine{u',r',?_};rcases q with⟨k,e⟩|⟨k,c,e,z⟩
   ·refine .inl {k,?_};have:y≠x:=λe=>O (oV W e1 (e ▸ hi));simp[this,e]
   ·exact .inr {k,c,e,z.sameBut hs (I.cne y c e)}
 ·obtain⟨S,z⟩:=I.cell y c e;exact{S,z.sameBut hs (I.cne y c e)}
 ·obtain⟨e,n,ne,nf,d⟩:=I.pin p hp;exact{(hs.2 p.1 ne).trans e,n,ne,nf,d}
 ·refine(I.hok b ob e).stay (λc S u q=>(hs.2 c ?_).trans q) (λ_ q=>q) λ_ _ q=>q;rintro rfl;rcases u with u|u
  ·rw[<- u,I.free] at e;cases e
  ·rw[I.free] at u;cases u
noncomputable abbrev nI (X:Cx)(pn:List (Addr×Obj))(E:Qj->Qn->Prop):Cx:={X with pn:=pn,xe:=E}
noncomputable abbrev qm (X:Cx)(v:Qj)(E:Qj->Qn->Prop):Cx:={X with A:=X.A.mark (some v),calm:=false,xe:=E}
def sC (I:Inv X pins σ H s)(E:Qj->Qn->Prop):Inv (nI X (X.pn++pins) E) [] σ H s:=
 {⟨I.ok.mod,I.ok.kind,I.ok.glob,I.ok.blt,I.ok.above,I.ok.inj,I.ok.has,I.ok.cab,I.ok.hd,I.ok.frames,I.ok.stk,I.ok.exf,I.ok.bs,I.ok.bsz,I.ok.noex,I.ok.exfs,I.ok.funs,I.ok.frf⟩,I.os,I.bare,I.base,I.loc,I.cell,I.free,I.freeC,λp hp=>I.pin p (by simpa using hp),I.hok,I.len}
def d5 (I:Inv (nI X (X.pn++pins) E) pins' σ H s):Inv X pins σ H s:=
 {⟨I.ok.mod,I.ok.kind,I.ok.glob,I.ok.blt,I.ok.above,I.ok.inj,I.ok.has,I.ok.cab,I.ok.hd,I.ok.frames,I.ok.stk,I.ok.exf,I.ok.bs,I.ok.bsz,I.ok.noex,I.ok.exfs,I.ok.funs,I.ok.frf⟩,I.os,I.bare,I.base,I.loc,I.cell,I.free,I.freeC,λp hp=>I.pin p (RA _ hp),I.hok,I.len}
def jn (I:Inv X pins σ H s)(v:Qj)(E:Qj->Qn->Prop):Inv (qm X v E) pins σ H s:=
 {{I.ok.mod,I.ok.kind,I.ok.glob,I.ok.blt,I.ok.above,I.ok.inj,I.ok.has,I.ok.cab,(λz=>nomatch z),I.ok.frames,I.ok.stk,I.ok.exf,I.ok.bs,I.ok.bsz,I.ok.noex,I.ok.exfs,I.ok.funs,I.ok.frf},I.os,I.bare,I.base,I.loc,I.cell,I.free,I.freeC,I.pin,I.hok,I.len}
def hI (hh:X.calm=true->X.A.handled=none)(I:Inv (qm X v E) pins σ H s):Inv X pins σ H s:=
 {⟨I.ok.mod,I.ok.kind,I.ok.glob,I.ok.blt,I.ok.above,I.ok.inj,I.ok.has,I.ok.cab,hh,I.ok.frames,I.ok.stk,I.ok.exf,I.ok.bs,I.ok.bsz,I.ok.noex,I.ok.exfs,I.ok.funs,I.ok.frf⟩,I.os,I.bare,I.base,I.loc,I.cell,I.free,I.freeC,I.pin,I.hok,I.len}
end
section
variable{fa:Fa}{X:Cx}{pos np hp:Pos}{x nm:Str}{i:Nat}{body suite:List Stmt}{b0:Stmt}{gB gH:GS}
def bx.unset {K:Qf}(h:bx fa K μ H σ Z)(i:Nat):bx fa K μ H (σ.set i none) (Z.set i none):=by
 refine{by simp[h.len],λj d e=>?_}
 by_cases u:j=i
 ·subst u;by_cases hl:j<Z.length
  ·rw[QW hl] at e;cases e
  ·rw[RG (by simpa using hl)] at e;cases e
 ·rw[QH (Ru u)] at e;obtain⟨v,h1,h2⟩:=h.at' j d e;exact{v,by rw[QH (Ru u)];exact h1,h2}
set_option tactic.hygienic true in
def My (hc:ng fa X.K)(hx:∃D,X.mg x=some (.ref D)/\fa 999=some D)(hex:X.ex=[])(J:X.stack=X.env::X.outer)(hfr:X.env.frame=some X.env.locals)(hN:X.N.Nodup)(hi:X.N[i]?=some nm)(hl:X.env.scope.names.lookup nm=some .local)
 (hg:Gl X x) (hdb:(x==("__debug__":Str))=false) (hb:∀pn E,kK fa (nI X pn E) body gB) (hh:∀v E,kK fa (qm X v E) (b0::suite) gH) :
 DS fa X (.Try body [.ExceptHandler (some (.Name x np)) (some nm) (b0::suite) hp] [] [] pos) (oJ gB i gH):=by
 rintro pins s σ H D' I ⟨μ,Z,M,hE,hM,h⟩;obtain⟨D,hmD,hfD⟩:=hx;obtain⟨fl,M1,e,q⟩:=aT h;refine wpAny_Try_except (wpAny_mono (hb (X.pn++pins) (λe s₁=>wpAny (model X.prog X.w) X.A (noteFrame e X.env) (λ_ s₂=>wpAny (model X.prog X.w) X.A (setFlight e none) (λ_ s₃=>wpAny (model X.prog X.w) X.A (handleBy e X.env [.ExceptHandler (some (.Name x np)) (some nm) (b0::suite) hp]) (SP X pins D') X.xe s₃) X.xe s₂) X.xe s₁) [] s σ H D' (sC I _) {μ,Z,M,hE,hM,?_}) (λf s1 z=>?_) λ_ _ z=>z)
 ·rw[e];cases fl with
  |next ρ'=>exact q
  |ret d=>exact q
  | exc y ρ1=>
    intro pins' σ' U L s' a C S c p R ye hE1 hM1 ey hcC hn fl;have hall:=fl.1.2;refine qT (by rw[<- J];exact R.ok.frames) (by rw[<- J];exact R.stack) hfr fl (λb z=>(lX R hex (RX z)).1) R.hok (by rw[<- J];exact R.stkFree) λh' ch P u hok fl2=>?_
    have Y:=vh (d5 R) (λb hb=>{(P b hb).1.1,(P b hb).2.2,(P b hb).1.2}) (by rw[J];exact u) hok
    have O:=hc.d c C D hcC hfD;obtain⟨nw,ha,o,vs,h1,h2,h3,h4,tr⟩:=id fl2;have hxat:xG C S a h':={o,vs,h1,h2,h3,h4,by
     rcases tr with t|⟨T,oT,ts,t,_⟩
     ·exact(QY.mp t).1
     ·exact(QY.mp t).1}
    have hnc:PySem.W.notCls o=true:=by unfold PySem.W.notCls;rw[h4]
    refine wpAny_handleBy_cons (codeAny_handlers_test (gp (jn Y (.ref a) X.xe) hg hmD ?_ hdb)) (by intro z;cases z)
    have IA:∃od,RO h' a o C od:=by
     cases p with
     | none=>
       exact{none,h1,h2,hnc,by rw[h3,hn];trivial}
     | some k=>
       obtain⟨d,rfl,hd⟩:=hn;obtain⟨mA,⟨od,es,ep,ed,_⟩,_⟩:=hok d _ hd;exact{some od,h1,h2,hnc,by rw[h3];exact ed}
    obtain⟨od,IA⟩:=IA;refine wd Y.kIn IA O.2.2.1 O.2.2.2 O.2.1 ?_;refine codeAny_handlers_suite_as (qr fl2 ?_);have I3:Inv X pins σ' (upd U a (.ext (xG C S a))) {s' with heap:=h'}:=sy Y hex ha nw.1 ⟨o,vs,h1,h4⟩ hall {hxat,⟨o,h1⟩,(by rintro g1 g2 ⟨o,vs,k1,k2⟩ kk;exact{o,vs,kk o k1,k2})}
    have xa:Ext L U L (upd U a (.ext (xG C S a))):=Ext.alloc hM1 ha;have rp:Rep fa X.K L (upd U a (.ext (xG C S a))) y (.ref a):=by
     rw[ey];refine{a,C,S,rfl,hcC,bR,?_};cases p with
     |none=>exact hn
     |some k=>exact let⟨d,z1,z2⟩:=hn;{d,z1,by rw[aI (aX z2 ha)];exact z2}
    refine lI I3 hN hi (.inl hl) (v:=.ref a) rfl (λs4 I4=>?_) (.inr hl);obtain⟨fl3,M2,e3,q3⟩:=aT q;refine wpAny_mono (hh (.ref a) _ pins s4 (σ'.set i (some (.ref a))) (upd U a (.ext (xG C S a))) {nx:=λQ H2=>D'.nx (Q.set i none) H2,rt:=D'.rt} (jn I4 (.ref a) _) {L,_,M1,(hE1.ext xa).set rp,hM1.alloc ha,?_}) (λf s5 z=>?_) λ_ _ z=>z
    ·rw[e3];cases fl3 with
     |next ρ2=>exact λQ H2 μ2 x2 hE2 hM2=>q3 (Q.set i none) H2 μ2 ((ye.trans xa).trans x2) (hE2.unset i) hM2
     |ret d=>exact bw.ext q3 (ye.trans xa)
     |exc=>exact q3.elim
    ·dsimp only;cases f with
     | next=>
       obtain⟨j,B,F,z⟩:=z;exact xn (hI Y.ok.hd F) hN hi hl λs6 I6=>{_,B,I6,z}
     | ret u=>
       obtain⟨v,j,B,F,r5,z⟩:=z;exact xn (hI Y.ok.hd F) hN hi hl λs6 I6=>{v,_,B,I6,r5,z}
     |brk=>obtain⟨_,_,_,z⟩:=z;exact z.elim
     |cont=>obtain⟨_,_,_,z⟩:=z;exact z.elim
 ·cases f with
  |next=>obtain⟨j,B,F,z⟩:=z;exact wpAny_execs_nil {j,B,d5 F,z}
  |ret u=>obtain⟨v,j,B,F,r5,z⟩:=z;exact{v,j,B,d5 F,r5,z}
  |brk=>obtain⟨j,B,F,z⟩:=z;exact{j,B,d5 F,z}
  |cont=>obtain⟨j,B,F,z⟩:=z;exact{j,B,d5 F,z}
end
noncomputable def IH (K:Qf)(cl:List (Nat×Addr))(D:Addr):Bool:=PySem.W.mroIn K D (.type "BaseException")==some true&&PySem.W.typeIn K (.ref D)==some (.type "type") &&
 cl.all λq=>lE K q.2&&PySem.W.mroIn K q.2 (.type "ValueError")==some true&&PySem.W.isIn K (.ref q.2) q.2&&PySem.W.isIn K (.ref q.2) D&&PySem.W.mroIn K q.2 (.ref D)==some true&&cl.all λr=>r.1==q.1||PySem.W.kin_not K q.2 r.2
noncomputable def sG (l cl:List (Nat×Addr))(D:Addr):Fa:=λi=>if i<999 then l.lookup i else if i=999 then some D else cl.lookup (i-1000)
set_option tactic.hygienic true in
noncomputable def lookup_mem:∀{l:List (Nat×Addr)}{c:Nat}{C:Addr},l.lookup c=some C->(c,C)∈l
 |[],_,_,h=>by cases h
 | (a,b)::r,c,C,h=>by
   rw[QZ] at h;split at h
   ·next e=>cases h;rw[eq_of_beq e];exact Qv
   ·exact Qm _ (lookup_mem h)
def jR {D:Addr}(h:sG l cl D (fk c)=some C):(c,C)∈cl:=by
 unfold sG fk at h;rw[if_neg `a,if_neg `a,Sh] at h
 exact lookup_mem h
def IG {K:Qf}{D:Addr}(h:IH K cl D=true):ng (sG l cl D) K:=by
 unfold IH at h;simp only[Qh,beq_iff_eq,Qq,Ry] at h;obtain⟨⟨h1,h2⟩,h3⟩:=h;refine{λc C e=>?_,λc C v e j=>?_,λc C y u e j n=>?_}
 ·obtain⟨⟨⟨⟨⟨a1,a2⟩,a3⟩,a4⟩,a5⟩,a6⟩:=h3 _ (jR e);exact⟨a1,a2,a3⟩
 ·obtain⟨⟨⟨⟨⟨a1,a2⟩,a3⟩,a4⟩,a5⟩,a6⟩:=h3 _ (jR e);cases j;exact⟨a4,a5,h1,h2⟩
 ·obtain⟨⟨⟨⟨⟨a1,a2⟩,a3⟩,a4⟩,a5⟩,a6⟩:=h3 _ (jR e);exact(a6 _ (jR j)).elim (λz=>absurd z n) id
end LD
namespace LD
open PySem PySem.Spec PyProof.Rows L2 PySem.SeqAt
def pJ (M:Mem)(x:D):Option (List Bool):=(gE M x).bind boolsOf
def yL (a:GE):GE:=λh M=>(a h M).bind λx M=>match pJ M x with
 |some bs=>.ok (.int (bs.count true)) M
 |none=>.bad
def yK (a:GE):GE:=λh M=>(a h M).bind λx M=>match pJ M x with
 |some bs=>if true∈bs then .ok (.int (bs.idxOf true)) M else .bad
 |none=>.bad
noncomputable def qj:Qj->Bool
 |.bool b=>b
 |_=>false
section
variable{fa:Fa}{X:Cx}
def eqT {bs:List Bool}(h:us=bs.map Value.bool):∀y,y∈us.toArray->EqAt A s y (.bool true) (qj y):=λy u=>by
 have u:y∈us:=by simpa using u
 rw[h] at u;obtain⟨b,_,rfl⟩:=QS.mp u;have e:=EqAt.bool_bool (A:=A) (s:=s) b true;have q:(b==true)=qj (.bool b):=by cases b<;>rfl
 rw[<- q];exact e
def PF {bs:List Bool}:(bs.map Value.bool).countP qj=bs.count true:=by
 induction bs with
 |nil=>rfl
 |cons b r h=>cases b<;>simp[List.countP_cons,qj,h]
def sN:∀{us:List Qj}{bs:List Bool},PyProof.Rows.LSm.BoolsAre us bs->us=bs.map Value.bool:=by
 intro us bs h;induction h with
 |nil=>rfl
 |cons _ _ u=>simp[u]
def OU (fa:Fa)(K:Qf)(x:V)(vs:List V)(H:Hp)(Q:VK):Prop:=∃v h bs p u,x=.ref p/\vs=[.bl true]/\dC K H p u/\aO fa K v H h u/\boolsOf h=some bs/\Q (.int (bs.count true)) H
def MH (fa:Fa)(K:Qf)(x:V)(vs:List V)(H:Hp)(Q:VK):Prop:=∃v h bs p u,x=.ref p/\vs=[.bl true]/\dC K H p u/\aO fa K v H h u/\boolsOf h=some bs/\true∈bs/\Q (.int (bs.idxOf true)) H
def KJ:L8 X "list.count" (OU fa X.K):=by
 intro M s σ H x vs v us Q I W J h;obtain⟨μ,Y,bs,p,ws,rfl,rfl,R,S,P,q⟩:=h;cases W;obtain⟨u,rfl,U⟩:=vals1 J;obtain rfl:u=Value.bool true:=U;obtain⟨y,J,⟨o,n,e1,e2,e3,O⟩,hz⟩:=I.list R;have L:=sN (mC P S J);obtain⟨oc,od,B,E⟩:=o;obtain rfl:oc=.type "list":=e2;obtain rfl:B=.seq y.toArray n:=O;refine call_meets PySem.F.slot_list_count {_,e1,rfl} PySem.F.entry_list_count (PySem.F.args_list_count_2 _ _) (PySem.SeqAt.list_countAt p y.toArray n od E (.bool true) qj) {e1,eqT L,?_};have z:y.toArray.toList.countP qj=bs.count true:=by rw[L,List.toList_toArray];exact PF
 exact{.int (bs.count true),H,I.tok _,{s.toks,by rw[z]},q}
def KI:L8 X "list.index" (MH fa X.K):=by
 intro L s σ H x vs v us Q I rx z h;obtain⟨μ,ds,bs,p,ws,rfl,rfl,R,W,O,hm,q⟩:=h;cases rx;obtain⟨u,rfl,Y⟩:=vals1 z;obtain rfl:u=Value.bool true:=Y;obtain⟨y,z,⟨o,n,e1,e2,e3,M⟩,S⟩:=I.list R;have B:=sN (mC O W z);obtain⟨oc,od,E,J⟩:=o;obtain rfl:oc=.type "list":=e2;obtain rfl:E=.seq y.toArray n:=M;have hl:=List.idxOf_lt_length_of_mem hm;have P:y.length=bs.length:=by rw[B];simp
 have U:y.length<=sizeLine:=by rw[<- z.length];exact S
 have hs:((bs.idxOf true:Nat):Int)<2^63-1:=by
  have:sizeLine<2^62:=`d
  omega
 have at':∀m (hm:m<y.toArray.size),qj y.toArray[m]=bs[m]'(by simp at hm;omega):=λm hm=>by subst B;simp[qj]
 refine call_meets PySem.F.slot_list_index {_,e1,rfl} PySem.F.entry_list_index (PySem.F.args_list_index_2 _ _) (PySem.SeqAt.list_indexAt p y.toArray n od J (.bool true) qj (bs.idxOf true) `o hs (by rw[at'];simp) λm hm h=>?_) {e1,eqT B,?_}
 ·rw[at'];have:=List.not_of_lt_findIdx h;simpa using this
 ·exact{.int (bs.idxOf true),H,I.tok _,{_,rfl},q}
variable{a:Expr}{ga:GE}{apos cpos kp:Pos}{j:Nat}
def JG (U:DE fa X a ga)(u:attributeBase a "count" X.env (eval a X.env)=eval a X.env)(y:(apos.endLine==cpos.line)=true):DE fa X (.Call (.Attribute a "count" apos) [.Constant (.bool true) j kp] [] cpos) (yL ga):=
 bJ (yd PySem.F.plainAttrs_list PySem.F.slot_list_count PySem.F.type_list_count (KJ) U (bS yf eA `r) u `r y `r `r) λσ H Q ⟨μ,Z,M,P,S,h⟩=>t1 P S h λx L v H1 E Y R z r1 h1=>by
  cases B:pJ L x with
  |none=>rw[B] at h1;exact h1.elim
  |some bs=>
   rw[B] at h1;obtain⟨O,e,e2⟩:=Rb.mp B;obtain⟨p,J,rfl,I,W⟩:=bW z r1 e;exact{.inl ⟨rfl,J,I⟩,E,O,bs,p,J,rfl,rfl,I,W,e2,a7 z (bw.ext h1 Y) rfl}
set_option tactic.hygienic true in
def JC (U:DE fa X a ga)(u:attributeBase a "index" X.env (eval a X.env)=eval a X.env)(y:(apos.endLine==cpos.line)=true):DE fa X (.Call (.Attribute a "index" apos) [.Constant (.bool true) j kp] [] cpos) (yK ga):=
 bJ (yd PySem.F.plainAttrs_list PySem.F.slot_list_index PySem.F.type_list_index (KI) U (bS yf eA `r) u `r y `r `r) λσ H Q ⟨μ,Z,M,P,S,h⟩=>t1 P S h λx I v H1 E Y R z r1 h1=>by
  cases B:pJ I x with
  |none=>rw[B] at h1;exact h1.elim
  |some bs=>
   rw[B] at h1;obtain⟨O,e,e2⟩:=Rb.mp B;have h1:ae (if true∈bs then .ok (.int (bs.idxOf true)) I else .bad) (bw fa X.K μ H Q):=h1;split at h1
   ·next hm=>
    obtain⟨p,L,rfl,J,W⟩:=bW z r1 e;exact{.inl ⟨rfl,L,J⟩,E,O,bs,p,L,rfl,rfl,J,W,e2,hm,a7 z (bw.ext h1 Y) rfl}
   ·exact h1.elim
end
end LD
namespace LD
open PySem PySem.Spec PySem.Calls PyProof.Rows
section
variable{prog:Q0}{w:QX}{A:Rz}{E:Qj->Qn->Prop}{h:Heap}{g:Array GenState}{d:Drawn}{t:Nat}{os:Ra}
variable{nm q:Str}{C N:Addr}{bs bm:List Qj}{hdct:Bool}{sn:List Str}{sub:List Qj}{ab:Bool}{col:Option Bool}{dd:Option Addr}{k0 k1 k2 k3 k5:Option Qj}
def DD (L:h.get? C=some (excClassObj nm q C N bs bm hdct sn sub ab col dd k0 k1 k2 k3 k5 "ValueError.__new__"))(T:OwnTail h ow bm)
 (he:h.get? e=some oe) (v:oe.cls=.ref C) (hd:oe.data=.fields vs) (I:vs[0]?=some (.ref t0))
 (O:∀H P,(∀b o,b≠e->h.get? b=some o->H.get? b=some o)->H.get? e=some (oe.mapFields (·.setIfInBounds 0 (.ref P)))->Q .none ⟨H,g,d,t,os⟩) :
 wpAny (model prog w) A (call (.builtin "ValueError.__init__") [.ref e,u]) Q E ⟨h,g,d,t,os⟩:=by
 refine wpAny_call (codeAny_call_builtin PySem.F.excBase_ValueError.init.plain PySem.F.excBase_ValueError.initEntry (wpAny_check_init_subT PySem.F.excBase_ValueError T L he v ?_));wp_walk
 have B:(h.push {cls:=.type "tuple",data:=.seq #[u]}).get? e=some oe:=Qi _ he;rw[hd];refine tqb ?_;rw[I];refine tqb ?_;refine tqa (wpAny_setField B hd (QY.mp I).1 ?_);wp_walk
 refine O _ h.objs.size (λb o M J=>?_) ?_
 ·rw[Rh _ _ (Ru M)];exact Qi _ J
 ·exact RH _ B (R7 (RB hd _))
end
noncomputable def oN:List Qj->Bool
 |.ref _::r=>oN r
 |l=>l==ow
noncomputable def uJ (self:Qj):∀{l:List Qj},oN l=true->refuseLoop self "__setattr__" l=pure ()
 |[],e=>absurd e `d
 | a::r,e=>by
   cases a with
   |ref c=>rw[refuseLoop_ref];exact uJ self e
   | _=>
     have q:=eq_of_beq (e);rw[q];exact PySem.F.store_ValueError.passes self
def tG (K:Qf)(C:Addr):Bool:=(PySem.W.clsIn K C).any (λu=>oN u.mro)&&PySem.W.mroIn K C (.type "object")==some true
def MQ {K:Qf}(X:K.In s.heap)(J:RO s.heap x ox C od)(u:tG K C=true)(S:PySem.W.takerIn K C name=some none)
 (h:∀b,wpAny (model prog w) A.in1 (Builtin.ObjectAttr.storeInOwnDict (.ref x) (.ref C) (.str name tk) name v b) (λH B=>match H with|.done f=>R (.ok f) B|.again I=>I.quiet=true/\codeAny (model prog w) A I R B) (λe B=>R (.error e) B) s) :
 codeAny (model prog w) A (.call (.builtin "object.__setattr__") {[.ref x,.str name tk,v],[]}) R s:=by
 unfold tG at u;rw[Qh,beq_iff_eq] at u;obtain⟨L,Q,ho⟩:=PySem.W.any_some u.1;have G:=PySem.F.store_ValueError;have M:Sj (model prog w) s.heap (isInstance (.ref x) (.type "object")) true:=J.type.andThen (PySem.W.looks_mroIn X u.2);obtain⟨at',O,hr⟩:=Rb.mp S;have e1:Sj (model prog w) s.heap (mroOf (.ref C)) L.mro:=(PySem.W.looks_clsIn X Q).andThen .now;have e2:Sj (model prog w) s.heap (Builtin.ObjectAttr.storeTaker? at') none:=by
  cases at' with
  |none=>exact .now
  | some a=>
    obtain⟨b,P,hn⟩:=Qr.mp hr;cases b with
    |true=>cases hn
    |false=>exact(PySem.W.looks_takesIn X P).andThen .now
 refine codeAny_call_builtin PySem.F.store_object.slot.plain G.entry (@PySem.W.check_slot (model prog w) _ _ s "object.__setattr__" "object" "__setattr__" (.ref x) [.str name tk,v] [] _ G.kind G.split M (G.args (.ref x) (.str name tk) v) ?_);rw[PySem.W.osa_eq];refine tqa ?_;rw[refuse_eq];refine tqa (J.type.here (tqa (e1.here ?_)));rw[uJ _ ho];exact tqb (tqa (J.type.here (tqa ((PySem.W.looks_findIn X O).here (tqa (e2.here (h _)))))))
def HK {K:Qf}(X:K.In s.heap)(J:RO s.heap x ox C none)
 (hs:PySem.W.findIn K (.ref C) "__setattr__"=some (some (.builtin "object.__setattr__"))) (hp:tG K C=true) (ht:PySem.W.takerIn K C name=some none) (hh:PySem.W.hasDictIn K C=true) (hd:ox.data=.fields vs)
 (h:∀u d,s.heap.objs.size<=d->u.Ns1 d (λy=>if y=name then some v else none)->u.get? x=some {ox with dict:=some d}->(∀b o,b≠x->s.heap.get? b=some o->u.get? b=some o)->Q () {s with heap:=u,toks:=s.toks+2}) :
 wpAny (model prog w) A (setAttr (.ref x) name v) Q E s:=by
 refine PySem.W.set_plain X J hs (MQ X J hp ht λb=>?_);obtain⟨cd,hc,O⟩:=PySem.W.any_some hh;have U:=J.at_;obtain⟨oc,L,Y,osl⟩:=ox;obtain rfl:oc=.ref C:=J.cls;obtain rfl:Y=.fields vs:=hd;have R:L=none:=by
  have:=J.dict;cases L with
  |none=>rfl
  |some d=>exact this.elim
 subst R;refine tqa (tqb (tqa (tqa (wpAny_loadPart U (tqa (PySem.W.Looks.here (PySem.W.looks_clsIn X hc) ?_))))));rw[O];refine tqa (wpAny_alloc ?_);have I:(s.heap.push {cls:=.type "dict",data:=.dict #[]}).get? x=some {.ref C,none,.fields vs,osl}:=Qi _ U;refine tqa (wpAny_update I (tqb ?_));have B:=Rv (Qy U);have e1:(s.heap.push {cls:=.type "dict",data:=.dict #[]}).get? s.heap.objs.size=some {cls:=.type "dict",data:=.dict #[]}:=QD s.heap rfl;have e2:((s.heap.push {cls:=.type "dict",data:=.dict #[]}).update x (λo=>{o with dict:=some s.heap.objs.size})).get? s.heap.objs.size=some {cls:=.type "dict",data:=.dict #[]}:=(Rh _ _ (Ru B)).trans e1
 have e3:((s.heap.push {cls:=.type "dict",data:=.dict #[]}).update x (λo=>{o with dict:=some s.heap.objs.size})).Ns s.heap.objs.size (λ_=>none):={_,#[],_,e2,rfl,(λe he=>absurd he `s),λ_=>rfl}
 have e4:=RH (λo=>{o with dict:=some s.heap.objs.size}) I rfl
 refine tqa (tqb (tqa ?_));refine wpAny_nsSet1 (Heap.Ns1.of_empty e3) λu F H=>?_;obtain⟨oD,esD,epD,S,P,M⟩:=F.count (PySem.Within.cons name v PySem.Within.nil);refine tqa (wpAny_lookBehind S (by rw[P];exact pastItsLine_dict (Qs M (by show 1<=sizeLine+1;omega))) ?_)
 refine tqb (h _ s.heap.objs.size (Qo _) F ((H.2 _ (Ru B)).trans e4) λb o hb e=>?_);rw[H.2 b (Q3 (Qy e)),Rh _ _ (Ru hb)];exact Qi _ e
end LD
namespace LD
open PySem PySem.Spec PyProof.Rows L2
def fit (z:Str)(i:Int)(y:Str):Prop:=i.natAbs.log2<1920/\(z++(toString i:Str)).length<=sizeLine/\(z++(toString i:Str)++y).length<=sizeLine
section
variable{X:Cx}{a:Expr}{ta:TE}{pos p1 p2 p3:Pos}{j j2:Nat}{z y:Str}
def N3 (z y:Str)(ta:TE):TE:=λB H Q=>z.length<=sizeLine/\ta B H λv u=>∃i,v=.int i/\fit z i y/\Q (.str (z++(toString i:Str)++y)) u
def sX (z:Str):Str.empty++z=z:=by
 cases z with
 |mk c=>show Str.mk (#[]++c)=_;simp
def yZ (z:Str):z++Str.empty=z:=by
 cases z with
 |mk c=>show Str.mk (c++#[])=_;simp
def MO (P:PE X a ta):PE X (.JoinedStr [.Constant (.str z) j p1,.FormattedValue a (-1) none p2,.Constant (.str y) j2 p3] pos) (N3 z y ta):=by
 rintro B s S H Q I ⟨R,h⟩;refine JoinedStr_many (joinParts_cons (Calls.Constant_str ?_));show(Str.empty++z).length<=sizeLine/\_;rw[sX];refine{R,joinParts_cons (FormattedValue_plain (aY (P B _ S H _ (I.tok _) h) λu s1 ⟨v,J,L,r1,i,M,⟨f1,O,F⟩,q⟩=>?_))};subst M;obtain⟨t,rfl⟩:=r1;refine formatField_int_small f1 {O,joinParts_cons (Calls.Constant_str {F,joinParts_nil ?_ F})};exact{.str _,J,L.tok _,{_,rfl},q}
def MP (O:PE X a ta):PE X (.JoinedStr [.Constant (.str z) j p1,.FormattedValue a (-1) none p2] pos) (N3 z Str.empty ta):=by
 rintro B s R H Q I ⟨P,h⟩;refine JoinedStr_many (joinParts_cons (Calls.Constant_str ?_));show(Str.empty++z).length<=sizeLine/\_;rw[sX];refine{P,joinParts_cons (FormattedValue_plain (aY (O B _ R H _ (I.tok _) h) λu s1 ⟨v,J,L,r1,i,M,⟨f1,F,S⟩,q⟩=>?_))};subst M;obtain⟨t,rfl⟩:=r1;refine formatField_int_small f1 {F,joinParts_nil ?_ F};have e:z++(toString i:Str)++Str.empty=z++(toString i:Str):=by
  exact yZ _
 rw[e] at q;exact{.str _,J,L.tok _,{_,rfl},q}
end
def f6 (C:Addr)(v:Option Addr)(a:Addr)(h:Heap):Prop:=∃o u B,h.get? a=some o/\o.cls=.ref C/\o.dict=v/\o.data=.fields u/\u[0]?=some (.ref B)/\u[1]?=some .none
def lp (K:Qf)(C:Addr)(fI:Addr):Bool:=Jp K C λcd C' bm n=>C'==C&&n=="ValueError.__new__"&&!cd.hasDel&&PySem.W.tailIn K ow bm&&PySem.W.nsOkIn K cd.ns&&PySem.W.nsIn K cd.ns "__init__"==some (some (.ref fI))
set_option tactic.hygienic true in
def yj {K:Qf}(X:K.In h)(G:h.Ns N mg)(e:PySem.W.nsIn K N x=some (some v)):mg x=some v:=by
 obtain⟨o,F,B,ho,hd,_,hf⟩:=G;unfold PySem.W.nsIn at e;split at e
 ·rename_i c d u H sl q;have:=X _ _ q;rw[ho] at this;cases this;cases hd;split at e
  ·rename_i en he;cases e;rw[<- hf];unfold nsFind findBy;rw[<- Array.find?_toList,he];rfl
  ·split at e<;>cases e
 ·cases e
def mV {K:Qf}(X:K.In h)(q:lp K C fI=true) :
 ∃bm N nm q bs hdct sn sub ab col dd k0 k1 k2 k3 k5 v,h.get? C=some (excClassObj nm q C N bs bm hdct sn sub ab col dd k0 k1 k2 k3 k5 "ValueError.__new__")/\h.Ns N v/\v "__init__"=some (.ref fI)/\OwnTail h ow bm:=by
 obtain⟨bm,ns,nm,qn,bs,hd,sn,sub,ab,col,dd,k0,k1,k2,k3,k5,dl,n,F,q,ho⟩:=Ad X q;simp only[Qh,beq_iff_eq,RI] at q;obtain⟨⟨⟨⟨⟨rfl,rfl⟩,rfl⟩,B⟩,hok⟩,u⟩:=q;exact{bm,ns,nm,qn,bs,hd,sn,sub,ab,col,dd,k0,k1,k2,k3,k5,_,ho,.of_isNs (PySem.W.isNs_of_in X hok),yj X (.of_isNs (PySem.W.isNs_of_in X hok)) u,PySem.W.tail_of_in X B}
set_option tactic.hygienic true in
def B2 (h:H a=some o):upd H a o=H:=by
 funext b
 unfold upd;split
 ·next e=>rw[e,h]
 ·rfl
section
variable{X:Cx}{a b:Expr}{ta tb:TE}{apos cpos p1 pos:Pos}{x:Str}{D:Addr}
def OI (K:Qf)(ta tb:TE):TE:=λF H Q=>ta F H λv I=>tb F I λu B=>∃e C J,v=.ref e/\B e=some (.ext (f6 C none e))/\lp K C J=true/\Q .non B
def qG (x:f6 C dx e h):eK P w H h e (.ext (f6 C dx e)):=by
 refine{x,let{o,_,_,e,_}:=x;⟨o,e⟩,(by rintro B F ⟨o,v,u,k1,k2⟩ kk;exact{o,v,u,kk o k1,k2})}
def J5 {pl:Sem Bool}(hD:X.mg x=some (.ref D))(hg:Gl X x)(h1:PySem.W.readsIn X.K D (.type "type")=true)(h2:PySem.W.findCls X.K (.ref D) (.type "type") "__init__"=some (.val (.builtin "ValueError.__init__")))
 (h3:PySem.W.specialIn X.K (.ref D) "__getattribute__"=some (some (.builtin "type.__getattribute__"))) (ha:PE X a ta) (P:PE X b tb) (he:notStar a=true) (J:notStar b=true) (R:(x==("__debug__":Str))=false)
 (ht:eval (.Call (.Attribute (.Name x p1) "__init__" apos) [a,b] [] cpos) X.env=(do
  let ov <- eval (.Name x p1) X.env
  standAt apos.atName
  let(f,first) <- holding [ov] (getMethod ov "__init__" pl)
  callWith cpos f first (backTo cpos (starEach [a,b] X.env)) (backToKw cpos (keywordEach [] X.env)))) :
 PE X (.Call (.Attribute (.Name x p1) "__init__" apos) [a,b] [] cpos) (OI X.K ta tb):=by
 intro B s σ H Q I h;refine PySem.W.methodCall_KW (gp I hg hD ?_ R) ht;refine PySem.W.method_cls I.kIn h3 (PySem.W.cls_value I.kIn h1 h2 rfl ?_);refine Calls.callWith_builtin (dQ (by simp[he,J])) ?_
 have ar:=aY ((bS ha (bS P eA (bI J)) (bI he)) cpos B {s with toks:=s.toks+1} σ H (λL S=>match L with|[v,u]=>∃e C Y,v=.ref e/\S e=some (.ext (f6 C none e))/\lp X.K C Y=true/\Q .non S|_=>False) (I.tok _) h) (Q':=λus s2=>wpAny (model X.prog X.w) X.A (call (.builtin "ValueError.__init__") ([]++us) []) (EP X B σ Q) X.xe s2) λus s1 ⟨L,H1,M,r,F⟩=>by
  match L,r,F with
  |[],_,F=>exact F.elim
  |[_],_,F=>exact F.elim
  |_::_::_::_,_,F=>exact F.elim
  | [v,u],r,⟨e,C,Y,ev,O,hx,q⟩=>
    subst ev;obtain⟨w1,w2,rfl,r1,r2⟩:=vals2 r;obtain rfl:w1=Value.ref e:=r1;obtain⟨⟨o,L,t0,k1,k2,k3,k4,k5,k6⟩,_,_⟩:=M.hok e _ O;obtain⟨bm,N,nm,qq,bs,hdct,sn,sub,ab,col,dd,c0,c1,c2,c3,c5,mN,hC,hN,hni,T⟩:=mV M.kIn hx;obtain⟨hp,gg,dr,tk,os⟩:=s1;refine DD hC T k1 k2 k4 k5 λh' tp kk ke=>?_;have nw:f6 C none e h':={_,_,tp,ke,by rw[Obj.cls_mapFields];exact k2,by rw[mX];exact k3,RB k4 _,by simp[(QY.mp k5).1],by rw[Array.getElem?_setIfInBounds_ne `d];exact k6}
    have U:=M.write (t':=tk) (by rw[O];exact True.intro) (.inl rfl) (λb u P z=>kk b u P z) {_,ke} (qG nw)
    rw[B2 O] at U;exact{.non,H1,U,rfl,q}
 rw[bI he] at ar ⊢;exact PySem.Calls.evalArgs_plain ar
end
def setIn (K:Qf)(C:Addr)(fld:Str):Bool:=PySem.W.findIn K (.ref C) "__setattr__"==some (some (.builtin "object.__setattr__"))&&tG K C&&PySem.W.takerIn K C fld==some none&&PySem.W.hasDictIn K C
section
variable{X:Cx}{o value:Expr}{to tv:TE}{p' pos:Pos}{fld:Str}
def Mm (K:Qf)(tv to:TE)(fld:Str):TS:=λD v H=>tv v H λy B=>to v B λx u=>∃e C i,x=.ref e/\y=.int i/\u e=some (.ext (f6 C none e))/\setIn K C fld=true/\∀d,u d=none->d≠e->D.nx v (upd (upd u d (.xd [(fld,.int i)])) e (.ext (f6 C (some d) e)))
def G7 (ho:PE X o to)(hv:PE X value tv)(hs:swapsWith value (some (.Attribute o fld p')) pos.line X.env=pure false):PS X (.Assign [.Attribute o fld p'] value pos) (Mm X.K tv to fld):=by
 intro L s σ H D I h;refine plainObj_wpAny_Assign_Attribute (aY (hv L s σ H _ I h) λu s1 ⟨y,H1,I1,ry,q⟩=>aY (ho L s1 σ H1 _ I1 q) λov s2 ⟨x,S,P,rx,e,C,i,ex,ey,B,J,q2⟩=>?_) hs;subst ex ey;obtain rfl:ov=Value.ref e:=rx;obtain⟨t,rfl⟩:=ry;simp only[setIn,Qh,beq_iff_eq] at J;obtain⟨⟨⟨g1,g2⟩,g3⟩,g4⟩:=J;obtain⟨⟨ob,vs,t0,k1,k2,k3,k4,k5,k6⟩,_,_⟩:=P.hok e _ B;have IA:RO s2.heap e ob C none:={k1,k2,by unfold PySem.W.notCls;rw[k4],by rw[k3];trivial}
 refine HK P.kIn IA g1 g2 g3 g4 k4 λh' d hd Y R kk=>?_;have F:=P.hok.fresh hd;have Q:d≠e:=λz=>by rw[z,B] at F;cases F
 have lt:∀b o,s2.heap.get? b=some o->b≠d:=λb o q z=>absurd (Qy q) (by rw[z];exact Nat.not_lt.mpr hd)
 have ne:∀b,S b=none->b≠e:=λb q z=>by rw[z,B] at q;cases q
 have M:∀b,b≠d->b≠e->upd (upd S d (.xd [(fld,.int i)])) e (.ext (f6 C (some d) e)) b=S b:=λb z1 U=>by rw[aI U,aI z1]
 have nd:∀b u,S b=some u->b≠d:=λb u q=>aX q F;refine{σ,_,P.un {λb o q n _ _=>kk b o (ne b n) q,λb o q n _ _=>{o.slots,kk b o (ne b n) q},λb o q n _=>?_,λb o q _=>?_,λb xs q=>?_,λb o u q=>?_,λb ps q=>{#[],?_}} λb u q=>?_,q2 d F Q}
 ·rw[M b (lt b o q) (ne b n)];exact n
 ·by_cases z:b=e
  ·exact{_,by rw[z];exact R}
  ·exact{o,kk b o z q}
 ·rw[M b (nd b _ q) (λz=>by rw[z,B] at q;cases q)];exact q
 ·rw[M b (nd b _ q) (λz=>by rw[z,B] at q;cases q)];exact q
 ·rw[M b (nd b _ q) (λz=>by rw[z,B] at q;cases q)];simpa using q
 ·by_cases z:b=e
  ·subst z;rw[bR] at q;cases q;exact qG {_,vs,t0,R,k2,rfl,k4,k5,k6}
  ·by_cases U:b=d
   ·subst U;rw[aI Q,bR] at q;cases q;refine{_,Y,λf=>?_};by_cases hf:f=fld
    ·subst hf;simp only[QZ,beq_self_eq_true,if_true];exact⟨t,rfl⟩
    ·rw[if_neg hf];have:([(fld,V.int i)]:List (Str×V)).lookup f=none:=by simp[QZ,Q8.mpr hf]
     rw[this];trivial
   ·rw[M b U z] at q;refine(P.hok b u q).stay (λc v O w=>kk c v ?_ w) (λc w=>?_) λc xs w=>?_
    ·rcases O with O|O
     ·rw[O];exact z
     ·intro y;rw[y,B] at O;cases O
    ·rw[M c (nd c _ w) (λy=>by rw[y,B] at w;cases w)];exact w
    ·rw[M c (nd c _ w) (λy=>by rw[y,B] at w;cases w)];exact w
end
end LD
namespace LD
open PySem PySem.Spec PyProof.Rows
section
variable{prog:Q0}{w:QX}{A:Rz}{E:Qj->Qn->Prop}{h:Heap}{g:Array GenState}{d:Drawn}{t:Nat}{os:Ra}
variable{nm q:Str}{C N:Addr}{bs bm:List Qj}{hdct:Bool}{sn:List Str}{sub:List Qj}{ab:Bool}{col:Option Bool}{dd:Option Addr}{k0 k1 k2 k3 k5:Option Qj}
def s8
 (H:h.get? C=some (excClassObj nm q C N bs bm hdct sn sub ab col dd k0 k1 k2 k3 k5 "ValueError.__new__")) (T:OwnTail h ow bm) (hn:h.Ns N mN) (hi:mN "__init__"=some (.ref fI)) (J:h.get? fI=some oI) (L:oI.cls=.type "function")
 (S:∀M e,Heap.MadeExcOf h M e (.ref C) rest->wpAny (model prog w) A (call (.ref fI) (.ref e::rest)) (λr O=>r=.none/\Q (.done (.ret (.ref e))) O) E ⟨M,g,d,t,os⟩) (z:rest.length<=sizeLine) :
 wpAny (model prog w) A (Builtin.«type.__call__» {.ref C::rest,[]}) Q E ⟨h,g,d,t,os⟩:=by
 have F:=PySem.F.excBase_ValueError
 repeat (first|with_reducible refine wpAny_loadPart_at H ?_|with_reducible refine wpAny_madeBy_exc H ?_|wp_step)
 refine codeAny_call_builtin_code (Code.quiet_builtin _ F.quiet) (wpAny_check_new_subT F T H ?_);refine codeAny_exc_new_subT F T H ?_ z;have kp:∀b o,h.get? b=some o->((h.push {cls:=.type "tuple",data:=.seq rest.toArray}).push {cls:=.ref C,data:=.fields #[.ref h.objs.size,.none,.none,.none,.bool false,.none]}).get? b=some o:=λb o R=>Qi _ (Qi _ R);have j:=kp _ _ H;have u:=kp _ _ J;have y:=hn.keeps kp;have B:=T.keeps kp;have v:((h.push {cls:=.type "tuple",data:=.seq rest.toArray}).push {cls:=.ref C,data:=.fields #[.ref h.objs.size,.none,.none,.none,.bool false,.none]}).get? (h.objs.size+1)=some {cls:=.ref C,data:=.fields #[.ref h.objs.size,.none,.none,.none,.bool false,.none]}:=by heap_get
 have I:(Value.ref C::bm).contains (.ref C)=true:=`s
 repeat (first|with_reducible refine wpAny_loadPart_at v ?_|(with_reducible refine wpAny_isSubtype_exc j ?_;rw[I])|wp_step)
 refine wpAny_typeLookup_tail j y B F.mroIs F.init.lookup ?_;rw[hi];refine tqo (tqa ?_);refine tqa (wpAny_typeOf {_,u,L} ?_);rw[if_pos `d]
 refine tqb (tqa (wpAny_mono (S _ (h.objs.size+1) {kp,RX (Sg _),h.objs.size,v,RX (Qo _),?_}) (λr O hr=>?_) λ_ _ x=>x))
 ·exact Qi _ (Heap.get?_push_at rfl rfl)
 ·obtain⟨rfl,P⟩:=hr;wp_walk
  exact P
def BF
 (v:h.get? C=some (excClassObj nm q C N bs bm hdct sn sub ab col dd k0 k1 k2 k3 k5 "ValueError.__new__")) (T:OwnTail h ow bm) (hn:h.Ns N mN) (hi:mN "__init__"=some (.ref fI)) (y:h.get? fI=some oI) (z:oI.cls=.type "function")
 (B:∀u e,Heap.MadeExcOf h u e (.ref C) rest->wpAny (model prog w) (A.under (.builtin "type.__call__" {.ref C::rest,[]})) (call (.ref fI) (.ref e::rest)) (λr F=>r=.none/\Q (.ref e) F) E ⟨u,g,d,t,os⟩) (j:rest.length<=sizeLine) :
 wpAny (model prog w) A (call (.ref C) rest) Q E ⟨h,g,d,t,os⟩:=by
 have f1:=tc_lookup;have H:=tc_bind (.ref C);refine wpAny_call (codeAny_of_tree ?_)
 repeat (any_goals (first|assumption|with_reducible refine wpAny_loadPart_at v ?_|wp_step))
 refine{rfl,?_};refine codeAny_call_builtin_at (Code.quiet_builtin _ `k) entry_typeCall (wpAny_check_type_call_sub v (s8 v T hn hi y z (λu e hm=>?_) j))
 exact B u e hm
end
end LD
namespace LD
open PySem PySem.Spec PyProof.Rows L2
def FX (x m:Str)(a b:Expr)(p1 u h:Pos)(env:RE):Prop:=∃pl,eval (.Call (.Attribute (.Name x p1) m u) [a,b] [] h) env=(do
 let v <- eval (.Name x p1) env
 standAt u.atName
 let(f,first) <- holding [v] (getMethod v m pl)
 callWith h f first (backTo h (starEach [a,b] env)) (backToKw h (keywordEach [] env)))
def N6 (C:Addr)(fld:Str):Sp:=λh H Q _=>∃e i,h=[.ref e,.int i]/\H e=some (.ext (f6 C none e))/\i.natAbs<2^64/\∀d,H d=none->d≠e->Q .non (upd (upd H d (.xd [(fld,.int i)])) e (.ext (f6 C (some d) e)))
def len_app (a b:Str):(a++b).length=a.length+b.length:=by
 show(Str.append a b).length=_;unfold Str.append Str.length;simp
def Bj {i:Int}(hz:z.length<=1000)(u:y.length<=1000)(hi:i.natAbs<2^64):fit z i y:=by
 have h1:i.natAbs.log2<1920:=by
  by_cases h:i.natAbs=0
  ·rw[h];decide
  ·exact QI ((Nat.log2_lt h).mpr hi) `a
 have h2:=PyProof.Rows.int_text_len_1921 h1;have hs:sizeLine=16777216:=dM.symm;refine{h1,?_,?_}
 ·rw[len_app];omega
 ·rw[len_app,len_app];omega
section
variable{P:Q0}{w:QX}{K:Qf}{mg:Str->Option Qj}{base:Heap}{qual y fld z:Str}{st:Stmt}{f C D fI:Addr}{fd:FuncData}{p1 p2 p3 p4 p5 p6 p7 p8 p9 p10 p11 p12 p13:Pos}{j:Nat}
def Lf (F:oz K "__init__" qual st f fd)(S:hR ["self",y] ["self",y] (aN st))
 (hb:cf st=[.Expr (.Call (.Attribute (.Name "DeedError" p1) "__init__" p2) [.Name "self" p3,.JoinedStr [.Constant (.str z) j p4,.FormattedValue (.Name y p5) (-1) none p6] p7] [] p8) p9,.Assign [.Attribute (.Name "self" p10) fld p11] (.Name y p12) p13])
 (u:∀L cd,FX "DeedError" "__init__" (.Name "self" p3) (.JoinedStr [.Constant (.str z) j p4,.FormattedValue (.Name y p5) (-1) none p6] p7) p1 p2 p8 (envOfC qual (aN st) L f cd))
 (hz:z.length<=1000) (M:(y==("__debug__":Str))=false) (J:(y==("__classdict__":Str))=false) (v0:(aN st).names.lookup ("self":Str)=some .local) (v1:(aN st).names.lookup y=some .local)
 (hg:∀L cd,(envOfC qual (aN st) L f cd).kindOf "DeedError"=some .globalImplicit) (Y:mg "DeedError"=some (.ref D)) (h1:PySem.W.readsIn K D (.type "type")=true) (h2:PySem.W.findCls K (.ref D) (.type "type") "__init__"=some (.val (.builtin "ValueError.__init__")))
 (h3:PySem.W.specialIn K (.ref D) "__getattribute__"=some (some (.builtin "type.__getattribute__"))) (X:lp K C fI=true) (v:setIn K C fld=true):kY P w K mg base (gJ P w) 1 f fd ["self",y] (N6 C fld):=by
 refine ri (oz.toD F) S (λvs H Q E ⟨e,i,B,_⟩=>by rw[B];rfl) λh A outer s H vs Q E hr ⟨e,i,B,O,hi,q⟩=>?_
 subst B;rw[hb];have R:vY (fy (gJ P w) P w K mg base ["self",y] qual (aN st) f h A outer s H E).env.scope "self":=.inl v0;have U:vY (fy (gJ P w) P w K mg base ["self",y] qual (aN st) f h A outer s H E).env.scope y:=.inl v1;have a0:∀p,PE (fy (gJ P w) P w K mg base ["self",y] qual (aN st) f h A outer s H E) (.Name "self" p) (Cm 0):=λp=>pW rfl R;have a1:∀p,PE (fy (gJ P w) P w K mg base ["self",y] qual (aN st) f h A outer s H E) (.Name y p) (Cm 1):=λp=>pW rfl U M J;obtain⟨pl,u⟩:=u s.heap.objs.size h;refine{_,oP (ny (J5 Y (hg _ _) h1 h2 h3 (a0 p3) (MP (a1 p5)) rfl rfl rfl u) rfl) (oP (G7 (a0 p10) (a1 p12) rfl) wM),?_};refine{.ref e,rfl,Qs hz (by rw[<- dM];decide),.int i,rfl,i,rfl,Bj hz `d hi,e,C,fI,rfl,O,X,?_}
 exact{.int i,rfl,.ref e,rfl,e,C,i,rfl,rfl,O,v,λd hd I=>q d hd I}
end
def lD (fa:Fa)(P:Q0)(w:QX)(K:Qf)(mg:Str->Option Qj)(base:Heap)(c:Nat)(x:Str):Prop:=
 ∃C h j y u,mg x=some (.ref C)/\fa (fk c)=some C/\lp K C h=true/\PySem.W.keepIn K (.ref C)=true/\K.lookup h=some u/\u.cls=.type "function"/\Binds K j ["self",y] []/\kY P w K mg base (gJ P w) 1 h j ["self",y] (N6 C (fU c))
section
variable{X:Cx}{pins:List (Addr×Obj)}{σ:L2.St}{H H0:Hp}{s:Qn}{fa:Fa}
def wc (I:Inv X pins σ H s)(B:H a=some (.ext F))(h:∀b,b≠a->H0 b=H b)(hz:H0 a=none):Inv X pins σ H0 s:=by
 have j:∀b,H b=none->b≠a:=λb q z=>by rw[z,B] at q;cases q
 have no:∀b u,H b=some u->(∀F,u≠.ext F)->H0 b=some u:=λb u q n=>by
  rw[h b (λz=>by rw[z,B] at q;cases q;exact n _ rfl)];exact q
 refine{I.ok,I.os,I.bare,{I.base.keep,I.base.slot,λb o e n J=>?_,I.base.there,λb xs e=>?_,λb o u e=>?_,λb ps e=>?_},I.loc,I.cell,?_,λx c e=>?_,λp y=>?_,λb u e=>?_,I.len}
 ·have q:=I.base.free b o e n J;rw[h b (j b q)];exact q
 ·exact no _ _ (I.base.tups b xs e) (λ_ z=>nomatch z)
 ·exact no _ _ (I.base.frzs b o u e) (λ_ z=>nomatch z)
 ·obtain⟨m,q⟩:=I.base.tbls b ps e;exact{m,no _ _ q (λ_ z=>nomatch z)}
 ·rw[h _ (j _ I.free)];exact I.free
 ·rw[h _ (j _ (I.freeC x c e))];exact I.freeC x c e
 ·obtain⟨e,n,r⟩:=I.pin p y;exact{e,by rw[h _ (j _ n)];exact n,r}
 ·by_cases E:b=a
  ·rw[E,hz] at e;cases e
  ·rw[h b E] at e;exact(I.hok b u e).stay (λc v _ q=>q) (λc q=>no _ _ q (λ_ z=>nomatch z)) λc xs q=>no _ _ q (λ_ z=>nomatch z)
def KN {i:Int}(J:lD fa X.prog X.w X.K X.mg X.base c x)(hr:cF 2 X.A)(L:X.ex=[])(I:Inv X pins σ H s)(hC:X.mg x=some (.ref C))(hi:i.natAbs<2^64)
 (h:∀e d M,fa (fk c)=some C->ni X e->H e=none->H d=none->d≠e->Inv X pins σ (upd (upd H d (.xd [(fU c,.int i)])) e (.ext (f6 C (some d) e))) M->Q (.ref e) M):wpAny (model X.prog X.w) X.A (call (.ref C) [.int i t]) Q X.xe s:=by
 obtain⟨C',fI,fd,y,oI,m1,hf,U,hk,R,S,hb,F⟩:=J;rw[hC] at m1;cases m1;obtain⟨bm,N,nm,q,bs,hdct,sn,sub,ab,col,dd,k0,k1,k2,k3,k5,mN,P,hN,W,T⟩:=mV I.kIn U;obtain⟨hp,g,dr,tk,os⟩:=s;refine BF P T hN W (I.kIn _ _ R) S (λh' e hm=>?_) (by rw[<- dM];exact Qx rfl)
 obtain⟨tp,ht,_,_⟩:=hm.there;obtain⟨n1,n2⟩:=lX I L hm.new;have I1:=I.kept (t':=tk) hm.keeps;have O:=sy I1 L n2 n1.1 {_,_,ht,rfl} (λp hp z=>by
  have:=(I.pin p hp).1;rw[z,hm.new] at this;cases this) (qG {_,_,tp,ht,rfl,rfl,rfl,rfl,rfl})
 have E:=hb ⟨h',g,dr,tk,os⟩ [.ref e,.int i t] O.kIn rfl;rw[List.append_nil] at E;refine wpAny_call (codeAny_mono (F.run _ X.stack ⟨h',g,dr,tk,os⟩ (upd H e (.ext (f6 C none e))) {[.ref e,.int i t],[]} [.ref e,.int i t] [.ref e,.int i] (λv Y=>v=.non/\∃d,H d=none/\d≠e/\Y=upd (upd H d (.xd [(fU c,.int i)])) e (.ext (f6 C (some d) e))) (λ_ _ _=>False) (hr.make C [.int i t] []) (O.env0.make C [.int i t] []) E (.cons rfl (.cons ⟨t,rfl⟩ .nil)) ?_) λr M j=>?_)
 ·refine{e,i,rfl,bR,hi,λd hd B=>{rfl,d,by rw[aI B] at hd;exact hd,B,?_}}
  funext b
  unfold upd;split
  ·rfl
  ·split
   ·rfl
   ·rfl
 ·cases r with
  | error e'=>
    obtain⟨_,_,_,_,_,_,_,_,_,_,z⟩:=j;exact z.elim
  | ok fl=>
    cases fl with
    | ret u=>
      obtain⟨v,Y,I3,rv,ev,d,hd,B,eH⟩:=O.after j;subst ev eH;exact{rv,h e d M hf n1 n2 hd B I3}
    |next=>exact False.elim j
    |brk=>exact False.elim j
    |cont=>exact False.elim j
end
def gj (c:Nat)(a:GE):GS:=λh M=>match a h M with
 |.ok (.int i) M=>if i.natAbs<2^64 then .ok (.exc (.exc c (some i)) h) M else .bad
 |_=>.bad
def j9 (f:Str)(a:GE):GE:=λh M=>(a h M).bind λd M=>match d with
 |.exc c (some i)=>if fU c=f then .ok (.int i) M else .bad
 |_=>.bad
def yb
 (u:bm.contains (.type "BaseException")=true) (hh:A.handled=none)
 (h:wpAny M A x (λv j=>∃e o vs,v=.ref e/\j.heap.get? C=some (excClassObj nm q C N bs bm hdct sn sub ab col dd k0 k1 k2 k3 k5 newId)/\j.heap.get? e=some o/\o.cls=.ref C/\o.data=.fields vs/\vs[1]?=some .none/\E (.ref e) j) E s) :
 wpAny M A (raiseStmt env (some x) none) Q E s:=by
 have z:(Value.ref C::bm).contains (.type "BaseException")=true:=by rw[List.contains_cons,u,Bool.or_true]
 refine tqa (wpAny_mono h (λv j y=>?_) λ_ _ x=>x);obtain⟨e,⟨cl,od,F,sl⟩,vs,rfl,B,he,J,hd,h1,I⟩:=y;obtain rfl:cl=.ref C:=J;obtain rfl:F=.fields vs:=hd;obtain⟨L,g,d,tk,os⟩:=j
 repeat (first|with_reducible refine wpAny_loadPart_at he ?_|with_reducible refine wpAny_loadPart_at B ?_|(with_reducible refine wpAny_isSubtype_exc B ?_;rw[z])|(with_reducible refine tqf he rfl h1 ?_)|wp_step)
 exact wpAny_raiseNew_none hh I
section
variable{fa:Fa}{X:Cx}{a b:Expr}{ga gb:GE}{ta:GT}{pos p np cpos:Pos}{es:List Expr}{gs:GA}{n:Nat}{x:Str}
def DG (c:Nat)(J:lD fa X.prog X.w X.K X.mg X.base c x)(hr:cF 2 X.A)(P:X.ex=[])(hg:Gl X x)(ha:DE fa X a ga)(L:(x==("__debug__":Str))=false)(he:notStar a=true)(I:Inv X pins σ H s)
 (h:∃μ Z M,bx fa X.K μ H σ Z/\RelM fa X.K μ H M/\ae (ga Z M) λd M'=>∃i,d=.int i/\i.natAbs<2^64/\∀u j e d C z,Ext μ H j u->bx fa X.K j u σ Z->RelM fa X.K j u M'->X.mg x=some (.ref C)->fa (fk c)=some C->ni X e->u e=none->u d=none->d≠e->Inv X pins σ (upd (upd u d (.xd [(fU c,.int i)])) e (.ext (f6 C (some d) e))) z->Q (.ref e) z) :
 wpAny (model X.prog X.w) X.A (eval (.Call (.Name x np) [a] [] cpos) X.env) Q X.xe s:=by
 obtain⟨μ,Z,M,Y,hM,h⟩:=h;obtain⟨C,fI,fd,y,oI,B,hf,hin,hk,r⟩:=id J;refine wpAny_Call_Name_kw (gp I hg B ?_ L);refine PySem.W.callWith_K I.ok.mod.kin hk (aY (bS ha eA (bI he) cpos pins s σ H (λvs u=>∃j F i,Ext μ H j u/\RelM fa X.K j u F/\vs=[.int i]/\i.natAbs<2^64/\∀u j e d C z,Ext μ H j u->bx fa X.K j u σ Z->RelM fa X.K j u F->X.mg x=some (.ref C)->fa (fk c)=some C->ni X e->u e=none->u d=none->d≠e->Inv X pins σ (upd (upd u d (.xd [(fU c,.int i)])) e (.ext (f6 C (some d) e))) z->Q (.ref e) z) I {μ,Z,M,Y,hM,aA h λd M' ⟨i,ed,S,k⟩ v u j E B r1=>by
  subst ed;obtain rfl:v=.int i:=r1;exact⟨j,M',i,E,B,rfl,S,k⟩}) λus s1 ⟨vs,u,U,r,j,F,i,E,mm,ev,S,k⟩=>{U.kIn,?_}) (bI he) (dQ rfl)
 subst ev;cases r with
 | cons r1 r2=>
   cases r2;obtain⟨t,rfl⟩:=r1;exact KN J hr P U B S λe d z R n1 n2 hd O I3=>k u j e d C z E (Y.ext E) mm B R n1 n2 hd O I3
set_option tactic.hygienic true in
def CJ (c:Nat)(J:lD fa X.prog X.w X.K X.mg X.base c x)(hr:cF 2 X.A)(hex:X.ex=[])(hg:Gl X x)(hc:X.calm=true)(ha:DE fa X a ga)(hdb:(x==("__debug__":Str))=false)(he:notStar a=true):DS fa X (.Raise (some (.Call (.Name x np) [a] [] cpos)) none pos) (gj c ga):=by
 rintro pins s σ H D' I ⟨μ,Z,M,hE,hM,h⟩;obtain⟨C,fI,fd,y,oI,m1,hf,hin,hk,r⟩:=id J;obtain⟨bm,N,nm,q,bs,z,sn,sub,ab,R,dd,k0,k1,k2,k3,k5,mN,U,hN,hni,T⟩:=mV I.ok.mod.kin hin;rw[arm_exec_Raise];refine tqa (wpAny_standAt (yb (T.hasType `k) (I.ok.hd hc) (tqa (wpAny_mono (DG (Q:=λv j=>∃e o F,v=.ref e/\j.heap.get? C=some (excClassObj nm q C N bs bm z sn sub ab R dd k0 k1 k2 k3 k5 "ValueError.__new__")/\j.heap.get? e=some o/\o.cls=.ref C/\o.data=.fields F/\F[1]?=some .none/\X.xe (.ref e) j) c J hr hex hg ha hdb he I ?_) (λv s₃ E=>tqa (wpAny_standAt (tqb E))) λ_ _ x=>x))))
 refine{μ,Z,M,hE,hM,?_};unfold gj at h;cases S:ga Z M with
 |err=>rw[S] at h;exact h.elim
 |bad=>rw[S] at h;exact h.elim
 | ok x0 M1=>
   rw[S] at h;cases x0 with
   | int i=>
     dsimp only at h;split at h
     ·next hi=>
      refine{i,rfl,hi,λO L e d C' s' x1 W u hm hf nw he hd hde P=>?_};rw[m1] at hm;cases hm;have ne:upd (upd O d (.xd [(fU c,.int i)])) e (.ext (f6 C (some d) e)) e=some (.ext (f6 C (some d) e)):=bR;obtain⟨⟨o,F,t0,g1,g2,g3,g4,g5,g6⟩,_,_⟩:=P.hok e _ ne;have B:upd O d (.xd [(fU c,.int i)]) e=none:=by rw[aI (Ru hde)];exact he
      have I4:=wc P ne (λb hb=>(aI hb).symm) B;have Y:RelM fa X.K L (upd O d (.xd [(fU c,.int i)])) M1:=u.alloc hd;have xd:=Ext.alloc (o:=.xd [(fU c,.int i)]) u hd;exact{e,o,F,rfl,P.bk _ _ U,g1,g2,g4,g6,h pins σ _ L s' e C (some d) c (some i) I4 (x1.trans xd) (W.ext xd) Y rfl hf ⟨d,rfl,bR⟩ {nw,B,o,F,g1,g2,g3,g4,.inl g6}}
     ·exact h.elim
   |_=>exact h.elim
def xF (fa:Fa)(K:Qf)(f:Str):Prop:=∀c C,fa (fk c)=some C->fU c=f->PySem.W.hasDictIn K C=true/\PySem.W.findIn K (.ref C) f=some none
set_option tactic.hygienic true in
def G2 (f:Str)(hc:ng fa X.K)(hf:xF fa X.K f)(ha:DE fa X a ga)(hb:attributeBase a f X.env (eval a X.env)=eval a X.env):DE fa X (.Attribute a f pos) (j9 f ga):=by
 rintro pins s σ H Q I ⟨S,Z,M,hE,hM,h⟩;obtain⟨R,Y,eg,h⟩:=aT h;refine Iq hb (aY (ha pins s σ H (λv y=>∃j,Ext S H j y/\RelM fa X.K j y Y/\Rep fa X.K j y R v) I {S,Z,M,hE,hM,by rw[eg];exact λv y j O L r1=>⟨j,O,L,r1⟩}) λu s1 ⟨v,y,E,rv,j,O,L,r1⟩=>?_)
 cases R with
 | exc c p=>
   cases p with
   |none=>exact h.elim
   | some i=>
     dsimp only at h;split at h
     ·next P=>
      obtain⟨e,C,dx,rfl,B,hH,d,rfl,hd⟩:=r1;obtain rfl:u=Value.ref e:=rv;obtain⟨⟨o,vs,h1,h2,h3,h4,h5⟩,_,_⟩:=E.hok e _ hH;obtain⟨mA,F,hl⟩:=E.hok d _ hd;obtain⟨od,J,look⟩:=sq F;have U:RO s1.heap e o C (some od):={h1,h2,by unfold PySem.W.notCls;rw[h4],by rw[h3];exact J}
      have z:=hl f;rw[P] at z;simp only[QZ,beq_self_eq_true] at z;obtain⟨u,hu,ru⟩:=rK.some_of z;obtain⟨t,rfl⟩:=ru;obtain⟨f1,f2⟩:=hf c C B P;refine tqa (wpAny_mkText (xp E.kIn U (hc.g c C B).1 (PySem.W.findObj_own f1 f2 rfl (by rw[look f,hu])) ?_))
      exact PySem.W.handed_on rfl {.int i,y,E.tok _,⟨t,rfl⟩,h (.int i) y j O L rfl}
     ·exact h.elim
 |_=>exact h.elim
end
noncomputable def inC (s:Stmt):Stmt:=match s with
 |.ClassDef _ _ _ (b::_) _ _ _ _ _ _ _=>b
 |_=>s
def Ll (z y:Str)(a:GE):GE:=λh M=>(a h M).bind λd M=>match d with
 |.int i=>if z.length<=1000/\y.length<=1000/\i.natAbs<2^64 then .ok (.str (z++(toString i:Str)++y)) M else .bad
 |_=>.bad
set_option tactic.hygienic true in
def OP (O:DE fa X a ga):DE fa X (.JoinedStr [.Constant (.str z) j p1,.FormattedValue a (-1) none p2,.Constant (.str y) j2 p3] pos) (Ll z y ga):=
 bJ (MO O) λW H Q ⟨B,U,M,J,L,h⟩=>by
  obtain⟨R,F,I,h1⟩:=aT h;cases R with
  | int i=>
    have h1:ae (if z.length<=1000/\y.length<=1000/\i.natAbs<2^64 then .ok (.str (z++(toString i:Str)++y)) F else .bad) (bw fa X.K B H Q):=h1;split at h1
    ·next hm=>
     refine{Qs hm.1 (by rw[<- dM];decide),B,U,M,J,L,?_}
     rw[I];intro v E u S P r1;obtain rfl:v=.int i:=r1;exact{i,rfl,Bj hm.1 hm.2.1 hm.2.2,h1 (.str _) E u S P rfl}
    ·exact h1.elim
  |_=>exact h1.elim
def Lg (K:Qf)(C D fI:Addr)(h:Str):Bool:=lp K C fI&&PySem.W.keepIn K (.ref C)&&PySem.W.readsIn K D (.type "type")&&(PySem.W.specialIn K (.ref D) "__getattribute__"==some (some (.builtin "type.__getattribute__")))&&setIn K C h&&PySem.W.keepIn K (.ref fI)
def pe {K:Qf}{st:Stmt}{C D fI cd:Addr}(X:K.In h)(G:h.Ns mainGlobals mg)
 (a:PySem.W.nsIn K mainGlobals x=some (some (.ref C))) (U:PySem.W.nsIn K mainGlobals "DeedError"=some (some (.ref D))) (hf:fa (fk c)=some C) (b:Lg K C D fI (fU c)=true) (h2:PySem.W.findCls K (.ref D) (.type "type") "__init__"=some (.val (.builtin "ValueError.__init__")))
 (l:K.lookup fI=some {.type "function",none,.func (PySem.W.fnOf "__init__" qual (dO st) (cf st) (aN st) .none .none .none (.str pm t) none (.ref cd) .none),#[]}) (e:PySem.W.codeIn K (.ref cd) qual=true) (S:hR ["self",y] ["self",y] (aN st))
 (hb:cf st=[.Expr (.Call (.Attribute (.Name "DeedError" p1) "__init__" p2) [.Name "self" p3,.JoinedStr [.Constant (.str z) j p4,.FormattedValue (.Name y p5) (-1) none p6] p7] [] p8) p9,.Assign [.Attribute (.Name "self" p10) (fU c) p11] (.Name y p12) p13])
 (I:∀L cd,FX "DeedError" "__init__" (.Name "self" p3) (.JoinedStr [.Constant (.str z) j p4,.FormattedValue (.Name y p5) (-1) none p6] p7) p1 p2 p8 (envOfC qual (aN st) L fI cd))
 (hz:z.length<=1000) (M:(y==("__debug__":Str))=false) (J:(y==("__classdict__":Str))=false) (v0:(aN st).names.lookup ("self":Str)=some .local) (v1:(aN st).names.lookup y=some .local)
 (hg:∀L cd,(envOfC qual (aN st) L fI cd).kindOf "DeedError"=some .globalImplicit)
 (H:∀(kV v pm:Qj) (B:Option Addr) (u ct Q R:Qj),bindArgs (PySem.W.fnOf "__init__" qual (dO st) (cf st) (aN st) .none kV v pm B u ct) {[Q,R],[]}=pure ((["self",y]:List Str).zip [Q,R])) (P:Q0) (base:Heap):lD fa P w K mg base c x:=by
 simp only[Lg,Qh,beq_iff_eq] at b;obtain⟨⟨⟨⟨⟨O,Y⟩,b3⟩,b4⟩,b5⟩,b6⟩:=b;have F:=Bg l e b6;exact{C,fI,_,y,_,Rr X G a,hf,O,Y,l,rfl,F.binds λkV v pm B u ct E hl=>NY (p:=λE=>bindArgs (PySem.W.fnOf "__init__" qual (dO st) (cf st) (aN st) .none kV v pm B u ct) {E,[]}=pure ((["self",y]:List Str).zip E)) (H kV v pm B u ct) E hl,
  Lf F S hb I hz M J v0 v1 hg (Rr X G U) b3 h2 b4 O b5}
noncomputable def Ou (K:Qf)(cl:List (Nat×Addr))(f:Str):Bool:=cl.all λq=>!(fU q.1==f)||(PySem.W.hasDictIn K q.2&&PySem.W.findIn K (.ref q.2) f==some none)
def zo {K:Qf}{D:Addr}(h:Ou K cl f=true):xF (sG l cl D) K f:=λc C e j=>by
 have:=(Qq.mp h) _ (jR e);simp only[j,beq_self_eq_true,Bool.not_true,Bool.false_or,Qh,beq_iff_eq] at this;exact this
def Ac (M:Mem)(x:D):Str:=(toPy (dg 64 M x)).shown
def Mx (M:Mem)(x:D):Bool:=aE 64 (dg 64 M x)&&((toPy (dg 64 M x)).showable&&decide ((Ac M x).length<=sizeLine))
def MC:List D->Mem->Res D
 |[x],M=>if Mx M x=true then .ok (.str (Ac M x)) M else .bad
 |_,_=>.bad
def tQ (s:GA):GE:=λj M=>(s j M).bind λh M=>MC h M
section
variable{fa:Fa}{X:Cx}{a st:Expr}{ga gs:GE}{pos p2:Pos}
def Li (a st:GE):GE:=λh M=>(a h M).bind λx M=>(st h M).bind λy M=>match x,y with
 |.tup xs,.int i=>if i=1 then .ok (.tup xs) M else if i=-1 then .ok (.tup xs.reverse) M else .bad
 |_,_=>.bad
end
def mw (k1 k2:Nat)(h:GS):Fl->Mem->Res Fl
 | .exc x j,M=>match x with
   |.exc c _=>if c=k1\/c=k2 then(h j M).bind λfl M=>match fl with|.exc _ _=>.bad|fl=>.ok fl M else .bad
   |_=>.bad
 |fl,M=>.ok fl M
def mB (b:GS)(k1 k2:Nat)(h:GS):GS:=λj M=>(b j M).bind (mw k1 k2 h)
def xH (fa:Fa)(K:Qf)(mg:Str->Option Qj)(x1 x2:Str)(k1 k2:Nat):Prop:=∃h j,mg x1=some (.ref h)/\mg x2=some (.ref j)/\∀c C,c=k1\/c=k2->fa (fk c)=some C->PySem.W.exmAny K (.ref C) [.ref h,.ref j]=some true
section
variable{fa:Fa}{X:Cx}{pos np np' tp hp:Pos}{x1 x2:Str}{k1 k2 k:Nat}{body suite:List Stmt}{b0:Stmt}{gB gH:GS}
set_option tactic.hygienic true in
def GQ (h2:xH fa X.K X.mg x1 x2 k1 k2)(hex:X.ex=[])(Q:X.stack=X.env::X.outer)(hfr:X.env.frame=some X.env.locals)
 (hg:Gl X x1) (hg':Gl X x2) (hdb:(x1==("__debug__":Str))=false) (hdb':(x2==("__debug__":Str))=false) (hb:∀pn E,kK fa (nI X pn E) body gB) (hh:∀v E,kK fa (qm X v E) (b0::suite) gH) :
 DS fa X (.Try body [.ExceptHandler (some (.Tuple [.Name x1 np,.Name x2 np'] k tp)) none (b0::suite) hp] [] [] pos) (mB gB k1 k2 gH):=by
 rintro B s σ H D' I ⟨μ,Z,M,hE,hM,h⟩;obtain⟨O,P,m1,m2,hm⟩:=h2;obtain⟨fl,M1,e,q⟩:=aT h;refine wpAny_Try_except (wpAny_mono (hb (X.pn++B) (λe s₁=>wpAny (model X.prog X.w) X.A (noteFrame e X.env) (λ_ s₂=>wpAny (model X.prog X.w) X.A (setFlight e none) (λ_ s₃=>wpAny (model X.prog X.w) X.A (handleBy e X.env [.ExceptHandler (some (.Tuple [.Name x1 np,.Name x2 np'] k tp)) none (b0::suite) hp]) (SP X B D') X.xe s₃) X.xe s₂) X.xe s₁) [] s σ H D' (sC I _) {μ,Z,M,hE,hM,?_}) (λf s1 z=>?_) λ_ _ z=>z)
 ·rw[e];cases fl with
  |next ρ'=>exact q
  |ret d=>exact q
  | exc y ρ1=>
    intro pins' σ' H' U s' a C dx c p Y ye hE1 hM1 ey hcC hn fl;refine qT (by rw[<- Q];exact Y.ok.frames) (by rw[<- Q];exact Y.stack) hfr fl (λb z=>(lX Y hex (RX z)).1) Y.hok (by rw[<- Q];exact Y.stkFree) λL ch S u hok fl2=>?_
    have R:=vh (d5 Y) (λb hb=>{(S b hb).1.1,(S b hb).2.2,(S b hb).1.2}) (by rw[Q];exact u) hok
    obtain⟨nw,ha,o,vs,h1,h2,h3,h4,tr⟩:=id fl2;have hnc:PySem.W.notCls o=true:=by unfold PySem.W.notCls;rw[h4]
    subst ey;have hck:c=k1\/c=k2:=by
     by_cases z:c=k1\/c=k2
     ·exact z
     ·unfold mw at q;dsimp only at q;rw[if_neg z] at q;exact q.elim
    unfold mw at q;dsimp only at q;rw[if_pos hck] at q;obtain⟨fl3,M2,e3,q3⟩:=aT q;have IA:∃od,RO L a o C od:=by
     cases p with
     | none=>
       exact{none,h1,h2,hnc,by rw[h3,hn];trivial}
     | some k=>
       obtain⟨d,rfl,hd⟩:=hn;obtain⟨mA,⟨od,es,ep,ed,_⟩,_⟩:=hok d _ hd;exact{some od,h1,h2,hnc,by rw[h3];exact ed}
    obtain⟨od,IA⟩:=IA;refine wpAny_handleBy_cons (codeAny_handlers_test (wpAny_Tuple_spliced ?_)) (by intro z;cases z)
    refine Calls.spliced_cons (gp (jn R (.ref a) X.xe) hg m1 ?_ hdb);refine Calls.spliced_cons (gp (jn R (.ref a) X.xe) hg' m2 ?_ hdb');refine Calls.spliced_nil {by show 2<=sizeLine;decide,?_}
    have hf:=R.hok.fresh (Qo _);have kp:∀b u,L.get? b=some u->(L.push {cls:=.type "tuple",data:=.seq [Value.ref O,Value.ref P].toArray}).get? b=some u:=λb u e=>Qi _ e;have ep:(L.push {cls:=.type "tuple",data:=.seq [Value.ref O,Value.ref P].toArray}).get? L.objs.size=some {cls:=.type "tuple",data:=.seq [Value.ref O,Value.ref P].toArray}:=QD _ rfl;have I3:Inv X B σ' (upd H' L.objs.size (.tup [.ref O,.ref P])) {s' with heap:=L.push {cls:=.type "tuple",data:=.seq [Value.ref O,Value.ref P].toArray}}:=R.laid kp (Qo _) {by show 2<=sizeLine;decide,[.ref O,.ref P],.cons rfl (.cons rfl .nil),{_,ep,rfl,_,rfl}}
    have LT:Sj (model X.prog X.w) L (typeOf (.ref a)) (.ref C):=IA.type;refine(PySem.W.exm_tup2 I3.kIn (LT.keeps kp) ep (hm c C hck hcC)).at ?_;have xa:Ext U H' U (upd H' L.objs.size (.tup [.ref O,.ref P])):=Ext.alloc hM1 hf;have na:a≠L.objs.size:=λz=>absurd (Qy h1) (by rw[z];exact Rt _)
    have fl3':mv (ni (nI X (X.pn++B) X.xe)) C dx a (L.push {cls:=.type "tuple",data:=.seq [Value.ref O,Value.ref P].toArray}) (upd H' L.objs.size (.tup [.ref O,.ref P])):=by
     refine{nw,by rw[aI na];exact ha,o,vs,kp _ _ h1,h2,h3,h4,?_}
     rcases tr with t|⟨T,oT,ts,t1,t2,t3,t4,t5,t6,t7⟩
     ·exact .inl t
     ·exact .inr {T,oT,ts,t1,t2,t3,by rw[aI (λz=>absurd (Qy t5) (by rw[z];exact Rt _))];exact t4,kp _ _ t5,t6,t7}
    refine codeAny_handlers_suite (qr fl3' ?_);refine wpAny_mono (hh (.ref a) _ B _ σ' (upd H' L.objs.size (.tup [.ref O,.ref P])) D' (jn I3 (.ref a) _) {U,_,M1,hE1.ext xa,hM1.alloc hf,?_}) (λf s5 z=>?_) λ_ _ z=>z
    ·rw[e3];cases fl3 with
     |next ρ2=>exact λσ2 H2 μ2 x2 hE2 hM2=>q3 σ2 H2 μ2 ((ye.trans xa).trans x2) hE2 hM2
     |ret d=>exact bw.ext q3 (ye.trans xa)
     |exc=>exact q3.elim
    ·dsimp only;cases f with
     | next=>
       obtain⟨j,F,J,z⟩:=z;exact{_,F,hI R.ok.hd J,z}
     | ret u=>
       obtain⟨v,j,F,J,r5,z⟩:=z;exact{v,_,F,hI R.ok.hd J,r5,z}
     |brk=>obtain⟨_,F,J,z⟩:=z;exact{_,F,hI R.ok.hd J,z}
     |cont=>obtain⟨_,F,J,z⟩:=z;exact{_,F,hI R.ok.hd J,z}
 ·cases f with
  |next=>obtain⟨j,F,J,z⟩:=z;exact wpAny_execs_nil {j,F,d5 J,z}
  |ret u=>obtain⟨v,j,F,J,r5,z⟩:=z;exact{v,j,F,d5 J,r5,z}
  |brk=>obtain⟨j,F,J,z⟩:=z;exact{j,F,d5 J,z}
  |cont=>obtain⟨j,F,J,z⟩:=z;exact{j,F,d5 J,z}
end
noncomputable def Ow (K:Qf)(cl:List (Nat×Addr))(h j:Addr)(k1 k2:Nat):Bool:=cl.all λq=>!(q.1==k1||q.1==k2)||PySem.W.exmAny K (.ref q.2) [.ref h,.ref j]==some true
def Ja {K:Qf}{D j u:Addr}(y:mg x1=some (.ref j))(B:mg x2=some (.ref u))(h:Ow K cl j u k1 k2=true):xH (sG l cl D) K mg x1 x2 k1 k2:=by
 refine{j,u,y,B,λc C v e=>?_};have:=Qq.mp h _ (jR e);rw[Ry] at this;rcases this with z|z
 ·have e1:(c==k1||c==k2)=true:=by simpa using v
  rw[e1] at z;cases z
 ·exact eq_of_beq z
def L6 (fa:Fa)(K:Qf):Prop:=∀c C,fa (mj c)=some C->lZ c≠[]->xJ K C/\∀f∈lZ c,L7 K C f
def qF (fa:Fa)(K:Qf)(m:Str)(c f:Nat):Prop:=∃C,fa (mj c)=some C/\xJ K C/\(∀ad,fa f=some ad->Meth K C m ad)/\m∉lZ c/\lZ c≠[]
end LD
namespace LD
open PySem
section
variable{prog:Q0}{w:QX}{A:Rz}{E:Qj->Qn->Prop}{s:Qn}
abbrev TK (prog:Q0)(w:QX)(h:Heap)(ks:List Int)(a:Addr):Prop:=IsTupleKey (intKind prog w) h ks a
end
end LD
namespace LD
open PySem PySem.Spec PyProof.Rows L2
theorem xm {K:Qf}:∀{ds:List D}{vs:List V}{us:List Qj}{ks:List Int},aO fa K μ H ds vs->Vals vs us->intsOf ds=some ks->ItemsAre (intKind prog w) ks us
 | [],vs,us,ks,h,r,e=>by
   obtain rfl:vs=[]:=h;cases r;cases e;exact .nil
 | .int i::ds,vs,us,ks,h,r,e=>by
   obtain⟨v,vr,rfl,p,q⟩:=h;cases r with
   | cons r1 r2=>
     obtain⟨k,j,e⟩:=Qr.mp e;subst e;obtain rfl:v=.int i:=p;obtain⟨t,rfl⟩:=r1;exact .cons (by simp[intKind,Value.isInt]) (xm q r2 j)
 |.non::_,_,_,_,_,_,e=>by cases e
 |.bl _::_,_,_,_,_,_,e=>by cases e
 |.str _::_,_,_,_,_,_,e=>by cases e
 |.tup _::_,_,_,_,_,_,e=>by cases e
 |.lst _::_,_,_,_,_,_,e=>by cases e
 |.frz _::_,_,_,_,_,_,e=>by cases e
 |.cell _::_,_,_,_,_,_,e=>by cases e
 |.fn _::_,_,_,_,_,_,e=>by cases e
 |.exc _ _::_,_,_,_,_,_,e=>by cases e
section
variable{fa:Fa}{X:Cx}{pins:List (Addr×Obj)}{σ:L2.St}{H:Hp}{s:Qn}{μ:Mu}
def Jb (I:Inv X pins σ H s)(r:Rep fa X.K μ H (.tup ds) (.ref b)):∃vs h o n,aO fa X.K μ H ds vs/\Vals vs h/\s.heap.get? b=some o/\o.cls=.type "tuple"/\o.data=.seq h.toArray n:=by
 obtain⟨a,vs,e,j,u⟩:=r;cases e;obtain⟨h,v,p,_⟩:=I.tuple j;obtain⟨o,h1,h2,n,h3⟩:=p;exact⟨vs,h,o,n,u,v,h1,h2,h3⟩
def Hz (I:Inv X pins σ H s)(r:Rep fa X.K μ H d (.ref b))(e:mQ d=some ks):TK X.prog X.w s.heap ks b:=by
 cases d with
 | tup v=>
   obtain⟨y,h,o,n,j,u,h1,h2,h3⟩:=Jb I r;exact{o,h.toArray,n,h1,h2,h3,by simpa using xm j u e}
 |_=>cases e
end
theorem vi:∀{a b:List D}{x y:List Int},intsOf a=some x->intsOf b=some y->fN a b=decide (x=y)/\(x=y->a=b)
 |[],[],_,_,e,f=>by cases e;cases f;exact{rfl,λ_=>rfl}
 | [],.int j::b,_,_,e,f=>by
   obtain⟨_,_,rfl⟩:=Qr.mp f;cases e;exact{by simp[fN],λz=>by cases z}
 | .int i::a,[],_,_,e,f=>by
   obtain⟨_,_,rfl⟩:=Qr.mp e;cases f;exact{by simp[fN],λz=>by cases z}
 | .int i::a,.int j::b,_,_,e,f=>by
   obtain⟨x,e1,rfl⟩:=Qr.mp e;obtain⟨y,f1,rfl⟩:=Qr.mp f;obtain⟨h1,h2⟩:=vi e1 f1;refine{?_,λz=>?_}
   ·show(i==j&&fN a b)=_;rw[h1];by_cases z:i=j<;>simp[z]
   ·cases z;rw[h2 rfl]
 |.non::_,_,_,_,e,_=>by cases e
 |.bl _::_,_,_,_,e,_=>by cases e
 |.str _::_,_,_,_,e,_=>by cases e
 |.tup _::_,_,_,_,e,_=>by cases e
 |.lst _::_,_,_,_,e,_=>by cases e
 |.frz _::_,_,_,_,e,_=>by cases e
 |.cell _::_,_,_,_,e,_=>by cases e
 |.fn _::_,_,_,_,e,_=>by cases e
 |.exc _ _::_,_,_,_,e,_=>by cases e
 |_,.non::_,_,_,_,e=>by cases e
 |_,.bl _::_,_,_,_,e=>by cases e
 |_,.str _::_,_,_,_,e=>by cases e
 |_,.tup _::_,_,_,_,e=>by cases e
 |_,.lst _::_,_,_,_,e=>by cases e
 |_,.frz _::_,_,_,_,e=>by cases e
 |_,.cell _::_,_,_,_,e=>by cases e
 |_,.fn _::_,_,_,_,e=>by cases e
 |_,.exc _ _::_,_,_,_,e=>by cases e
def pa (e:mQ d=some x):∃ds,d=.tup ds/\intsOf ds=some x:=by
 cases d with
 |tup ds=>exact⟨ds,rfl,e⟩
 |_=>cases e
def Dp (e:mQ a=some x)(f:mQ b=some y):dt a b=decide (x=y)/\(x=y->a=b):=by
 obtain⟨h,rfl,e⟩:=pa e;obtain⟨bs,rfl,f⟩:=pa f;obtain⟨h1,h2⟩:=vi e f;exact{h1,λz=>by rw[h2 z]}
structure KD (X:Cx) (c:Int) where
 K:Type
 dq:DecidableEq K
 knd:HeapKind X.prog X.w K
 dec:D->Option K
 hash:∀d,yD c d=(dec d).map knd.hash
 is:∀{fa:Fa}{μ:Mu}{H:Hp}{pins:List (Addr×Obj)}{σ:L2.St}{s:Qn}{d:D}{b:Addr}{k:K},Inv X pins σ H s->Rep fa X.K μ H d (.ref b)->dec d=some k->knd.is s.heap k b
 beq:∀{a b:D}{x y:K},dec a=some x->dec b=some y->dt a b=decide (x=y)/\(x=y->a=b)
 ref:∀{fa:Fa}{μ:Mu}{H:Hp}{d:D}{v:V}{k:K},Rep fa X.K μ H d v->dec d=some k->∃b,v=.ref b
 room:Rm X->knd.room X.A.in1
 room0:Rm X->knd.room X.A
def KD.f (X:Cx):KD X 77 where
 K:=List Int
 dq:=inferInstance
 knd:=tupleKind (intKind X.prog X.w)
 dec:=mQ
 hash:=λd=>by unfold yD;rw[if_pos rfl];rfl
 is:=λI r e=>Hz I r e
 beq:=λe f=>Dp e f
 ref:=λr e=>by
  obtain⟨j,rfl,_⟩:=pa e;obtain⟨a,_,rfl,_⟩:=r;exact⟨a,rfl⟩
 room:=λh=>by show X.A.units+1<cLine;unfold Rm at h;omega
 room0:=λh=>by show X.A.units<cLine;unfold Rm at h;omega
instance kdq {X:Cx}{c:Int} (kd:KD X c):DecidableEq kd.K:=kd.dq
end LD
namespace LD
open PySem
def ob {α β:Type}{a:Option α}{f:α->Option β}{r:β}(h:a.bind f=some r):∃x,a=some x/\f x=some r:=Rb.mp h
def oi {α:Type}{c:Prop}[Decidable c]{a:Option α}{r:α}(h:(if c then a else none)=some r):c/\a=some r:=by
 split at h
 ·exact{by assumption,h}
 ·cases h
section
variable{β:Type}{r:β}{e:Expr}{st:Stmt}
def od {c:Prop}[Decidable c]{f:c->Option β}(h:(if x:c then f x else none)=some r):∃x,f x=some r:=by
 by_cases z:c
 ·rw[dif_pos z] at h;exact⟨z,h⟩
 ·rw[dif_neg z] at h;cases h
local macro_rules|`(command|#check $n:ident $a*)=>do
 let m:=a[0]!.raw;let c:Lean.TSyntax `ident:=⟨a[1]!.raw⟩;let v:Array (Lean.TSyntax `ident):=(a.extract 3 a.size).map λx=>⟨x.raw⟩;let f:=Lean.mkIdentFrom c (c.getId++`elim)
 `(noncomputable def $n {β:Type} e:=λg=>if h:e.ctorIdx=$(⟨a[2]!.raw⟩) then @$f (λ_=>Option β) e h g else none
 theorem $(⟨m⟩) {β:Type}{e}{g}{y:β}(h:$n e g=some y):∃$[$v:ident]*,e=$c $v*∧g $v*=some y:=(od h).elim λz h=>@$f (λe=>∀z,@$f (λ_=>Option β) e z g=some y→∃$[$v:ident]*,e=$c $v*∧g $v*=some y) e z (λ$v* _ h=>by exact⟨$v,*,rfl,h⟩) z h)
#check Kt u3 Expr.UnaryOp 3 a b c
#check EY u6 Expr.BoolOp 0 a b c
#check Oc AO Expr.ListComp 8 a b c d
#check Kv w8 Expr.IfExp 5 a b c d
#check O0 w9 Expr.Compare 15 a b c d
#check EX u5 Expr.Call 16 a b c d
#check OZ Ht Expr.FormattedValue 17 a b c d
#check OY Hr Expr.JoinedStr 18 a b
#check yn nF Expr.Constant 19 a b c
#check EZ u7 Expr.Attribute 20 a b c
#check u4 lb Expr.Subscript 21 a b c
#check nName bX Expr.Name 23 a b
#check lT fh Expr.Tuple 25 a b c
#check De qV Expr.Slice 26 a b c d
#check xZ nv Stmt.Assign 5 a b c
#check Jv wH Stmt.Raise 16 a b c
#check N9 Am Stmt.Try 17 a b c d f
#check Jz wI Stmt.Expr 24 a b
#check O1 Hu Expr.BinOp 2 a b c d
#check OX Hq Expr.List 24 a b
#check sRt Ju Stmt.Return 3 a b
#check sFr Jy Stmt.For 9 a b c d f
#check sIf Jx Stmt.If 12 a b c d
#check sPs Jw Stmt.Pass 25 a
variable{α:Type}{l:List α}
noncomputable def n0 (l:List α)(v:Option β):Option β:=if l.isEmpty=true then v else none
def ij {v:Option β}(h:n0 l v=some r):l=[]/\v=some r:=(oi h).elim λc h=>{List.isEmpty_iff.mp c,h}
noncomputable def nC (l:List α)(k:α->List α->Option β):Option β:=match l with
 |[]=>none
 |a::s=>k a s
def ie {k:α->List α->Option β}(h:nC l k=some r):∃a s,l=a::s/\k a s=some r:=by
 cases l with
 |nil=>cases h
 |cons a s=>exact⟨a,s,rfl,h⟩
def n1 (l:List α)(k:α->Option β):Option β:=nC l λa s=>n0 s (k a)
def eW {k:α->Option β}(h:n1 l k=some r):∃a,l=[a]/\k a=some r:=by
 obtain⟨a,s,rfl,h⟩:=ie h;obtain⟨rfl,h⟩:=ij h;exact⟨a,rfl,h⟩
def n2 (l:List α)(k:α->α->Option β):Option β:=nC l λa s=>n1 s (k a)
def gm {k:α->α->Option β}(h:n2 l k=some r):∃a b,l=[a,b]/\k a b=some r:=by
 obtain⟨a,s,rfl,h⟩:=ie h;obtain⟨b,rfl,h⟩:=eW h;exact⟨a,b,rfl,h⟩
def Dd (e:Expr)(k:Str->Option β):Option β:=yn e λc _ _=>match c with
 |.str z=>k z
 |_=>none
def w6 {k:Str->Option β}(h:Dd e k=some r):∃z i p,e=.Constant (.str z) i p/\k z=some r:=by
 obtain⟨c,i,p,rfl,h⟩:=nF h;cases c with
 |str z=>exact⟨z,i,p,rfl,h⟩
 |_=>cases h
def EW (e:Expr)(v:Option β):Option β:=yn e λc _ _=>match c with
 |.bool b=>if b=true then v else none
 |_=>none
def Dc {v:Option β}(h:EW e v=some r):∃i p,e=.Constant (.bool true) i p/\v=some r:=by
 obtain⟨c,i,p,rfl,h⟩:=nF h;cases c with
 |bool b=>obtain⟨rfl,k⟩:=oi h;exact⟨i,p,rfl,k⟩
 |_=>cases h
def Ku (e:Expr)(k:Int->Option β):Option β:=yn e λc _ _=>match c with
 |.int z=>k z
 |_=>none
def Hs {k:Int->Option β}(h:Ku e k=some r):∃z i p,e=.Constant (.int z) i p/\k z=some r:=by
 obtain⟨c,i,p,rfl,h⟩:=nF h;cases c with
 |int z=>exact⟨z,i,p,rfl,h⟩
 |_=>cases h
def Od (e:Expr)(k:Expr->Option β):Option β:=OZ e λa i s _=>if i=-1/\s.isNone=true then k a else none
def Kw {k:Expr->Option β}(h:Od e k=some r):∃a p,e=.FormattedValue a (-1) none p/\k a=some r:=by
 obtain⟨a,i,s,p,rfl,h⟩:=Ht h;obtain⟨⟨rfl,c⟩,k⟩:=oi h;rw[Rn.mp c];exact⟨a,p,rfl,k⟩
noncomputable def nG (c:Comprehension)(k:Expr->Expr->List Expr->Option β):Option β:=if c.is_async=0 then k c.target c.iter c.ifs else none
def ym {c:Comprehension}{k:Expr->Expr->List Expr->Option β}(h:nG c k=some r):∃t i f,c={t,i,f,0}/\k t i f=some r:=by
 obtain⟨z,h⟩:=oi h;cases c;cases z;exact{_,_,_,rfl,h}
def om (e:Expr)(k:Str->List Expr->Pos->Option β):Option β:=EX e λf es ks p=>nName f λx _=>n0 ks (k x es p)
def ig {k:Str->List Expr->Pos->Option β}(h:om e k=some r):∃x q es p,e=.Call (.Name x q) es [] p/\k x es p=some r:=by
 obtain⟨f,es,ks,p,rfl,h⟩:=u5 h;obtain⟨x,q,rfl,h⟩:=bX h;obtain⟨rfl,h⟩:=ij h;exact⟨x,q,es,p,rfl,h⟩
def Kx (e:Expr)(k:Expr->Str->Expr->Bool->Option β):Option β:=EX e λf es ks p=>EZ f λa m q=>n0 ks (n1 es λd=>k a m d (q.endLine==p.line))
def AQ {k:Expr->Str->Expr->Bool->Option β}(h:Kx e k=some r):∃a m q d p,e=.Call (.Attribute a m q) [d] [] p/\k a m d (q.endLine==p.line)=some r:=by
 obtain⟨f,es,ks,p,rfl,h⟩:=u5 h;obtain⟨a,m,q,rfl,h⟩:=u7 h;obtain⟨rfl,h⟩:=ij h;obtain⟨d,rfl,h⟩:=eW h;exact⟨a,m,q,d,p,rfl,h⟩
def cp {a b:Option β}(h:a.or b=some r):a=some r\/b=some r:=by
 cases a with
 |none=>exact .inr h
 |some x=>exact .inl h
end
end LD
namespace LD
open PySem PySem.Spec PyProof.Rows L2
noncomputable def maxD:List D->Mem->Res D
 |[.int a,.int b],M=>.ok (.int (if b > a then b else a)) M
 |_,_=>.bad
def yI (s:GA):GE:=λj M=>(s j M).bind λh M=>maxD h M
def OS (fa:Fa)(K:Qf):List V->Hp->VK->Prop:=λu H Q=>∃h M j,RelM fa K h H M/\aO fa K h H j u/\ae (maxD j M) (bw fa K h H Q)
section
variable{fa:Fa}{X:Cx}{a:Expr}{es:List Expr}{gs:GA}{p pos:Pos}
set_option tactic.hygienic true in
def Nl (B:X.calm=true):c4 X (.builtin "max") (OS fa X.K):=by
 intro y s W H xs S Q I r h;obtain⟨U,M,P,z,J,h⟩:=h;unfold maxD at h;split at h
 ·next i j=>
  obtain⟨L,r1,rfl,h1,h2⟩:=J;obtain⟨O,r2,rfl,h3,h4⟩:=h2;obtain rfl:r2=[]:=h4;obtain rfl:L=.int i:=h1;obtain rfl:O=.int j:=h3;cases r with
  | cons E v=>
    cases v with
    | cons v F=>
      cases F;obtain⟨t,rfl⟩:=E;obtain⟨u,rfl⟩:=v;refine max_two_ints (I.ok.hd B) λR tk hk=>?_;refine{.int (if j > i then j else i),H,I.kept hk,?_,a7 z h rfl};split
      ·exact⟨u,rfl⟩
      ·exact⟨t,rfl⟩
 ·exact h.elim
def MF (I:X.calm=true)(J:Gl X "max")(hm:X.mg "max"=none)(hs:DA fa X (a::es) gs)(he:notStar a=true)(u:es.all notStar=true) :
 DE fa X (.Call (.Name "max" p) (a::es) [] pos) (yI gs):=
 bJ (iU (Nl I) J hm `k hs `d `d (bI he) (dQ u)) (by rintro U H Q ⟨R,S,M,B,F,h⟩;exact rV B F h λz y P O v L E j r1 h1=>{v,y,z,j,r1,ky h1 L})
end
inductive En where
 |fn (i:Nat) (r:Bool)|fnD (i:Nat)|int (i:Int)|str (z:Str)|dct (fs:List (Str×Nat))|xc (k:Nat)|xi (k:Nat)|xk (k:Nat)|de|bl|cls (c f:Nat)
structure FR (fa:Fa) (P:Q0) (w:QX) (K:Qf) (mg:Str->Option Qj) (base:Heap) (T:List (Str×En)):Prop where
 fn:∀{x:Str}{i:Nat}{r:Bool},T.lookup x=some (.fn i r)->∀ad,fa i=some ad->mg x=some (.ref ad)
 fnD:∀{x:Str}{i:Nat},T.lookup x=some (.fnD i)->(∀ad,fa i=some ad->mg x=some (.ref ad))/\(fa (500+i)).isSome=true
 int:∀{x:Str}{i:Int},T.lookup x=some (.int i)->∃t,mg x=some (.int i t)
 str:∀{x:Str}{z:Str},T.lookup x=some (.str z)->∃t,mg x=some (.str z t)
 dct:∀{x:Str}{fs:List (Str×Nat)},T.lookup x=some (.dct fs)->∃ad kvs,mg x=some (.ref ad)/\gx K w.params ad kvs/\eZ fa kvs fs
 xc:∀{x:Str}{k:Nat},T.lookup x=some (.xc k)->∃C,mg x=some (.ref C)/\fa (fk k)=some C/\PySem.W.excIn K C ow "ValueError.__new__"=true/\PySem.W.keepIn K (.ref C)=true
 xi:∀{x:Str}{k:Nat},T.lookup x=some (.xi k)->lD fa P w K mg base k x/\∃D,mg x=some (.ref D)/\fa (fk k)=some D
 xk:∀{x:Str}{k:Nat},T.lookup x=some (.xk k)->∃D,mg x=some (.ref D)/\fa (fk k)=some D
 de:∀{x:Str},T.lookup x=some .de->∃D,mg x=some (.ref D)/\fa 999=some D
 bl:∀{x:Str},T.lookup x=some .bl->mg x=none
 xcs:ng fa K
 ob:L6 fa K
 of:∀o,5000<=o->fa o=none
 od:fa (mj 77)=none/\fa (mj 78)=none
 cls:∀{x:Str}{c f:Nat},T.lookup x=some (.cls c f)->∃C,mg x=some (.ref C)/\fa (mj c)=some C/\∀ad,fa f=some ad->Mk K C ad
structure G where
 T:List (Str×En)
 tw:List (Str×Str×Nat×Nat)
 xf:List Str
 cel:List (Nat×Nat×Nat)
 txt:List (Nat×Nat×Nat)
 ms:List (Str×Nat×Nat)
 c:Call
 N:List Str
 sc:Scope
 lv:Nat
 oc:List Str:=[]
structure eT (fa:Fa) (n:Nat) (g:G) (X:Cx):Prop where
 N:X.N=g.N
 nd:g.N.Nodup
 sc:X.env.scope=g.sc
 T:FR fa X.prog X.w X.K X.mg X.base g.T
 tw:∀q∈g.tw,xH fa X.K X.mg q.1 q.2.1 q.2.2.1 q.2.2.2
 xf:∀f∈g.xf,xF fa X.K f
 ms:∀q∈g.ms,qF fa X.K q.1 q.2.1 q.2.2
 fn:g.lv≠1->∀x,X.fn x=true
 oc:∀x∈g.oc,X.fn x=true
 calm:0<g.lv->X.calm=true
 C:0<g.lv->∀f,jw fa X.prog X.w X.K X.mg X.base n f (g.c f)
 hr:0<g.lv->cF (2*n+4+1) X.A
 top:2<=g.lv->X.ex=[]/\X.stack=X.env::X.outer/\X.env.frame=some X.env.locals/\X.env.scope.kind=.function
 po:g.lv=2->PassesOwn (model X.prog X.w) X.A X.env X.xe
structure Rc where
 e:G->Expr->Option GE
 t:G->Expr->Option GT
 x:G->Expr->Option GE
 w:G->Expr->Expr->Option GW
 s:G->Stmt->Option GS
abbrev fq:=Rc->G->Expr->Option GE
abbrev L3:=Rc->G->Expr->Option GT
abbrev sY:=Rc->G->Expr->Expr->Option GW
abbrev mq:=Rc->G->Stmt->Option GS
structure kc (fa:Fa) (n:Nat) (R:Rc):Prop where
 e:∀{g:G}{X:Cx}{a:Expr}{ga:GE},eT fa n g X->R.e g a=some ga->DE fa X a ga
 t:∀{g:G}{X:Cx}{a:Expr}{ga:GT},eT fa n g X->R.t g a=some ga->DT fa X a ga
 x:∀{g:G}{X:Cx}{a:Expr}{ga:GE},eT fa n g X->R.x g a=some ga->DX fa X a ga
 w:∀{g:G}{X:Cx}{t a:Expr}{ga:GW},eT fa n g X->R.w g t a=some ga->DI fa X t a ga
 s:∀{g:G}{X:Cx}{a:Stmt}{ga:GS},eT fa n g X->R.s g a=some ga->DS fa X a ga
def SE (r:fq):Prop:=∀{fa:Fa}{n:Nat}{R:Rc},kc fa n R->∀{g:G}{X:Cx},eT fa n g X->∀{a:Expr}{h:GE},r R g a=some h->DE fa X a h
def ST (r:L3):Prop:=∀{fa:Fa}{n:Nat}{R:Rc},kc fa n R->∀{g:G}{X:Cx},eT fa n g X->∀{a:Expr}{h:GT},r R g a=some h->DT fa X a h
def SX (r:fq):Prop:=∀{fa:Fa}{n:Nat}{R:Rc},kc fa n R->∀{g:G}{X:Cx},eT fa n g X->∀{a:Expr}{h:GE},r R g a=some h->DX fa X a h
def SW (r:sY):Prop:=∀{fa:Fa}{n:Nat}{R:Rc},kc fa n R->∀{g:G}{X:Cx},eT fa n g X->∀{t a:Expr}{h:GW},r R g t a=some h->DI fa X t a h
def SS (r:mq):Prop:=∀{fa:Fa}{n:Nat}{R:Rc},kc fa n R->∀{g:G}{X:Cx},eT fa n g X->∀{a:Stmt}{h:GS},r R g a=some h->DS fa X a h
structure Rs where
 e:List fq
 t:List L3
 x:List fq
 w:List sY
 s:List mq
noncomputable def It (rs:Rs):Nat->Rc
 |0=>{λ_ _=>none,λ_ _=>none,λ_ _=>none,λ_ _ _=>none,λ_ _=>none}
 |n+1=>{λg a=>rs.e.findSome? λr=>r (It rs n) g a,λg a=>rs.t.findSome? λr=>r (It rs n) g a,λg a=>rs.x.findSome? λr=>r (It rs n) g a,λg t a=>rs.w.findSome? λr=>r (It rs n) g t a,λg a=>rs.s.findSome? λr=>r (It rs n) g a}
noncomputable def AllP {h:Type}(p:h->Prop):List h->Prop
 |[]=>True
 |a::l=>p a/\AllP p l
noncomputable def AllP.mem {j:Type}{p:j->Prop}:∀{l:List j},AllP p l->∀a∈l,p a
 |_::_,h,a,m=>(Qu.mp m).elim (λe=>e ▸ h.1) (AllP.mem h.2 a)
structure Ed (rs:Rs):Prop where
 e:AllP SE rs.e
 t:AllP ST rs.t
 x:AllP SX rs.x
 w:AllP SW rs.w
 s:AllP SS rs.s
theorem FW (h:Ed rs):∀k,kc fa n (It rs k)
 |0=>{(λ_ z=>nomatch z),(λ_ z=>nomatch z),(λ_ z=>nomatch z),(λ_ z=>nomatch z),(λ_ z=>nomatch z)}
 | k+1=>by
   have j:=FW (n:=n) (fa:=fa) h k;refine{λo z=>?_,λo z=>?_,λo z=>?_,λo z=>?_,λo z=>?_}
   ·obtain⟨r,m,e⟩:=RD z;exact h.e.mem r m j o e
   ·obtain⟨r,m,e⟩:=RD z;exact h.t.mem r m j o e
   ·obtain⟨r,m,e⟩:=RD z;exact h.x.mem r m j o e
   ·obtain⟨r,m,e⟩:=RD z;exact h.w.mem r m j o e
   ·obtain⟨r,m,e⟩:=RD z;exact h.s.mem r m j o e
noncomputable def LM:Str:="__debug__"
def jo (g:G)(x:Str):Bool:=g.sc.names.lookup x==some .globalImplicit&&!(x==LM)
def vr (g:G)(x:Str):Option Nat:=if (g.sc.names.lookup x==some .local||g.sc.names.lookup x==some .cell||g.sc.names.lookup x==some .free)&&!(x==LM)&&!(x==("__classdict__":Str)) then g.N.findIdx? (·==x) else none
section
variable{fa:Fa}{n:Nat}{g:G}{X:Cx}{R:Rc}(o:eT fa n g X)
include o
theorem dh (h:jo g x=true):Gl X x/\(x==("__debug__":Str))=false:=by
 unfold jo at h;rw[Qh,RI] at h;exact{by show X.env.scope.names.lookup x=_;rw[o.sc];exact eq_of_beq h.1,h.2}
theorem nH (h:g.N.findIdx? (·==x)=some i):X.N[i]?=some x:=by
 obtain⟨j,h1,_⟩:=List.findIdx?_eq_some_iff_getElem.mp h;rw[o.N,QA j,eq_of_beq h1]
theorem Es (h:vr g x=some i):X.N[i]?=some x/\vY X.env.scope x/\(x==("__debug__":Str))=false/\(x==("__classdict__":Str))=false:=by
 obtain⟨c,h⟩:=oi h;simp only[Qh,Ry,RI] at c;refine{nH o h,?_,c.1.2,c.2};rw[o.sc];rcases c.1.1 with(z|z)|z
 ·exact .inl (eq_of_beq z)
 ·exact .inr (.inl (eq_of_beq z))
 ·exact .inr (.inr (eq_of_beq z))
omit o
theorem eT.rm (o:eT fa n g X)(h:0<g.lv):Rm X:=GR (o.hr h)
end
noncomputable def cA (f:Expr->Option GE):List Expr->Option GA
 |[]=>some b9
 |a::r=>if notStar a=true then(f a).bind λx=>(cA f r).bind λy=>some (ix x y) else none
theorem jJ (hf:∀{a:Expr}{j:GE},f a=some j->DE fa X a j):∀{es:List Expr}{u:GA},cA f es=some u->DA fa X es u/\es.all notStar=true
 |[],_,h=>by cases h;exact⟨LO,rfl⟩
 | a::r,_,h=>by
   obtain⟨c,h⟩:=oi h;obtain⟨x,v,h⟩:=ob h;obtain⟨y,z,h⟩:=ob h;cases h;obtain⟨h1,h2⟩:=jJ hf z;exact{Ig (hf v) h1 (bI c),by rw[Q7,c,h2];rfl}
noncomputable def vS (f:Expr->Option GE)(k:GE->GE->GE):List Expr->Option GE
 |[]=>none
 |[a]=>f a
 |a::b::r=>(f a).bind λx=>(vS f k (b::r)).bind λy=>some (k x y)
noncomputable def xC (hf:∀{a:Expr}{j:GE},f a=some j->DE fa X a j):∀{es:List Expr}{ge:GE},vS f dv es=some ge->DE fa X (.BoolOp .And es pos) ge
 |[a],_,h=>FE (hf h)
 | a::b::r,_,h=>by
   obtain⟨x,u,h⟩:=ob h;obtain⟨y,v,h⟩:=ob h;cases h;exact NL (hf u) (xC hf v)
noncomputable def BM (hf:∀{a:Expr}{j:GE},f a=some j->DE fa X a j):∀{es:List Expr}{ge:GE},vS f Oo es=some ge->DE fa X (.BoolOp .Or es pos) ge
 |[a],_,h=>FE (hf h)
 | a::b::r,_,h=>by
   obtain⟨x,u,h⟩:=ob h;obtain⟨y,v,h⟩:=ob h;cases h;exact PC (hf u) (BM hf v)
noncomputable def uj (f:Expr->Option GT)(k:GT->GT->GT):List Expr->Option GT
 |[]=>none
 |[a]=>f a
 |a::b::r=>(f a).bind λx=>(uj f k (b::r)).bind λy=>some (k x y)
noncomputable def wu (hf:∀{a:Expr}{j:GT},f a=some j->DT fa X a j):∀{es:List Expr}{ge:GT},uj f gU es=some ge->DW fa X (.BoolOp .And es pos) ge
 |[a],_,h=>HP (hf h)
 | a::b::r,_,h=>by
   obtain⟨x,u,h⟩:=ob h;obtain⟨y,v,h⟩:=ob h;cases h;exact Lu (hf u) (wu hf v)
noncomputable def zJ (hf:∀{a:Expr}{j:GT},f a=some j->DT fa X a j):∀{es:List Expr}{ge:GT},uj f cq es=some ge->DW fa X (.BoolOp .Or es pos) ge
 |[a],_,h=>Ls (hf h)
 | a::b::r,_,h=>by
   obtain⟨x,u,h⟩:=ob h;obtain⟨y,v,h⟩:=ob h;cases h;exact Nq (hf u) (zJ hf v)
def Ew:fq:=λ_ g e=>nName e λx _=>((vr g x).bind λi=>some (aa i)).or (if jo g x=true then(g.T.lookup x).bind fun
 |.int i=>some (gC (.int i))
 |.str i=>some (gC (.str i))
 |_=>none else none)
def B4:SE Ew:=by
 intro fa n R y g X o a u h;replace h:=bX h;obtain⟨x,p,rfl,h⟩:=h;rcases cp h with h|h
 ·obtain⟨i,e,h⟩:=ob h;cases h;obtain⟨a,b,c,d⟩:=Es o e;exact Nw a b c d
 ·obtain⟨c,h⟩:=oi h;obtain⟨j,hd⟩:=dh o c;obtain⟨t,e,h⟩:=ob h;cases t with
  |int i=>cases h;exact GZ j (o.T.int e) hd
  |str i=>cases h;obtain⟨t,e⟩:=o.T.str e;exact jS (v:=.str _) (iT j e ⟨t,rfl⟩ hd) λ_ _=>rfl
  |_=>cases h
def zD:fq:=λ_ _ e=>yn e fun
 |.int i,_,_=>some (gC (.int i))
 |.bool i,_,_=>some (gC (.bl i))
 |.str i,_,_=>some (gC (.str i))
 |.none,_,_=>some (gC .non)
 |_,_,_=>none
def zC:SE zD:=by
 intro fa n R u g X o a j h;replace h:=nF h;obtain⟨c,i,p,rfl,h⟩:=h;cases c with
 |int i=>cases h;exact NG
 |bool i=>cases h;exact PD
 |str i=>cases h;exact Ny
 |none=>cases h;exact NB
 |_=>cases h
noncomputable def G.cl (g:G)(p:Pos):Bool:=g.cel.contains (p.line,p.col,p.endCol)
def G.tx (g:G)(p:Pos):Bool:=g.txt.contains (p.line,p.col,p.endCol)
noncomputable def FO:Operator->Option oA
 |.Add=>some .add|.Sub=>some .sub|.Mult=>some .mul|.FloorDiv=>some .fdiv|.Mod=>some .mod|.Pow=>some .pow|_=>none
def D8 (h:FO q=some b):q=binOp b:=by cases q<;>cases h<;>rfl
noncomputable def gM:CmpOp->kj
 |.Eq=>.eq|.NotEq=>.ne|.Lt=>.lt|.LtE=>.le|.Gt=>.gt|.GtE=>.ge|.Is=>.isN|.IsNot=>.notN|.In=>.isin|.NotIn=>.notin
def dD (q:CmpOp):fz (gM q)=q:=by cases q<;>rfl
def IU:fq:=λR g e=>(O1 e λa q b p=>(FO q).bind λq=>(R.e g a).bind λx=>(R.e g b).bind λy=>some (ak (g.cl p) q x y)).or
 ((Kt e λq a _=>match q with
   |.USub=>(R.e g a).bind λx=>some (dZ x)
   |.Not=>(R.e g a).bind λx=>some (Lj x)
   |_=>none).or
 ((EY e λq h _=>match q with
   |.And=>vS (R.e g) dv h
   |.Or=>vS (R.e g) Oo h).or
 ((Kv e λc a b _=>(R.t g c).bind λt=>(R.e g a).bind λx=>(R.e g b).bind λy=>some (cT t x y)).or
 ((lT e λh _ _=>(cA (R.e g) h).bind λs=>some (bc s)).or (OX e λh p=>(cA (R.e g) h).bind λs=>some (aG (g.cl p) s))))))
def Gd:SE IU:=by
 intro fa n R j g X o a F h;replace h:=cp h;rcases h with h|h
 ·obtain⟨a,q,b,p,rfl,h⟩:=Hu h;obtain⟨q,B,h⟩:=ob h;obtain⟨x,u,h⟩:=ob h;obtain⟨y,v,h⟩:=ob h;cases h;rw[D8 B];exact NK _ _ (j.e o u) (j.e o v)
 replace h:=cp h;rcases h with h|h
 ·obtain⟨q,a,p,rfl,h⟩:=u3 h;cases q with
  |USub=>obtain⟨x,u,h⟩:=ob h;cases h;exact NC (j.e o u)
  |Not=>obtain⟨x,u,h⟩:=ob h;cases h;exact NA (j.e o u)
  |_=>cases h
 replace h:=cp h;rcases h with h|h
 ·obtain⟨q,z,p,rfl,h⟩:=u6 h;cases q with
  |And=>exact xC (j.e o) h
  |Or=>exact BM (j.e o) h
 replace h:=cp h;rcases h with h|h
 ·obtain⟨c,a,b,p,rfl,h⟩:=w8 h;obtain⟨t,E,h⟩:=ob h;obtain⟨x,u,h⟩:=ob h;obtain⟨y,v,h⟩:=ob h;cases h;exact NF (j.t o E) (j.e o u) (j.e o v)
 replace h:=cp h;rcases h with h|h
 ·obtain⟨z,k,p,rfl,h⟩:=fh h;obtain⟨s,hs,h⟩:=ob h;cases h;exact Nx (jJ (j.e o) hs).1
 ·obtain⟨z,p,rfl,h⟩:=Hq h;obtain⟨s,hs,h⟩:=ob h;cases h;exact ND _ (jJ (j.e o) hs).1
def DV (g:G)(x:Str):Option (List (Str×Nat)):=if jo g x=true then(match g.T.lookup x with|some (.dct fs)=>some fs|_=>none) else none
set_option tactic.hygienic true in
def vC (o:eT fa n g X)(h:DV g x=some fs):(∃ad j,X.mg x=some (.ref ad)/\gx X.K X.w.params ad j/\eZ fa j fs)/\Gl X x/\(x==("__debug__":Str))=false:=by
 obtain⟨c,h⟩:=oi h;split at h
 ·next e=>cases h;exact{o.T.dct e,dh o c}
 ·cases h
def D6 (R:Rc)(g:G)(e:Expr):Option GE:=O0 e λa h bs _=>
 (n2 h λq r=>n2 bs λb c=>if 0<g.lv/\behindInMarks r c=false then(R.e g a).bind λy=>(R.e g b).bind λz=>(R.e g c).bind λu=>some (j8 (gM q) (gM r) y z u) else none).or
 (n1 h λq=>n1 bs λb=>(if gM q=.notin then nName b λx _=>(DV g x).bind λfs=>(R.e g a).bind λy=>some (iw fs y) else none).or
  (if 0<g.lv/\behindInMarks q b=false then(R.e g a).bind λy=>(R.e g b).bind λz=>some (az (gM q) y z) else none))
def I0:fq:=D6
def u2 (h:gM q=.notin):q=.NotIn:=(dD q).symm.trans (congrArg fz h)
def Gi:SE I0:=by
 intro fa n R j g X o a F h;replace h:=w9 h;obtain⟨a,H,bs,p,rfl,h⟩:=h;replace h:=cp h;rcases h with h|h
 ·replace h:=gm h;obtain⟨q,r,rfl,h⟩:=h;obtain⟨b,d,rfl,h⟩:=gm h;obtain⟨c,h⟩:=oi h;replace h:=ob h;obtain⟨y,v,h⟩:=h;replace h:=ob h;obtain⟨z,B,h⟩:=h;replace h:=ob h;obtain⟨u,E,h⟩:=h;cases h;have:=NJ (o.rm c.1) (gM q) (gM r) (j.e o v) (j.e o B) (j.e o E) (by rw[dD,dD];exact c.2) (pos:=p)
  rw[dD,dD] at this;exact this
 replace h:=eW h;obtain⟨q,rfl,h⟩:=h;replace h:=eW h;obtain⟨b,rfl,h⟩:=h;replace h:=cp h;rcases h with h|h
 ·replace h:=oi h;obtain⟨c,h⟩:=h;obtain⟨x,_,rfl,h⟩:=bX h;obtain⟨fs,e,h⟩:=ob h;obtain⟨y,v,h⟩:=ob h;cases h;obtain⟨d,e1,e2⟩:=vC o e;rw[u2 c];exact G0 d e1 e2 (j.e o v) rfl
 ·obtain⟨c,h⟩:=oi h;obtain⟨y,v,h⟩:=ob h;obtain⟨z,B,h⟩:=ob h;cases h;have:=NI (o.rm c.1) (gM q) (j.e o v) (j.e o B) (by rw[dD];exact c.2) (pos:=p)
  rw[dD] at this;exact this
noncomputable def Oz:Expr->Bool
 |.Compare ..=>false
 |.BoolOp ..=>false
 |.UnaryOp ..=>false
 |.IfExp ..=>false
 |_=>true
def vT:L3:=λR g e=>((D6 R g e).bind λx=>some (ao x)).or
 ((EY e λq h _=>match q with
   |.And=>uj (R.t g) gU h
   |.Or=>uj (R.t g) cq h).or
 ((Kt e λq a _=>match q with
   |.Not=>(R.t g a).bind λx=>some (bB x)
   |_=>none).or (if Oz e=true then(R.e g e).bind λx=>some (ao x) else none)))
def F8 (j:kc fa n R)(o:eT fa n g X)(h:D6 R g a=some ga):DT fa X a (ao ga):=by
 replace h:=w9 h;obtain⟨a,F,bs,p,rfl,h⟩:=h;replace h:=cp h;rcases h with h|h
 ·replace h:=gm h;obtain⟨q,r,rfl,h⟩:=h;obtain⟨b,d,rfl,h⟩:=gm h;obtain⟨c,h⟩:=oi h;replace h:=ob h;obtain⟨y,v,h⟩:=h;replace h:=ob h;obtain⟨z,B,h⟩:=h;replace h:=ob h;obtain⟨u,E,h⟩:=h;cases h;have:=Lx (o.rm c.1) (gM q) (gM r) (j.e o v) (j.e o B) (j.e o E) (by rw[dD,dD];exact c.2) (pos:=p)
  rw[dD,dD] at this;exact this
 replace h:=eW h;obtain⟨q,rfl,h⟩:=h;replace h:=eW h;obtain⟨b,rfl,h⟩:=h;replace h:=cp h;rcases h with h|h
 ·replace h:=oi h;obtain⟨c,h⟩:=h;obtain⟨x,_,rfl,h⟩:=bX h;obtain⟨fs,e,h⟩:=ob h;obtain⟨y,v,h⟩:=ob h;cases h;obtain⟨d,e1,e2⟩:=vC o e;rw[u2 c];exact G4 d e1 e2 (j.e o v) rfl
 ·obtain⟨c,h⟩:=oi h;obtain⟨y,v,h⟩:=ob h;obtain⟨z,B,h⟩:=ob h;cases h;have:=Lw (o.rm c.1) (gM q) (j.e o v) (j.e o B) (by rw[dD];exact c.2) (pos:=p)
  rw[dD] at this;exact this
def Mh:ST vT:=by
 intro fa n R u g X o a y h;replace h:=cp h;rcases h with h|h
 ·obtain⟨x,j,h⟩:=ob h;cases h;exact F8 u o j
 replace h:=cp h;rcases h with h|h
 ·obtain⟨q,v,p,rfl,h⟩:=u6 h;cases q with
  |And=>exact PW.pt (wu (u.t o) h)
  |Or=>exact PW.pt (zJ (u.t o) h)
 replace h:=cp h;rcases h with h|h
 ·obtain⟨q,a,p,rfl,h⟩:=u3 h;cases q with
  |Not=>obtain⟨x,j,h⟩:=ob h;cases h;exact Lv (u.t o j)
  |_=>cases h
 ·obtain⟨c,h⟩:=oi h;obtain⟨x,j,h⟩:=ob h;cases h;exact DN (u.e o j) λ_=>by cases a<;>first|rfl|cases c
noncomputable def qe:Expr->Bool
 |.Slice ..=>false
 |_=>true
def uN (h:qe b=true):lA b:=by
 intro x i;cases b<;>first|rfl|cases h
noncomputable def cO (f:Expr->Option GE):Option Expr->Option GE
 |none=>some (gC .non)
 |some a=>f a
def tS (hf:∀{a:Expr}{j:GE},f a=some j->DE fa X a j)(h:cO f q=some ge):DO fa X q q.isSome ge:=by
 cases q with
 |none=>cases h;exact HX
 |some a=>exact HW (hf h)
noncomputable def IP:UnaryOp->Bool
 |.USub=>true
 |_=>false
def F9 (h:IP q=true):q=.USub:=by cases q<;>first|rfl|cases h
def IS:fq:=λR g e=>u4 e λa b _=>nName a λx _=>(DV g x).bind λfs=>if qe b=true then(R.e g b).bind λy=>some (lY fs y) else none
def Ga:SE IS:=by
 intro fa n R u g X o a v h;replace h:=lb h;obtain⟨a,b,p,rfl,h⟩:=h;replace h:=bX h;obtain⟨x,q,rfl,h⟩:=h;obtain⟨fs,e,h⟩:=ob h;obtain⟨c,h⟩:=oi h;obtain⟨y,j,h⟩:=ob h;cases h;obtain⟨d,e1,e2⟩:=vC o e;exact G1 d e1 e2 (u.e o j) (uN c)
def IX:fq:=λR g e=>u4 e λa b p=>(De b λlo h st _=>if st.isNone=true/\g.tx p=false then(R.e g a).bind λx=>(cO (R.e g) lo).bind λy=>(cO (R.e g) h).bind λz=>some (bG (g.cl p) lo.isSome h.isSome x y z) else none).or
 (if qe b=true then(R.e g a).bind λx=>(R.e g b).bind λy=>some (av x y) else none)
def Gg:SE IX:=by
 intro fa n R j g X o a E h;replace h:=lb h;obtain⟨a,b,p,rfl,h⟩:=h;replace h:=cp h;rcases h with h|h
 ·obtain⟨lo,F,st,p2,rfl,h⟩:=qV h;obtain⟨⟨c,_⟩,h⟩:=oi h;replace h:=ob h;obtain⟨x,u,h⟩:=h;replace h:=ob h;obtain⟨y,v,h⟩:=h;replace h:=ob h;obtain⟨z,B,h⟩:=h;cases h;rw[Rn.mp c];exact Nz _ _ _ (j.e o u) (tS (j.e o) v) (tS (j.e o) B)
 ·obtain⟨c,h⟩:=oi h;obtain⟨x,u,h⟩:=ob h;obtain⟨y,v,h⟩:=ob h;cases h;exact NH (j.e o u) (j.e o v) (uN c)
def Eu:fq:=λR g e=>u4 e λa b p=>De b λlo h st _=>if st.isNone=true/\g.tx p=true then(R.e g a).bind λx=>(cO (R.e g) lo).bind λy=>(cO (R.e g) h).bind λz=>some (nM lo.isSome h.isSome x y z) else none
def B3:SE Eu:=by
 intro fa n R j g X o a E h;replace h:=lb h;obtain⟨a,b,p,rfl,h⟩:=h;replace h:=qV h;obtain⟨lo,F,st,p2,rfl,h⟩:=h;obtain⟨⟨c,_⟩,h⟩:=oi h;replace h:=ob h;obtain⟨x,u,h⟩:=h;replace h:=ob h;obtain⟨y,v,h⟩:=h;replace h:=ob h;obtain⟨z,B,h⟩:=h;cases h;rw[Rn.mp c];exact JB _ _ (j.e o u) (tS (j.e o) v) (tS (j.e o) B)
def IT:fq:=λR g e=>u4 e λa b p=>De b λlo h st _=>st.bind λs=>Kt s λq c _=>Ku c λz=>if lo.isNone=true/\h.isNone=true/\IP q=true/\z=1 then(R.e g a).bind λx=>some (kS (g.cl p) x) else none
def Gb:SE IT:=by
 intro fa n R E g X o a F h;replace h:=lb h;obtain⟨a,b,p,rfl,h⟩:=h;replace h:=qV h;obtain⟨lo,H,st,p2,rfl,h⟩:=h;obtain⟨s,rfl,h⟩:=ob h;replace h:=u3 h;obtain⟨q,c,_,rfl,h⟩:=h;replace h:=Hs h;obtain⟨z,_,_,rfl,h⟩:=h;obtain⟨⟨j,u,v,y⟩,k⟩:=oi h;rw[Rn.mp j,Rn.mp u,F9 v,y];obtain⟨x,B,k⟩:=ob k;cases k;exact ME _ (E.e o B)
noncomputable def lx (g:G)(x:Str):Option Nat:=if (g.sc.names.lookup x==some .local||(g.sc.names.lookup x==some .cell&&(g.lv != 1||g.oc.contains x)))=true then g.N.findIdx? (·==x) else none
noncomputable def E1 (g:G):List Expr->Option (List Nat)
 |[]=>some []
 |e::r=>nName e λx _=>(lx g x).bind λi=>(E1 g r).bind λl=>some (i::l)
def cG (g:G)(e:Expr):Option gG:=(nName e λx _=>(lx g x).bind λi=>some (.one i)).or (lT e λh _ _=>if 0<g.lv then((E1 g h).bind λl=>some (.tup l)).or (n2 h λa b=>nName a λx _=>lT b λbs _ _=>(lx g x).bind λi=>(E1 g bs).bind λl=>some (.two i l)) else none)
section
variable{fa:Fa}{n:Nat}{g:G}{X:Cx}{R:Rc}(o:eT fa n g X)
include o
theorem yu (h:lx g x=some i):X.N[i]?=some x/\L2.Loc X.env.scope x/\(X.fn x=true\/X.env.scope.names.lookup x=some .local):=by
 obtain⟨c,h⟩:=oi h;rw[Ry,Qh] at c;refine{nH o h,?_,?_}
 ·unfold L2.Loc;rw[o.sc];rcases c with z|z
  ·exact .inl (eq_of_beq z)
  ·exact .inr (eq_of_beq z.1)
 ·rcases c with z|z
  ·right;rw[o.sc];exact eq_of_beq z
  ·rcases Bool.or_eq_true_iff.mp z.2 with q|q
   ·exact .inl (o.fn (by simpa using q) x)
   ·exact .inl (o.oc x (List.contains_iff_mem.mp q))
theorem va:∀{es:List Expr}{l:List Nat},E1 g es=some l->jM X l es
 |[],_,h=>by cases h;exact .nil
 | e::r,_,h=>by
   replace h:=bX h;obtain⟨x,p,rfl,h⟩:=h;obtain⟨i,j,h⟩:=ob h;obtain⟨l,hl,h⟩:=ob h;cases h;obtain⟨a,b,c⟩:=yu o j;exact .cons a b c (va hl)
theorem l7 (h:cG g t=some tt):PG X t (gT fa X.K tt):=by
 replace h:=cp h;rcases h with h|h
 ·obtain⟨x,p,rfl,h⟩:=bX h;replace h:=ob h;obtain⟨i,j,h⟩:=h;cases h;obtain⟨a,b,c⟩:=yu o j;exact Ib (o.N ▸ o.nd) a b c
 ·replace h:=fh h;obtain⟨v,k,p,rfl,h⟩:=h;replace h:=oi h;obtain⟨c,h⟩:=h;replace h:=cp h;rcases h with h|h
  ·obtain⟨l,hl,h⟩:=ob h;cases h;exact LL (o.calm c) (o.N ▸ o.nd) (va o hl)
  ·obtain⟨a,b,rfl,h⟩:=gm h;replace h:=bX h;obtain⟨x,y,rfl,h⟩:=h;replace h:=fh h;obtain⟨bs,k2,p2,rfl,h⟩:=h;obtain⟨i,j,h⟩:=ob h;obtain⟨l,hl,h⟩:=ob h;cases h;obtain⟨e1,e2,u⟩:=yu o j;exact LK (o.calm c) (o.N ▸ o.nd) e1 e2 u (va o hl)
end
def cB (nm:Str)(R:Rc)(g:G)(e:Expr):Option (List Expr×GA):=om e λx h _=>nC h λa h=>if x=nm/\jo g x=true/\(match g.T.lookup x with|some .bl=>true|_=>false)=true/\0<g.lv then(cA (R.e g) (a::h)).bind λj=>some (a::h,j) else none
def nX {g:G}(h:(match g.T.lookup x with|some .bl=>true|_=>false)=true):g.T.lookup x=some .bl:=by
 split at h
 ·assumption
 ·cases h
def qy (B:kc fa n R)(o:eT fa n g X)(h:cB nm R g e=some (as,u)):∃p pos a es,as=a::es/\e=.Call (.Name nm p) (a::es) [] pos/\Gl X nm/\X.mg nm=none/\0<g.lv/\DA fa X (a::es) u/\notStar a=true/\es.all notStar=true:=by
 replace h:=ig h;obtain⟨x,q,es,p,rfl,h⟩:=h;replace h:=ie h;obtain⟨a,es,rfl,h⟩:=h;replace h:=oi h;obtain⟨⟨rfl,v,y,z⟩,h⟩:=h;obtain⟨u,j,h⟩:=ob h;cases h;obtain⟨d,ns⟩:=jJ (B.e o) j;rw[Q7,Qh] at ns;exact{_,_,_,_,rfl,rfl,(dh o v).1,o.T.bl (nX y),z,d,ns.1,ns.2}
def IW:fq:=λR g e=>(cB "len" R g e).bind λq=>some (aH .len q.2)
def Gf:SE IW:=λ{fa n R} v {g X} o {a z} h=>by
 obtain⟨⟨y,B⟩,u,h⟩:=ob h;cases h;obtain⟨_,_,_,_,_,rfl,j,hm,_,d,n1,n2⟩:=qy v o u;exact FG .len Nm j hm PySem.boot_len d `d `d (bI n1) (dQ n2)
def I8:fq:=λR g e=>(cB "all" R g e).bind λq=>some (aH .all q.2)
def Gj:SE I8:=λ{fa n R} v {g X} o {a z} h=>by
 obtain⟨⟨y,B⟩,u,h⟩:=ob h;cases h;obtain⟨_,_,_,_,_,rfl,j,hm,lv,d,n1,n2⟩:=qy v o u;exact FG .all (Nn (o.calm lv)) j hm `k d `d `d (bI n1) (dQ n2)
def IV:fq:=λR g e=>(cB "max" R g e).bind λq=>some (yI q.2)
def Ge:SE IV:=λ{fa n R} v {g X} o {a z} h=>by
 obtain⟨⟨y,B⟩,u,h⟩:=ob h;cases h;obtain⟨_,_,_,_,_,rfl,j,hm,lv,d,n1,n2⟩:=qy v o u;exact MF (o.calm lv) j hm d n1 n2
def zx:fq:=λR g e=>(cB "tuple" R g e).bind λq=>some (aH .tuple q.2)
def zw:SE zx:=λ{fa n R} v {g X} o {a z} h=>by
 obtain⟨⟨y,B⟩,u,h⟩:=ob h;cases h;obtain⟨_,_,_,_,_,rfl,j,hm,_,d,n1,n2⟩:=qy v o u;exact Bt .tuple HG j hm `k d `d `d (bI n1) (dQ n2)
def Ex:fq:=λR g e=>(cB "list" R g e).bind λq=>some (aH (.list (g.cl e.pos)) q.2)
def B5:SE Ex:=λ{fa n R} v {g X} o {a z} h=>by
 obtain⟨⟨y,B⟩,u,h⟩:=ob h;cases h;obtain⟨_,_,_,_,_,rfl,j,hm,_,d,n1,n2⟩:=qy v o u;exact Bt (.list _) (Lm _) j hm `k d `d `d (bI n1) (dQ n2)
def cR (R:Rc)(g:G)(nm:Str)(e:Expr):Option (Expr×GE):=om e λx h _=>n1 h λa=>if x=nm/\jo g x=true/\(match g.T.lookup x with|some .bl=>true|_=>false)=true/\0<g.lv/\notStar a=true then(R.e g a).bind λy=>some (a,y) else none
def yV (E:kc fa n R)(o:eT fa n g X)(h:cR R g nm e=some (a,ga)):∃p pos,e=.Call (.Name nm p) [a] [] pos/\Gl X nm/\X.mg nm=none/\0<g.lv/\DE fa X a ga/\starEach [a] X.env=[(false,eval a X.env)]:=by
 replace h:=ig h;obtain⟨x,q,F,p,rfl,h⟩:=h;replace h:=eW h;obtain⟨a,rfl,h⟩:=h;replace h:=oi h;obtain⟨⟨rfl,j,u,v,z⟩,h⟩:=h;obtain⟨y,B,h⟩:=ob h;cases h;exact{_,_,rfl,(dh o j).1,o.T.bl (nX u),v,E.e o B,bI z}
def zz:fq:=λR g e=>om e λx h p=>n1 h λb=>if x="list"/\jo g x=true/\(match g.T.lookup x with|some .bl=>true|_=>false)=true then(cR R g "range" b).bind λq=>some (mS (g.cl p) q.2) else none
def zy:SE zz:=λ{fa n R} B {g X} o {a F} h=>by
 replace h:=ig h;obtain⟨x,q,E,p,rfl,h⟩:=h;replace h:=eW h;obtain⟨b,rfl,h⟩:=h;replace h:=oi h;obtain⟨⟨rfl,j,u⟩,h⟩:=h;obtain⟨⟨b,y⟩,z,h⟩:=ob h;cases h;obtain⟨_,_,rfl,v,hm,lv,d,hs⟩:=yV B o z;exact GV _ (o.calm lv) d (dh o j).1 (o.T.bl (nX u)) v hm hs rfl
def Cb (x:Str):Option Ty:=if x="int" then some .int else if x="bool" then some .bool else if x="str" then some .str else if x="tuple" then some .tuple else if x="list" then some .list else none
def Gk (h:Cb x=some t):bootBuiltins x=some (.type (tyName t))/\(∀c,t≠.own c)/\x≠"__name__"/\(x==("__debug__":Str))=false:=by
 unfold Cb at h;split at h
 ·subst x;cases h;exact{`k,(λ_ z=>nomatch z),`d,`d}
 split at h
 ·subst x;cases h;exact{`k,(λ_ z=>nomatch z),`d,`d}
 split at h
 ·subst x;cases h;exact{`k,(λ_ z=>nomatch z),`d,`d}
 split at h
 ·subst x;cases h;exact{`k,(λ_ z=>nomatch z),`d,`d}
 split at h
 ·subst x;cases h;exact{`k,(λ_ z=>nomatch z),`d,`d}
 ·cases h
def cI (R:Rc)(g:G)(e:Expr):Option (Str×GE):=om e λy h _=>n2 h λa b=>nName b λx _=>if y="isinstance"/\jo g y=true/\(match g.T.lookup y with|some .bl=>true|_=>false)=true/\jo g x=true/\notStar a=true then(R.e g a).bind λz=>some (x,z) else none
def FK (F:kc fa n R)(o:eT fa n g X)(h:cI R g e=some (x,ga)):∃p q a pos,e=.Call (.Name "isinstance" p) [a,.Name x q] [] pos/\Gl X "isinstance"/\X.mg "isinstance"=none/\Gl X x/\(x==("__debug__":Str))=false/\DE fa X a ga/\starEach [a,.Name x q] X.env=(false,eval a X.env)::starEach [.Name x q] X.env:=by
 replace h:=ig h;obtain⟨y,q,H,p,rfl,h⟩:=h;replace h:=gm h;obtain⟨a,b,rfl,h⟩:=h;replace h:=bX h;obtain⟨x,I,rfl,h⟩:=h;replace h:=oi h;obtain⟨⟨rfl,u,v,j,B⟩,h⟩:=h;obtain⟨z,E,h⟩:=ob h;cases h;exact{_,_,_,_,rfl,(dh o u).1,o.T.bl (nX v),(dh o j).1,(dh o j).2,F.e o E,bI B}
def Ey:fq:=λR g e=>(cI R g e).bind λq=>if (match g.T.lookup q.1 with|some .bl=>true|_=>false)=true then(Cb q.1).bind λt=>some (bD t q.2) else none
def B6:SE Ey:=λ{fa n R} I {g X} o {a J} h=>by
 obtain⟨⟨x,z⟩,E,h⟩:=ob h;obtain⟨c,h⟩:=oi h;obtain⟨t,F,h⟩:=ob h;cases h;obtain⟨_,_,_,_,rfl,B,hm,H,hd,d,hs⟩:=FK I o E;obtain⟨j,u,v,y⟩:=Gk F;exact LP t u d B hm `k H (o.T.bl (nX c)) j v y hs
def zB:fq:=λR g e=>(cI R g e).bind λq=>match g.T.lookup q.1 with
 |some (.xc k)=>some (cb (some k) q.2)
 |some (.xi k)=>some (cb (some k) q.2)
 |some (.xk k)=>some (cb (some k) q.2)
 |some .de=>some (cb none q.2)
 |some .bl=>if q.1="ValueError" then some (cb none q.2) else none
 |_=>none
set_option tactic.hygienic true in
def zA:SE zB:=λ{fa n R} y {g X} o {a B} h=>by
 obtain⟨⟨x,z⟩,v,k⟩:=ob h;clear h;obtain⟨_,_,_,_,rfl,j,hm,u,hd,d,hs⟩:=FK y o v;split at k
 ·next e=>cases k;obtain⟨C,h1,h2,_⟩:=o.T.xc e;exact qP _ o.T.xcs ⟨C,h1,h2⟩ d j hm u hd hs
 ·next e=>cases k;exact qP _ o.T.xcs (o.T.xi e).2 d j hm u hd hs
 ·next e=>cases k;exact qP _ o.T.xcs (o.T.xk e) d j hm u hd hs
 ·next e=>cases k;exact GY o.T.xcs (o.T.de e) d j hm u hd hs
 ·next e=>
  obtain⟨c,h⟩:=oi k;cases h;subst c;exact GX o.T.xcs d j hm u (o.T.bl e) hs
 ·cases k
def EA:fq:=λR g e=>om e λx h _=>nC h λa h=>if 0<g.lv then(match vr g x with
 |some i=>(cA (R.e g) (a::h)).bind λj=>some (mT i g.c j)
 | none=>if jo g x = true then(match g.T.lookup x with
   |some (.fn i _)=>(cA (R.e g) (a::h)).bind λj=>some (ai i g.c j)
   |_=>none) else none) else none
set_option tactic.hygienic true in
def B8:SE EA:=λ{fa n R} u {g X} o {a E} h=>by
 replace h:=ig h;obtain⟨x,q,z,p,rfl,h⟩:=h;replace h:=ie h;obtain⟨a,z,rfl,h⟩:=h
 ·obtain⟨lv,h⟩:=oi h;split at h
  ·next e=>
   obtain⟨B,j,h⟩:=ob h;cases h;obtain⟨d,ns⟩:=jJ (u.e o) j;rw[Q7,Qh] at ns;obtain⟨a,b,v,y⟩:=Es o e;exact Ih (o.C lv) ((o.hr lv).mono (Sg _)) a b d v y (bI ns.1) (dQ ns.2)
  ·obtain⟨c,h⟩:=oi h;split at h
   ·next e=>
    obtain⟨B,j,h⟩:=ob h;cases h;obtain⟨d,ns⟩:=jJ (u.e o) j;rw[Q7,Qh] at ns;exact LR (o.C lv _) ((o.hr lv).mono (Sg _)) (dh o c).1 (o.T.fn e) d (dh o c).2 (bI ns.1) (dQ ns.2)
   ·cases h
def Ek:fq:=λR g e=>(om e λx h _=>nC h λa h=>if 2<=g.lv/\jo g x=true then(match g.T.lookup x with
 |some (.fn i true)=>(cA (R.e g) (a::h)).bind λj=>some (cU i g.c j)
 |_=>none) else none).or (Kv e λc a b _=>(R.x g a).bind λx=>(R.x g b).bind λy=>(R.t g c).bind λt=>some (yJ t x y))
set_option tactic.hygienic true in
def BQ:SX Ek:=λ{fa n R} j {g X} o {a F} h=>by
 replace h:=cp h;rcases h with h|h
 ·obtain⟨x,q,v,p,rfl,h⟩:=ig h;obtain⟨a,v,rfl,h⟩:=ie h;replace h:=oi h;obtain⟨⟨lv,c⟩,h⟩:=h;split at h
  ·next e=>
   replace h:=ob h;obtain⟨H,u,h⟩:=h;cases h;obtain⟨d,ns⟩:=jJ (j.e o) u;rw[Q7,Qh] at ns;exact x_call _ (o.C `a) ((o.hr `a).mono (Sg _)) (o.top lv).1 (dh o c).1 (o.T.fn e) d (dh o c).2 ns.1 ns.2
  ·cases h
 ·obtain⟨c,a,b,p,rfl,h⟩:=w8 h;obtain⟨x,B,h⟩:=ob h;obtain⟨y,E,h⟩:=ob h;obtain⟨t,z,h⟩:=ob h;cases h;exact Mg (j.t o z) (j.x o B) (j.x o E)
def JA (h:cF (n+4) A):cF 2 A:=h.mono `a
noncomputable def nB:Expr->Bool
 |.Call _ [] _ _=>false
 |_=>true
def i5 (h:nB a=true):attributeBase a m env w=w:=by
 cases a with
 | Call f j ks p=>
   cases j with
   |nil=>cases h
   |cons _ _=>cases f<;>rfl
 |_=>rfl
def IZ:fq:=λR g e=>Kx e λa m d q=>EW d (if nB a=true/\q=true then(if m="count" then(R.e g a).bind λx=>some (yL x) else if m="index" then(R.e g a).bind λx=>some (yK x) else none) else none)
set_option tactic.hygienic true in
def Gh:SE IZ:=λ{fa n R} y {g X} o {a B} h=>by
 replace h:=AQ h;obtain⟨a,m,q,d,p,rfl,h⟩:=h;replace h:=Dc h;obtain⟨_,_,rfl,h⟩:=h;replace h:=oi h;obtain⟨⟨u,v⟩,h⟩:=h;split at h
 ·next z=>subst z;obtain⟨x,j,h⟩:=ob h;cases h;exact JG (y.e o j) (i5 u) v
 ·obtain⟨rfl,k⟩:=oi h;obtain⟨x,j,k⟩:=ob k;cases k;exact JC (y.e o j) (i5 u) v
def EB:fq:=λR g e=>EZ e λa f _=>if nB a=true/\f∈g.xf then(R.e g a).bind λx=>some (j9 f x) else none
def B9:SE EB:=λ{fa n R} y {g X} o {a z} h=>by
 replace h:=u7 h;obtain⟨a,f,p,rfl,h⟩:=h;obtain⟨⟨j,u⟩,h⟩:=oi h;obtain⟨x,v,h⟩:=ob h;cases h;exact G2 _ o.T.xcs (o.xf _ u) (y.e o v) (i5 j)
def NZ:fq:=λR g e=>OY e λl _=>nC l λa l=>n2 l λb c=>Dd a λz=>Od b λb=>Dd c λy=>(R.e g b).bind λx=>some (Ll z y x)
def IY:SE NZ:=λ{fa n R} u {g X} o {a v} h=>by
 replace h:=Hr h;obtain⟨l,p,rfl,h⟩:=h;replace h:=ie h;obtain⟨a,l,rfl,h⟩:=h;replace h:=gm h;obtain⟨b,c,rfl,h⟩:=h;replace h:=w6 h;obtain⟨z,_,_,rfl,h⟩:=h;replace h:=Kw h;obtain⟨b,_,rfl,h⟩:=h;replace h:=w6 h;obtain⟨y,_,_,rfl,h⟩:=h;obtain⟨x,j,h⟩:=ob h;cases h;exact OP (u.e o j)
def Ep:sY:=λR g _ e=>(cR R g "range" e).bind λq=>some (cJ q.2)
def B0:SW Ep:=λ{z n R} v {g X} o {t a B} h=>by
 obtain⟨⟨b,y⟩,u,h⟩:=ob h;cases h;obtain⟨_,_,rfl,j,hm,_,d,hs⟩:=yV v o u;exact H9 d j hm hs
def Er:sY:=λR g t e=>lT t λ_ _ _=>(cR R g "enumerate" e).bind λq=>some (gr q.2)
def B1:SW Er:=λ{z n R} v {g X} o {t a B} h=>by
 replace h:=fh h;obtain⟨_,_,_,rfl,h⟩:=h;obtain⟨⟨b,y⟩,u,h⟩:=ob h;cases h;obtain⟨_,_,rfl,j,hm,_,d,hs⟩:=yV v o u;exact Ia d j hm hs
def cN (R:Rc)(g:G)(nm:Str)(e:Expr):Option (List Expr):=om e λx h _=>if x=nm/\jo g x=true/\(match g.T.lookup x with|some .bl=>true|_=>false)=true/\0<g.lv/\h.all notStar=true then some h else none
def FJ (o:eT fa n g X)(h:cN R g nm e=some es):∃p pos,e=.Call (.Name nm p) es [] pos/\Gl X nm/\X.mg nm=none/\es.all notStar=true:=by
 replace h:=ig h;obtain⟨x,q,es,p,rfl,h⟩:=h;replace h:=oi h;obtain⟨⟨rfl,j,u,y,v⟩,h⟩:=h;cases h;exact{_,_,rfl,(dh o j).1,o.T.bl (nX u),v}
noncomputable def nq:∀{es:List Expr},es.all notStar=true->starEach es env=es.map λa=>(false,eval a env)
 |[],_=>rfl
 | a::es,h=>by
   rw[Q7,Qh] at h;rw[bI h.1,nq h.2];rfl
def Em:sY:=λR g t e=>lT t λ_ _ _=>(cN R g "zip" e).bind λh=>n2 h λa b=>(R.e g a).bind λx=>(R.e g b).bind λy=>some (nK x y)
def BY:SW Em:=λ{F n R} j {g X} o {t a H} h=>by
 replace h:=fh h;obtain⟨_,_,_,rfl,h⟩:=h;obtain⟨E,v,k⟩:=ob h;clear h;obtain⟨_,_,rfl,u,hm,ns⟩:=FJ o v;replace k:=gm k;obtain⟨a,b,rfl,k⟩:=k;obtain⟨x,z,k⟩:=ob k;obtain⟨y,B,k⟩:=ob k;cases k;exact HZ (j.e o z) (j.e o B) u hm (nq ns) (nq (R6.mp (Q7 ▸ ns)).2)
def El:sY:=λR g t e=>lT t λ_ _ _=>(cN R g "zip" e).bind λh=>nC h λa h=>n2 h λb c=>(R.e g a).bind λx=>(R.e g b).bind λy=>(R.e g c).bind λz=>some (qo x y z)
def BX:SW El:=λ{J n R} j {g X} o {t a L} h=>by
 replace h:=fh h;obtain⟨_,_,_,rfl,h⟩:=h;obtain⟨u,B,k⟩:=ob h;clear h;obtain⟨_,_,rfl,v,hm,ns⟩:=FJ o B;replace k:=ie k;obtain⟨a,u,rfl,k⟩:=k;replace k:=gm k;obtain⟨b,c,rfl,k⟩:=k;obtain⟨x,E,k⟩:=ob k;obtain⟨y,F,k⟩:=ob k;obtain⟨z,H,k⟩:=ob k;cases k;have n2:=(R6.mp (Q7 ▸ ns)).2;have I:=(R6.mp (Q7 ▸ n2)).2;exact HY (j.e o E) (j.e o F) (j.e o H) v hm (nq ns) (nq n2) (nq I)
def IM:sY:=λR g _ e=>if g.tx e.pos=false then(R.e g e).bind λx=>some (dY x) else none
def F6:SW IM:=λ{v n R} u {g X} o {t a y} h=>by
 obtain⟨_,h⟩:=oi h;obtain⟨x,j,h⟩:=ob h;cases h;exact LJ (u.e o j)
def Eo:sY:=λR g _ e=>if g.tx e.pos=true then(R.e g e).bind λx=>some (qp x) else none
def BZ:SW Eo:=λ{v n R} u {g X} o {t a y} h=>by
 obtain⟨_,h⟩:=oi h;obtain⟨x,j,h⟩:=ob h;cases h;exact H8 (u.e o j)
noncomputable def mM:Expr->Bool
 |.Set ..=>false
 |_=>true
def Bh (h:mM a=true)(x:Qj):foldedSetIterable a env x=pure x:=by
 cases a<;>first|rfl|cases h
noncomputable def CZ:Expr->List Str
 |.Name x _=>[x]
 |.Tuple h _ _=>(h.map fun|.Name x _=>[x]|.Tuple bs _ _=>bs.filterMap (fun|.Name x _=>some x|_=>none)|_=>[]).flatten
 |_=>[]
noncomputable def vN (g:G)(own:List Str):List Str:=g.N.map λx=>if own.contains x then x++("%":Str) else x
noncomputable def CP (h sc:Scope):Scope:={h with names:=h.names.map λ(n,k)=>if (k==.free&&sc.kind==.function&&sc.names.lookup n==some .cell) then(n,.cell) else(n,k)}
def G.inC (g:G)(own:List Str)(h:Scope):G:={g with N:=own++vN g own,sc:=CP h g.sc,lv:=1,oc:=(h.names.filter λy=>h.names.lookup y.1==some .cell).map (·.1)}
def AF (g:G)(own:List Str)(h:Scope):Prop:=0<g.lv/\h.kind=.function/\rB (vN g own) g.N g.sc h=true/\(own++vN g own).Nodup
instance (g:G) (own:List Str) (scope:Scope):Decidable (AF g own scope):=by unfold AF;infer_instance
def FH (o:eT fa n g X)(c:AF g own scope):iI X own (vN g own) scope/\∀cl C j s H,eT fa n (g.inC own scope) (jq X own (vN g own) scope cl C j s H):=by
 obtain⟨h,u,v,B⟩:=c;refine{Bz u o.sc o.N v,λcl C j s H=>{rfl,B,?_,o.T,o.tw,o.xf,o.ms,(λz=>absurd rfl z),(λx E=>by obtain⟨y,F,e⟩:=QS.mp E;subst e;exact(R3.mp F).2),λ_=>o.calm h,λ_=>o.C h,λ_=>o.hr h,(λz=>absurd (show 2<=1 from z) `d),(λz=>nomatch z)}}
 show relabel scope X.env=CP scope g.sc;unfold relabel CP Env.kindOf;rw[o.sc]
structure Md (fa:Fa) (X:Cx) (e:Expr) (k:Nat) (t:gG) (gw:GW) (gb:GB):Prop where
 ex:∃elt tg iter ifs rest scope pos own bn W body,e=.ListComp elt ({tg,iter,ifs,0}::rest) scope pos/\k=own.length/\iI X own bn scope/\DI fa X tg iter gw/\Block fa X (LA fa X.K) own bn scope tg t W body gb/\qE X elt tg iter ifs rest scope pos body/\(∀i∈W,i∉slots t)/\(∀i∈slots t++W,i<own.length)/\∀x,foldedSetIterable iter X.env x=pure x
def cC (R:Rc)(g:G)(e:Expr):Option (Nat×gG×GW×GB):=Oc e λB y h _=>(n1 y λc=>nG c λz j v=>let own:=CZ z
 if AF g own h/\mM j=true then(R.w g z j).bind λw=>(cG (g.inC own h) z).bind λt=>(R.e (g.inC own h) B).bind λx=>if (slots t).all (· < own.length)=true then(n0 v (some (own.length,t,w,bN x))).or (n1 v λc=>(R.t (g.inC own h) c).bind λq=>some (own.length,t,w,ll q (bN x))) else none else none).or
 (n2 y λc d=>nG c λz j v=>nG d λt2 F E=>let own:=CZ z++CZ t2
  n0 v (n0 E (if AF g own h/\mM j=true/\mM F=true then(R.w g z j).bind λw=>(cG (g.inC own h) z).bind λt=>(R.w (g.inC own h) t2 F).bind λw2=>(cG (g.inC own h) t2).bind λu=>(R.e (g.inC own h) B).bind λx=>if (slots t++slots u).all (· < own.length)=true/\(slots u).all (λi=>!(slots t).contains i)=true then some (own.length,t,w,vo u w2 (bN x)) else none else none)))
def FL (z:kc fa n R)(o:eT fa n g X)(h:cC R g e=some (k,t,gw,gb)):Md fa X e k t gw gb:=by
 replace h:=AO h;obtain⟨B,gens,E,p,rfl,h⟩:=h;replace h:=cp h;rcases h with h|h
 ·replace h:=eW h;obtain⟨c,rfl,h⟩:=h;replace h:=ym h;obtain⟨tg,y,Y,rfl,h⟩:=h;replace h:=oi h;obtain⟨⟨c,J⟩,h⟩:=h;replace h:=ob h;obtain⟨w,M,h⟩:=h;replace h:=ob h;obtain⟨t,L,h⟩:=h;replace h:=ob h;obtain⟨x,P,h⟩:=h;replace h:=oi h;obtain⟨I,h⟩:=h;obtain⟨S,O⟩:=FH o c;replace h:=cp h;rcases h with h|h
  ·obtain⟨rfl,h⟩:=ij h;cases h;exact{_,_,_,_,_,_,_,_,_,[],(λa env=>eval B env >>= λx=>call (.builtin "list.append") [.ref a,x] >>= λ_=>pure ()),rfl,rfl,S,z.w o M,{λcl C v s H=>l7 (O cl C v s H) L,λcl C v s H a=>vD (z.e (O cl C v s H) P)},(λF a env=>Ce _ _ _ [] _ _ (.ref F) (.ref a) env),(λi h=>nomatch h),(by simpa using oG I),Bh J}
  ·obtain⟨d,rfl,h⟩:=eW h;obtain⟨q,hq,h⟩:=ob h;cases h;exact{_,_,_,_,_,_,_,_,_,[],(λa env=>PySem.isTrue d env (eval d env) >>= λok=>if ok=true then(eval B env >>= λx=>call (.builtin "list.append") [.ref a,x] >>= λ_=>pure ()) else pure ()),rfl,rfl,S,z.w o M,{λcl C v s H=>l7 (O cl C v s H) L,λcl C v s H a=>Nv LA.stab (z.t (O cl C v s H) hq) (vD (z.e (O cl C v s H) P))},(λF a env=>turn_if _ _ _ _ _ _ (.ref F) (.ref a) env),(λi h=>nomatch h),(by simpa using oG I),Bh J}
 ·replace h:=gm h;obtain⟨c,d,rfl,h⟩:=h;replace h:=ym h;obtain⟨tg,y,Y,rfl,h⟩:=h;replace h:=ym h;obtain⟨t2,Q,ifs2,rfl,h⟩:=h;replace h:=ij h;obtain⟨rfl,h⟩:=h;replace h:=ij h;obtain⟨rfl,h⟩:=h;obtain⟨⟨c,J,U⟩,h⟩:=oi h;obtain⟨w,M,h⟩:=ob h;obtain⟨t,L,h⟩:=ob h;obtain⟨w2,W,h⟩:=ob h;obtain⟨u,hu,h⟩:=ob h;obtain⟨x,P,h⟩:=ob h;obtain⟨⟨I,c3⟩,h⟩:=oi h;cases h;obtain⟨S,O⟩:=FH o c;exact{_,_,_,_,_,_,_,_,_,slots u,(λa env=>eval Q env >>= λx=>standAt Q.pos >>= λ_=>foldedSetIterable Q env x >>= λx=>holding [x] (pyIter x) >>= λj=>runOwn (.compStart (.ListComp B [{tg,y,[],0},{t2,Q,[],0}] E p) 1 j (.ref a) env) env >>= λ_=>pure ()),rfl,rfl,S,z.w o M,{λcl C v s H=>l7 (O cl C v s H) L,λcl C v s H a=>LN rfl (o.calm c.1) (z.w (O cl C v s H) W) (l7 (O cl C v s H) hu) (z.e (O cl C v s H) P) (Bh U)},(λF a env=>Cc _ _ _ _ _ _ _ (.ref F) (.ref a) env),Aa c3,oG I,Bh J}
def Ez:fq:=λR g e=>if 0<g.lv then(cC R g e).bind λq=>some (bL (g.cl e.pos) q.1 q.2.1 q.2.2.1 q.2.2.2) else none
def B7:SE Ez:=λ{J n R} H {g X} o {a L} h=>by
 obtain⟨lv,h⟩:=oi h;obtain⟨⟨k,t,w,b⟩,z,h⟩:=ob h;cases h;obtain⟨v,M,u,E,rest,j,F,own,I,W,body,rfl,rfl,S,y,B,T,h1,h2,h3⟩:=(FL H o z).ex;exact LQ _ S (o.calm lv) y B T h1 h2 h3
noncomputable def oq (f:Stmt->Option GS):List Stmt->Option GS
 |[]=>some aB
 |a::r=>(f a).bind λx=>(oq f r).bind λy=>some (aC x y)
noncomputable def iA (hf:∀{a:Stmt}{j:GS},f a=some j->DS fa X a j):∀{ss:List Stmt}{u:GS},oq f ss=some u->kK fa X ss u
 |[],_,h=>by cases h;exact HS
 | a::r,_,h=>by
   obtain⟨x,v,h⟩:=ob h;obtain⟨y,z,h⟩:=ob h;cases h;exact DP (hf v) (iA hf z)
noncomputable def wY:Expr->Bool
 |.ListComp ..=>false
 |.SetComp ..=>false
 |.DictComp ..=>false
 |_=>true
def wZ (h:wY a=true):swapsWith a t l env=pure false:=by
 cases a<;>first|rfl|cases h
def LY (g:G)(h a:Expr):Bool:=match a with
 |.ListComp ..=>(match h with|.Name y _=>g.sc.names.lookup y==some .cell|_=>false)
 |.Tuple ..=>(match h with|.Name ..=>true|_=>false)
 |.SetComp ..=>false
 |.DictComp ..=>(match h with|.Name y _=>g.sc.names.lookup y==some .cell|_=>false)
 |_=>true
set_option tactic.hygienic true in
def LX (o:eT fa n g X)(c:LY g tg a=true)(j:cG g tg=some t):swapsWithSole [tg] a l X.env=pure false/\swappedStores [tg] a X.env=pure none/\(assignEach [tg] X.env).map (·.2)=[assign tg X.env]:=by
 refine{?_,?_,?_}
 ·cases a<;>first|rfl|cases c|skip
  all_goals cases tg<;>first|cases c|skip
  all_goals
  next y p=>
  have e:=eq_of_beq c;have hk:(X.env.kindOf y==some .local)=false:=by unfold Env.kindOf;rw[o.sc,e];rfl
  show(pure (X.env.blockKind==.function&&X.env.kindOf y==some .local&&_&&_):Sem Bool)=pure false;rw[hk,Bool.and_false,Bool.false_and,Bool.false_and]
 ·replace j:=cp j;rcases j with h|h
  ·obtain⟨_,_,rfl,_⟩:=bX h;cases a<;>first|rfl|cases c
  ·obtain⟨_,_,_,rfl,_⟩:=fh h;cases a<;>first|rfl|cases c
 ·replace j:=cp j;rcases j with h|h
  ·obtain⟨_,_,rfl,_⟩:=bX h;rfl
  ·obtain⟨_,_,_,rfl,_⟩:=fh h;rfl
def IE:mq:=λR g st=>xZ st λts a _=>n1 ts λh=>if LY g h a=true then(cG g h).bind λt=>((R.x g a).bind λx=>some (hX t x)).or ((R.e g a).bind λx=>some (aw t x)) else none
def F3:SS IE:=λ{y n R} u {g X} o {a z} h=>by
 replace h:=nv h;obtain⟨ts,a,p,rfl,h⟩:=h;replace h:=eW h;obtain⟨B,rfl,h⟩:=h;obtain⟨c,h⟩:=oi h;obtain⟨t,j,h⟩:=ob h;obtain⟨a1,a2,a3⟩:=LX o c j;replace h:=cp h;rcases h with h|h
 ·obtain⟨x,e,h⟩:=ob h;cases h;exact Jt (u.x o e) (l7 o j) a1 a2 a3
 ·obtain⟨x,v,h⟩:=ob h;cases h;exact LF (u.e o v) (l7 o j) a1 a2 a3
def Ej:mq:=λR g st=>xZ st λts d _=>n1 ts λt=>nName t λy v=>Oc d λu j h p=>if 2<=g.lv/\g.sc.names.lookup y=some .local/\(v.line==p.line)=true/\(h.names.any λ(n,k)=>n==y&&(k==.local||k==.cell))=false then(cC R g (.ListComp u j h p)).bind λq=>(g.N.findIdx? (·==y)).bind λi=>some (aw (.one i) (bL (g.cl p) q.1 q.2.1 q.2.2.1 q.2.2.2)) else none
def BP:SS Ej:=λ{fa n R} rc {g X} o {a ga} h=>by
 replace h:=nv h;obtain⟨ts,d,_,rfl,h⟩:=h;replace h:=eW h;obtain⟨t,rfl,h⟩:=h;replace h:=bX h;obtain⟨y,Y,rfl,h⟩:=h;replace h:=AO h;obtain⟨_,_,v,p,rfl,h⟩:=h
 ·next=>
  obtain⟨⟨lv,F,H,I⟩,h⟩:=oi h;obtain⟨⟨k,t,w,b⟩,P,h⟩:=ob h;obtain⟨i,O,h⟩:=ob h;cases h;obtain⟨L,tg,E,Q,rest,z,U,own,bn,W,body,J,rfl,S,j,B,T,h1,h2,h3⟩:=(FL rc o P).ex;cases J;have hl:X.env.scope.names.lookup y=some .local:=by rw[o.sc];exact F
  refine yP _ S (o.calm `a) j B T h1 h2 h3 (o.N ▸ o.nd) (nH o O) hl ?_
  have hk:=(o.top lv).2.2.2;have M:(X.env.blockKind==.function)=true:=by unfold Env.blockKind;rw[hk];rfl
  have u:(X.env.kindOf y==some .local)=true:=by unfold Env.kindOf;rw[hl];rfl
  show(pure (X.env.blockKind==.function&&X.env.kindOf y==some .local&&(Y.line==p.line)&&!(v.names.any λ(n,k)=>n==y&&(k==.local||k==.cell))):Sem Bool)=pure true;rw[M,u,H,I];rfl
def IC:mq:=λR g st=>xZ st λts d _=>n1 ts λt=>u4 t λa b _=>if qe b=true then(R.e g a).bind λx=>(R.e g b).bind λy=>(R.e g d).bind λz=>some (fe x y z) else none
def F1:SS IC:=λ{F n R} j {g X} o {a H} h=>by
 replace h:=nv h;obtain⟨ts,d,_,rfl,h⟩:=h;replace h:=eW h;obtain⟨t,rfl,h⟩:=h;replace h:=lb h;obtain⟨a,b,p2,rfl,h⟩:=h
 ·next=>
  obtain⟨c,h⟩:=oi h;obtain⟨x,u,h⟩:=ob h;obtain⟨y,B,h⟩:=ob h;obtain⟨z,E,h⟩:=ob h;cases h;refine Lz (j.e o u) (j.e o B) (j.e o E) (λv=>?_) ?_ ?_ rfl
  ·cases b<;>first|rfl|cases c
  ·cases d<;>rfl
  ·cases d<;>rfl
def Bi {u:Str}{h:Pos}:PySem.foldedForSure 8 (.Name u h)=false:=by with_unfolding_all rfl
def y3 {u:Str}{j:Pos}(h:(u==("__debug__":Str))=false):PySem.constantsAlone 8 (.Name u j)=false:=by with_unfolding_all exact h
def Cn {env:RE}{x y u v:Str}{h j z pv pt p2:Pos}(J:env.blockKind=.function)(M:env.kindOf x=some .local)(O:env.kindOf y=some .local)(B:h.line=j.line)(E:x≠y)(F:(u==("__debug__":Str))=false):swappedStores [.Tuple [.Name x h,.Name y j] kt pt] (.Tuple [.Name u z,.Name v pv] k2 p2) env=pure (some [x,y]):=by
 have ne:(y==x)=false:=Q8.mpr (Ru E);have e1:(env.kindOf x==some .local&&h.line==h.line)=true:=by rw[M,beq_self_eq_true h.line];rfl
 have e2:(env.kindOf y==some .local&&j.line==h.line)=true:=by rw[O,B,beq_self_eq_true j.line];rfl
 have hn:(env.blockKind != .function)=false:=by rw[J];rfl
 have H:[x,y].eraseDups=[x,y]:=by
  show(match (y==x||false) with|true=>_|false=>_)=_
  rw[ne];rfl
 have L:(Option.map (λx:Expr=>x.pos.line) [Expr.Name x h,.Name y j].head?).getD 0=h.line:=rfl;have I:[Expr.Name u z,.Name v pv].all (foldedForSure 8)=false:=by rw[Q7,Bi];rfl
 have ca:[Expr.Name u z,.Name v pv].all (constantsAlone 8)=false:=by rw[Q7,y3 F];rfl
 unfold swappedStores;show(if (!(true||false)||false||env.blockKind != .function)=true then _ else _)=_;rw[hn];show(if _ then _ else _)=_;rw[if_neg `d]
 show(if (false||(false||false))=true then _ else _)=_;rw[if_neg `d]
 simp only[RV,List.filterMap_nil];simp only[L,e1,e2,if_true];rw[H,if_neg (by show ¬ (false||false)=true;decide),I,ca];rfl
def ID:mq:=λR g st=>xZ st λts d _=>n1 ts λt=>lT t λts _ _=>n2 ts λa b=>nName a λx E=>nName b λy F=>lT d λh _ _=>n2 h λc d=>nName c λu B=>nName d λv pv=>if 2<=g.lv/\g.sc.names.lookup x=some .local/\g.sc.names.lookup y=some .local/\E.line=F.line/\x≠y/\(u==LM)=false then(g.N.findIdx? (·==x)).bind λi=>(g.N.findIdx? (·==y)).bind λj=>if i≠j then(cA (R.e g) [.Name u B,.Name v pv]).bind λz=>some (qM i j z) else none else none
def F2:SS ID:=λ{W n R} S {g X} o {a Y} h=>by
 replace h:=nv h;obtain⟨ts,d,_,rfl,h⟩:=h;replace h:=eW h;obtain⟨t,rfl,h⟩:=h;replace h:=fh h;obtain⟨ts,kt,pt,rfl,h⟩:=h;replace h:=gm h;obtain⟨a,b,rfl,h⟩:=h;replace h:=bX h;obtain⟨x,px,rfl,h⟩:=h;replace h:=bX h;obtain⟨y,py,rfl,h⟩:=h;replace h:=fh h;obtain⟨U,k2,p2,rfl,h⟩:=h;replace h:=gm h;obtain⟨c,d,rfl,h⟩:=h;replace h:=bX h;obtain⟨u,pu,rfl,h⟩:=h;replace h:=bX h;obtain⟨v,pv,rfl,h⟩:=h
 ·next=>
  obtain⟨⟨lv,I,J,L,M,z⟩,h⟩:=oi h;obtain⟨i,P,h⟩:=ob h;obtain⟨j,Q,h⟩:=ob h;obtain⟨E,h⟩:=oi h;obtain⟨gs,B,h⟩:=ob h;cases h;have F:X.env.scope.names.lookup x=some .local:=by rw[o.sc];exact I
  have H:X.env.scope.names.lookup y=some .local:=by rw[o.sc];exact J
  refine Mz (o.calm `a) (o.N ▸ o.nd) (nH o P) (nH o Q) E F H (jJ (S.e o) B).1 ?_ rfl
  have hk:=(o.top lv).2.2.2;have O:X.env.blockKind=.function:=by unfold Env.blockKind;rw[hk];rfl
  have z:(u==("__debug__":Str))=false:=z;exact Cn O F H L M z
def IF:mq:=λR g st=>Jz st λe _=>Kx e λa m d q=>if m="append"/\nB a=true/\q=true/\notStar d=true then(R.e g a).bind λx=>(R.e g d).bind λy=>some (iR x y) else none
def F4:SS IF:=λ{F n R} j {g X} o {a H} h=>by
 replace h:=wI h;obtain⟨e,_,rfl,h⟩:=h;replace h:=AQ h;obtain⟨a,m,q,d,p,rfl,h⟩:=h;replace h:=oi h;obtain⟨⟨rfl,u,v,z⟩,h⟩:=h;obtain⟨x,B,h⟩:=ob h;obtain⟨y,E,h⟩:=ob h;cases h;exact LG (j.e o B) (j.e o E) (i5 u) v (bI z) rfl
def IB:mq:=λR g st=>(Jz st λa _=>if wY a=true then((R.x g a).bind λx=>some (hV x)).or ((R.e g a).bind λx=>some (sEx x)) else none).or
 ((sRt st λq _=>match q with
   |none=>some EJ
   |some a=>((R.x g a).bind λx=>some (xY x)).or ((R.e g a).bind λx=>some (aD x))).or
 ((sPs st λ_=>some EK).or
 ((sIf st λc st u _=>(R.t g c).bind λt=>(oq (R.s g) st).bind λx=>(oq (R.s g) u).bind λy=>some (aL t x y)).or
 (sFr st λh a body j _=>n0 j (if g.lv=2/\mM a=true then(R.w g h a).bind λw=>(cG g h).bind λt=>(oq (R.s g) body).bind λx=>some (cS t w x) else none)))))
def F0:SS IB:=λ{F n R} j {g X} o {a H} h=>by
 replace h:=cp h;rcases h with h|h
 ·obtain⟨a,p,rfl,h⟩:=wI h;obtain⟨c,h⟩:=oi h;rcases cp h with h|h
  ·obtain⟨x,e,h⟩:=ob h;cases h;exact MA (j.x o e) (wZ c)
  ·obtain⟨x,u,h⟩:=ob h;cases h;exact Nr (j.e o u) (wZ c)
 replace h:=cp h;rcases h with h|h
 ·obtain⟨q,p,rfl,h⟩:=Ju h;cases q with
  |none=>cases h;exact HU
  | some a=>
    rcases cp h with h|h
    ·obtain⟨x,e,h⟩:=ob h;cases h;exact Jr (j.x o e)
    ·obtain⟨x,u,h⟩:=ob h;cases h;exact Ly (j.e o u)
 replace h:=cp h;rcases h with h|h
 ·obtain⟨p,rfl,h⟩:=Jw h;cases h;exact HV
 replace h:=cp h;rcases h with h|h
 ·obtain⟨c,st,I,p,rfl,h⟩:=Jx h;obtain⟨t,v,h⟩:=ob h;obtain⟨x,u,h⟩:=ob h;obtain⟨y,B,h⟩:=ob h;cases h;exact LB (j.t o v) (iA (j.s o) u) (iA (j.s o) B)
 ·obtain⟨J,a,body,E,p,rfl,h⟩:=Jy h;obtain⟨rfl,h⟩:=ij h;obtain⟨⟨lv,c⟩,h⟩:=oi h;obtain⟨w,z,h⟩:=ob h;obtain⟨t,v,h⟩:=ob h;obtain⟨x,u,h⟩:=ob h;cases h;exact LC (o.po lv) (o.calm `a) (j.w o z) (l7 o v) (Nu (iA (j.s o) u)) (Bh c)
def zj:mq:=λR g st=>Jv st λe c _=>if c.isNone=true then e.bind λe=>om e λx h _=>nC h λa h=>if 2<=g.lv/\jo g x=true then(match g.T.lookup x with
 |some (.xc k)=>(cA (R.e g) (a::h)).bind λj=>some (jX k j)
 |_=>none) else none else none
set_option tactic.hygienic true in
def zi:SS zj:=λ{y n R} v {g X} o {a z} h=>by
 replace h:=wH h;obtain⟨e,c,_,rfl,h⟩:=h;replace h:=oi h;obtain⟨c,h⟩:=h;rw[Rn.mp c];replace h:=ob h;obtain⟨e,rfl,h⟩:=h;replace h:=ig h;obtain⟨x,q,u,p,rfl,h⟩:=h;replace h:=ie h;obtain⟨a,u,rfl,h⟩:=h
 ·obtain⟨⟨lv,c⟩,k⟩:=oi h;clear h;split at k
  ·next e=>
   obtain⟨B,j,k⟩:=ob k;cases k;obtain⟨d,ns⟩:=jJ (v.e o) j;rw[Q7,Qh] at ns;obtain⟨C,h1,h2,h3,_⟩:=o.T.xc e;exact GP _ ⟨C,h1,h2,h3⟩ (o.top lv).1 (dh o c).1 (o.calm `a) d (dh o c).2 ns.1 ns.2
  ·cases k
def wh:mq:=λR g st=>Jv st λe c _=>if c.isNone=true then e.bind λe=>om e λx h _=>nC h λa h=>if 2<=g.lv/\jo g x=true then(match g.T.lookup x with
 |some (.xi k)=>if notStar a=true/\h.isEmpty=true then(R.e g a).bind λy=>some (gj k y) else none
 |_=>none) else none else none
set_option tactic.hygienic true in
def xM:SS wh:=λ{E n R} B {g X} o {a F} h=>by
 replace h:=wH h;obtain⟨e,c,_,rfl,h⟩:=h;replace h:=oi h;obtain⟨c,h⟩:=h;rw[Rn.mp c];replace h:=ob h;obtain⟨e,rfl,h⟩:=h;replace h:=ig h;obtain⟨x,q,v,p,rfl,h⟩:=h;replace h:=ie h;obtain⟨a,v,rfl,h⟩:=h
 ·obtain⟨⟨lv,c⟩,k⟩:=oi h;clear h;split at k
  ·next e=>
   obtain⟨⟨j,u⟩,k⟩:=oi k;obtain⟨y,z,k⟩:=ob k;cases k;rw[List.isEmpty_iff.mp u];exact CJ _ (o.T.xi e).1 (JA (o.hr `a)) (o.top lv).1 (dh o c).1 (o.calm `a) (B.e o z) (dh o c).2 j
  ·cases k
def vj (o:eT fa n g X)(lv:2<=g.lv)(pn:List (Addr×Obj))(E:Qj->Qn->Prop):eT fa n {g with lv:=3} (nI X pn E):={o.N,o.nd,o.sc,o.T,o.tw,o.xf,o.ms,λ_=>o.fn `a,o.oc,λ_=>o.calm `a,λ_=>o.C `a,λ_=>o.hr `a,λ_=>o.top lv,(λz=>nomatch z)}
def vk (o:eT fa n g X)(lv:2<=g.lv)(v:Qj)(E:Qj->Qn->Prop):eT fa n {g with lv:=0} (qm X v E):={o.N,o.nd,o.sc,o.T,o.tw,o.xf,o.ms,λ_=>o.fn `a,o.oc,(λz=>absurd (show 0<0 from z) `d),(λz=>absurd (show 0<0 from z) `d),(λz=>absurd (show 0<0 from z) `d),(λz=>absurd (show 2<=0 from z) `d),(λz=>nomatch z)}
def Iz:mq:=λR g st=>N9 st λbody hs j y _=>n0 j (n0 y (n1 hs fun
 | .ExceptHandler t nm z _=>t.bind λt=>nName t λx _=>nm.bind λnm=>nC z λb h=>if 2 <= g.lv /\ jo g x = true /\ g.sc.names.lookup nm = some .local then(match g.T.lookup x with
   |some .de=>(g.N.findIdx? (·==nm)).bind λi=>(oq (R.s {g with lv:=3}) body).bind λu=>(oq (R.s {g with lv:=0}) (b::h)).bind λv=>some (oJ u i v)
   |_=>none) else none))
set_option tactic.hygienic true in
def FZ:SS Iz:=λ{L n R} z {g X} o {a O} h=>by
 replace h:=Am h;obtain⟨body,hs,J,M,_,rfl,h⟩:=h;replace h:=ij h;obtain⟨rfl,h⟩:=h;replace h:=ij h;obtain⟨rfl,h⟩:=h;replace h:=eW h;obtain⟨hd,rfl,h⟩:=h;obtain⟨t,nm,P,_⟩:=hd;replace h:=ob h;obtain⟨t,rfl,h⟩:=h;replace h:=bX h;obtain⟨x,_,rfl,h⟩:=h;replace h:=ob h;obtain⟨nm,rfl,h⟩:=h;replace h:=ie h;obtain⟨b,j,rfl,h⟩:=h
 ·obtain⟨⟨lv,c,B⟩,k⟩:=oi h;clear h;split at k
  ·next e=>
   obtain⟨i,F,k⟩:=ob k;obtain⟨u,H,k⟩:=ob k;obtain⟨v,I,k⟩:=ob k;cases k;have y:=o.top lv;exact My o.T.xcs (o.T.de e) y.1 y.2.1 y.2.2.1 (o.N ▸ o.nd) (nH o F) (by rw[o.sc];exact B) (dh o c).1 (dh o c).2 (λpn E=>iA (z.s (vj o lv pn E)) H) (λv E=>iA (z.s (vk o lv v E)) I)
  ·cases k
def zm:mq:=λR g st=>N9 st λbody hs j z _=>n0 j (n0 z (n1 hs fun
 |.ExceptHandler t nm B _=>t.bind λt=>lT t λts _ _=>n2 ts λt1 t2=>nName t1 λx _=>nName t2 λy _=>nC B λb h=>if nm.isNone=true/\2<=g.lv/\jo g x=true/\jo g y=true then(g.tw.find? λq=>q.1==x&&q.2.1==y).bind λq=>(oq (R.s {g with lv:=3}) body).bind λu=>(oq (R.s {g with lv:=0}) (b::h)).bind λv=>some (mB u q.2.2.1 q.2.2.2 v) else none))
def zk:SS zm:=λ{O n R} H {g X} o {a Q} h=>by
 replace h:=Am h;obtain⟨body,hs,M,P,_,rfl,h⟩:=h;replace h:=ij h;obtain⟨rfl,h⟩:=h;replace h:=ij h;obtain⟨rfl,h⟩:=h;replace h:=eW h;obtain⟨hd,rfl,h⟩:=h;obtain⟨t,nm,S,_⟩:=hd;replace h:=ob h;obtain⟨t,rfl,h⟩:=h;replace h:=fh h;obtain⟨ts,_,_,rfl,h⟩:=h;replace h:=gm h;obtain⟨t1,t2,rfl,h⟩:=h;replace h:=bX h;obtain⟨x,_,rfl,h⟩:=h;replace h:=bX h;obtain⟨y,_,rfl,h⟩:=h;replace h:=ie h;obtain⟨b,j,rfl,h⟩:=h
 ·obtain⟨⟨I,lv,c,B⟩,k⟩:=oi h;clear h;rw[Rn.mp I];obtain⟨q,F,k⟩:=ob k;obtain⟨u,J,k⟩:=ob k;obtain⟨v,L,k⟩:=ob k;cases k;have tw:=o.tw q (List.mem_of_find?_eq_some F);have e:=List.find?_some F;rw[Qh] at e;rw[eq_of_beq e.1,eq_of_beq e.2] at tw;have z:=o.top lv;exact GQ tw z.1 z.2.1 z.2.2.1 (dh o c).1 (dh o B).1 (dh o c).2 (dh o B).2 (λpn E=>iA (H.s (vj o lv pn E)) J) (λv E=>iA (H.s (vk o lv v E)) L)
def isIn (q:CmpOp):Option Bool:=match q with
 |.In=>some false
 |.NotIn=>some true
 |_=>none
structure Ent where
 i:Nat
 x:Str
 st:Stmt
 ps:Nat
 N:List Str
 f:Addr
 pm:Str×Tok
 b:Call->GS
 r:Bool:=false
 q:Option Str:=none
 df:Addr:=0
noncomputable def Ent.qn (e:Ent):Str:=e.q.getD e.x
structure nh where
 T:List (Str×En)
 tw:List (Str×Str×Nat×Nat)
 xf:List Str
 dl:List (Str×List (Str×Nat))
 il:List (Str×Nat)
 cel:List (Nat×Nat×Nat)
 txt:List (Nat×Nat×Nat)
 ms:List (Str×Nat×Nat)
 rs:Rs
 tb:List Ent
def nh.g (t:nh)(e:Ent)(c:Call):G:={t.T,t.tw,t.xf,t.cel,t.txt,t.ms,c,e.N,aN e.st,2,[]}
noncomputable def nh.Pg (t:nh)(i:Nat):Option Df:=(t.tb.find? (·.i==i)).map λe=>⟨e.ps,e.N.length,e.b⟩
def nh.rd (t:nh)(c:Call)(e:Ent):Option GS:=oq ((It t.rs 60).s (t.g e c)) (cf e.st)
def DH (e:Ent):Bool:=decide ((aN e.st).kind=.function)&&!(aN e.st).isCoroutine&&!(aN e.st).isGenerator&&decide e.N.Nodup&&((e.N.take e.ps).length==e.ps)&&((e.N.take e.ps).all λx=>(aN e.st).names.lookup x==some .local||(aN e.st).names.lookup x==some .cell)&&((aN e.st).names.all (·.2 != .free))
def qu (h:DH e=true):hR e.N (e.N.take e.ps) (aN e.st)/\(e.N.take e.ps).length=e.ps:=by
 unfold DH at h;simp only[Qh,decide_eq_true_eq,RI,Qq,Ry,beq_iff_eq,bne_iff_ne] at h;obtain⟨⟨⟨⟨⟨⟨h1,h2⟩,h3⟩,h4⟩,j⟩,u⟩,v⟩:=h;exact{{h1,h2,h3,h4,by rw[j],u,v},j}
noncomputable def Ent.dV (e:Ent):Qj:=if e.df=0 then .none else .ref e.df
def Lo (e:Ent):Option Obj:=some {.type "function",none,.func (PySem.W.fnOf e.x e.qn (dO e.st) (cf e.st) (aN e.st) e.dV .none .none (.str e.pm.1 e.pm.2) none (.ref (e.f-1)) .none),#[]}
def mO {j u:Type}{f g:j->u}{l:List j}(h:l.map f=l.map g){a:j}(m:a∈l):f a=g a:=List.map_inj_left.mp h a m
def pj (e:Ent)(us:List Qj)(kV j pm:Qj)(u:Option Addr)(h ct:Qj):Sem (List (Str×Qj)):=bindArgs (PySem.W.fnOf e.x e.qn (dO e.st) (cf e.st) (aN e.st) e.dV kV j pm u h ct) {us,[]}
def nj (tb:List Ent)(k:Nat)(us:List Qj):Prop:=∀(kV j pm:Qj) (u:Option Addr) (h ct:Qj),(tb.filter λe=>e.ps==k&&e.df==0).map (λe=>pj e us kV j pm u h ct)=(tb.filter λe=>e.ps==k&&e.df==0).map λe=>pure ((e.N.take e.ps).zip us)
structure zb (t:nh):Prop where
 rs:Ed t.rs
 rd:∀c,t.tb.map (t.rd c)=t.tb.map λe=>some (e.b c)
 sc:t.tb.all DH=true
 ar:t.tb.all (λe=>e.ps==0||e.ps==1||e.ps==2||e.ps==3||e.ps==4||e.ps==6||e.ps==5)=true
 a0:nj t.tb 0 []
 a1:∀a,nj t.tb 1 [a]
 a2:∀a b,nj t.tb 2 [a,b]
 a3:∀a b c,nj t.tb 3 [a,b,c]
 a4:∀a b c d,nj t.tb 4 [a,b,c,d]
 a6:∀a b c d e f,nj t.tb 6 [a,b,c,d,e,f]
 a5:∀a b c d e,nj t.tb 5 [a,b,c,d,e]
 ad:AllP (λe=>e.ps=2/\∀(a b kV doc pm:Qj) (an:Option Addr) (cdv ct:Qj),∃k k1,pj e [a,b] kV doc pm an cdv ct=seqItems? (.ref e.df) >>= k/\k (some #[.none])=pure ((e.N.take e.ps).zip [a,b])/\pj e [a] kV doc pm an cdv ct=seqItems? (.ref e.df) >>= k1/\k1 (some #[.none])=pure ((e.N.take e.ps).zip [a,.none])) (t.tb.filter λe=>!(e.df==0))
structure BN (K:Qf) (tb:List Ent):Prop where
 ns:(tb.filter (·.q.isNone)).map (λe=>PySem.W.nsIn K mainGlobals e.x)=(tb.filter (·.q.isNone)).map λe=>some (some (.ref e.f))
 lk:tb.map (λe=>K.lookup e.f)=tb.map Lo
 dk:tb.all (λe=>e.df==0||(match K.lookup e.df with|some {_,_,.seq its _,_}=>its==#[.none]|_=>false))=true
 ck:tb.all (λe=>PySem.W.codeIn K (.ref (e.f-1)) e.qn&&PySem.W.keepIn K (.ref e.f))=true
def Je {K:Qf}{tb:List Ent}(k:BN K tb)(m:e∈tb):zf K e.x e.qn e.st e.f (PySem.W.fnOf e.x e.qn (dO e.st) (cf e.st) (aN e.st) e.dV .none .none (.str e.pm.1 e.pm.2) none (.ref (e.f-1)) .none):=by
 have c:=Qq.mp k.ck e m;rw[Qh] at c;exact{{_,_,_,_,_,_,_,_,_,_,rfl,mO k.lk m,c.1},c.2}
def Gs {K:Qf}{h:Heap}(k:BN K tb)(X:K.In h)(G:h.Ns mainGlobals mg)(m:e∈tb)(u:e.q.isNone=true)(hd:e.df=0):mg e.x=some (.ref e.f)/\∃j,oz K e.x e.qn e.st e.f j:=by
 have c:=Qq.mp k.ck e m;rw[Qh] at c;have l:=mO k.lk m;unfold Lo Ent.dV at l;rw[if_pos hd] at l;exact{Rr X G (mO k.ns (R3.mpr ⟨m,u⟩)),_,Bg l c.1 c.2}
def us6 {j:Type}{p:List j->Prop}(h:∀a b c d e f,p [a,b,c,d,e,f]):∀(us:List j) (hl:us.length=6),p us
 |[a,b,c,d,e,f],_=>h a b c d e f
def us5 {j:Type}{p:List j->Prop}(h:∀a b c d e,p [a,b,c,d,e]):∀(us:List j) (hl:us.length=5),p us
 |[a,b,c,d,e],_=>h a b c d e
def Ci {t:nh}(T:zb t){e:Ent}(m:e∈t.tb)(H:e.df=0)(kV B pm:Qj)(E:Option Addr)(j ct:Qj):∀us:List Qj,us.length=(e.N.take e.ps).length->pj e us kV B pm E j ct=pure ((e.N.take e.ps).zip us):=by
 have hl:=(qu (Qq.mp T.sc e m)).2;have a:=Qq.mp T.ar e m;have f:∀{k:Nat}{us:List Qj},e.ps=k->nj t.tb k us->pj e us kV B pm E j ct=pure ((e.N.take e.ps).zip us):=λ{k us} hk F=>mO (F kV B pm E j ct) (R3.mpr {m,by rw[hk,H];simp})
 rw[hl];simp only[Ry,beq_iff_eq] at a;rcases a with(((((a|a)|a)|a)|a)|a)|a
 ·rw[a];exact λus h=>by rw[Si.mp h];exact a ▸ f a T.a0
 ·rw[a];exact us1 λx=>a ▸ f a (T.a1 x)
 ·rw[a];exact NY λx y=>a ▸ f a (T.a2 x y)
 ·rw[a];exact us3 λx y z=>a ▸ f a (T.a3 x y z)
 ·rw[a];exact us4 λx y z u=>a ▸ f a (T.a4 x y z u)
 ·rw[a];exact us6 λx y z u v w=>a ▸ f a (T.a6 x y z u v w)
 ·rw[a];exact us5 λx y z u v=>a ▸ f a (T.a5 x y z u v)
section
variable{fa:Fa}{P:Q0}{w:QX}{K:Qf}{mg:Str->Option Qj}{base:Heap}{t:nh}
def uh (T:zb t)(TO:FR fa P w K mg base t.T)(tw:∀q∈t.tw,xH fa K mg q.1 q.2.1 q.2.2.1 q.2.2.2)(xf:∀f∈t.xf,xF fa K f)(ms:∀q∈t.ms,qF fa K q.1 q.2.1 q.2.2){e:Ent}(m:e∈t.tb){ad:Addr}(call:Call)(n:Nat)(j:Qj)(A:Rz)(outer:List RE)(s:Qn)(H:Hp)(E:XK)
 (C:∀f,jw fa P w K mg base n f (call f)) (hr:cF (2*n+5) (A.deeper (envOfC e.qn (aN e.st) s.heap.objs.size ad j))):kK fa (fy (gJ P w) P w K mg base e.N e.qn (aN e.st) ad j A outer s H E) (cf e.st) (e.b call):=by
 have S:=(qu (Qq.mp T.sc e m)).1;exact iA ((FW T.rs 60).s (g:=t.g e call) (X:=fy (gJ P w) P w K mg base e.N e.qn (aN e.st) ad j A outer s H E) {rfl,S.nd,rfl,TO,tw,xf,ms,λ_ _=>rfl,(λ_ h=>nomatch h),λ_=>rfl,λ_=>C,λ_=>hr,λ_=>⟨rfl,rfl,rfl,S.kind⟩,λ_=>PassesOwn.leaving}) (mO (T.rd call) m)
set_option tactic.hygienic true in
def zH (k:BN K tb)(m:en∈tb)(h:en.df≠0)(X:K.In s.heap)(e1:pj en us .none .none (.str en.pm.1 en.pm.2) none (.ref (en.f-1)) .none=seqItems? (.ref en.df) >>= kk)(e2:kk (some #[.none])=pure out) :
 BindsTo s (PySem.W.fnOf en.x en.qn (dO en.st) (cf en.st) (aN en.st) en.dV .none .none (.str en.pm.1 en.pm.2) none (.ref (en.f-1)) .none) {us,[]} out:=by
 have dk:=Qq.mp k.dk en m;rw[Ry] at dk;rcases dk with dk|dk
 ·exact absurd (eq_of_beq dk) h
 split at dk
 ·next lk=>
  have q:=eq_of_beq dk;subst q;exact BindsTo.of_defaults (by show en.dV=_;unfold Ent.dV;rw[if_neg h]) (X _ _ lk) rfl (by show pj en us _ _ _ _ _ _=seqItems? en.dV >>= _;unfold Ent.dV;rw[if_neg h];exact e1) e2
 ·cases dk
def Cg (T:zb t)(k:BN K t.tb)(X:K.In h)(G:h.Ns mainGlobals mg)(TO:FR fa P w K mg base t.T)(tw:∀q∈t.tw,xH fa K mg q.1 q.2.1 q.2.2.1 q.2.2.2)(xf:∀f∈t.xf,xF fa K f)(ms:∀q∈t.ms,qF fa K q.1 q.2.1 q.2.2)(hf:t.tb.all (λe=>fa e.i==some e.f&&(!(fa (500+e.i)).isSome||!(e.df==0)))=true) :
 ∀f d,t.Pg f=some d->zg fa P w K mg base f d:=by
 intro f d e;obtain⟨en,he,rfl⟩:=Qr.mp e;have m:=List.mem_of_find?_eq_some he;have J:en.i=f:=by have:=List.find?_some he;simpa using this
 have F:=Je k m;obtain⟨S,hl⟩:=qu (Qq.mp T.sc en m);have u:=Qq.mp hf en m;rw[Qh,Ry] at u;have M:fa f=some en.f:=by rw[<- J];exact eq_of_beq u.1
 have B:Binds K (PySem.W.fnOf en.x en.qn (dO en.st) (cf en.st) (aN en.st) en.dV .none .none (.str en.pm.1 en.pm.2) none (.ref (en.f-1)) .none) (en.N.take en.ps) []:=by
  by_cases v:en.df=0
  ·exact .all (Ci T m v _ _ _ _ _ _)
  ·intro s I X j;obtain⟨h2,hk⟩:=T.ad.mem en (R3.mpr {m,by simpa using v})
   rw[List.append_nil] at j ⊢;rw[hl,h2] at j
   match I,j with
   | [a,b],_=>
     obtain⟨kk,_,e1,e2,_⟩:=hk a b .none .none (.str en.pm.1 en.pm.2) none (.ref (en.f-1)) .none;exact zH k m v X e1 e2
 have L:(fa (500+f)).isSome=true->Binds K (PySem.W.fnOf en.x en.qn (dO en.st) (cf en.st) (aN en.st) en.dV .none .none (.str en.pm.1 en.pm.2) none (.ref (en.f-1)) .none) (en.N.take en.ps) [.none]:=λhs s I X j=>by
  have v:en.df≠0:=by
   rcases u.2 with z|z
   ·rw[J,hs] at z;cases z
   ·simpa using z
  obtain⟨h2,hk⟩:=T.ad.mem en (R3.mpr {m,by simpa using v})
  rw[hl,h2,QJ] at j
  match I,j with
  | [a],_=>
    obtain⟨_,kk,_,_,e1,e2⟩:=hk a .none .none .none (.str en.pm.1 en.pm.2) none (.ref (en.f-1)) .none;exact zH k m v X e1 e2
 exact{en.f,_,en.N.take en.ps,en.N,en.st,en.x,en.qn,M,F,B,L,S,hl.symm,rfl,λcall n y A outer s H E C hr=>uh T TO tw xf ms m call n y A outer s H E C hr}
noncomputable def Lq (K:Qf)(fa:Fa)(t:nh)(p:Str×En):Bool:=match p.2 with
 |.fn i _=>(match PySem.W.nsIn K mainGlobals p.1 with|some (some (.ref a))=>fa i==some a|_=>false)
 |.fnD i=>(match PySem.W.nsIn K mainGlobals p.1 with|some (some (.ref a))=>fa i==some a&&(fa (500+i)).isSome|_=>false)
 |.int i=>(match PySem.W.nsIn K mainGlobals p.1 with|some (some (.int j _))=>i==j|_=>false)
 |.str i=>(match PySem.W.nsIn K mainGlobals p.1 with|some (some (.str j _))=>i==j|_=>false)
 |.xc k=>(match PySem.W.nsIn K mainGlobals p.1 with|some (some (.ref a))=>fa (fk k)==some a&&PySem.W.excIn K a ow "ValueError.__new__"&&PySem.W.keepIn K (.ref a)|_=>false)
 |.xi k=>(match PySem.W.nsIn K mainGlobals p.1 with|some (some (.ref a))=>fa (fk k)==some a&&t.il.contains (p.1,k)|_=>false)
 |.xk k=>(match PySem.W.nsIn K mainGlobals p.1 with|some (some (.ref a))=>fa (fk k)==some a|_=>false)
 |.de=>(match PySem.W.nsIn K mainGlobals p.1 with|some (some (.ref a))=>fa 999==some a|_=>false)
 |.bl=>(match PySem.W.nsIn K mainGlobals p.1 with|some none=>true|_=>false)
 |.dct fs=>t.dl.contains (p.1,fs)
 |.cls c f=>(match PySem.W.nsIn K mainGlobals p.1 with|some (some (.ref a))=>fa (mj c)==some a&&PySem.W.makesIn K a&&PySem.W.keepIn K (.ref a)&&(match fa f with|some ad=>PySem.W.findIn K (.ref a) "__init__"==some (some (.ref ad))&&PySem.W.isFn K (.ref ad)|none=>true)|_=>false)
set_option tactic.hygienic true in
def Gr (X:K.In h)(G:h.Ns mainGlobals mg)(I:t.T.all (Lq K fa t)=true)(J:ng fa K)(z:L6 fa K)(E:∀o,5000<=o->fa o=none)(B:fa (mj 77)=none/\fa (mj 78)=none)(hd:AllP (λq=>∃ad j,mg q.1=some (.ref ad)/\gx K w.params ad j/\eZ fa j q.2) t.dl)(hi:AllP (λq=>lD fa P w K mg base q.2 q.1) t.il):FR fa P w K mg base t.T:=by
 have F:∀{x:Str}{e:En},t.T.lookup x=some e->Lq K fa t (x,e)=true:=λ{x e} l=>Qq.mp I _ (mem_of_lookup l);refine{λ{x i r} l ad v=>?_,λ{x i} l=>?_,λ{x i} l=>?_,λ{x i} l=>?_,λ{x fs} l=>?_,λ{x k} l=>?_,λ{x k} l=>?_,λ{x k} l=>?_,λ{x} l=>?_,λ{x} l=>?_,J,z,E,B,λ{x c f} l=>?_};all_goals have b:=F l;unfold Lq at b;dsimp only at b
 ·split at b
  ·next e=>have b:=eq_of_beq b;rw[v] at b;cases b;exact Rr X G e
  ·cases b
 ·split at b
  ·next e=>rw[Qh] at b;exact{λad v=>by have H:=eq_of_beq b.1;rw[v] at H;cases H;exact Rr X G e,b.2}
  ·cases b
 ·split at b
  ·next e=>have b:=eq_of_beq b;subst b;exact{_,Rr X G e}
  ·cases b
 ·split at b
  ·next e=>have b:=eq_of_beq b;subst b;exact{_,Rr X G e}
  ·cases b
 ·exact hd.mem (x,fs) (List.contains_iff_mem.mp b)
 ·split at b
  ·next e=>simp only[Qh] at b;exact{_,Rr X G e,eq_of_beq b.1.1,b.1.2,b.2}
  ·cases b
 ·split at b
  ·next e=>rw[Qh] at b;exact{hi.mem (x,k) (List.contains_iff_mem.mp b.2),_,Rr X G e,eq_of_beq b.1}
  ·cases b
 ·split at b
  ·next e=>exact{_,Rr X G e,eq_of_beq b}
  ·cases b
 ·split at b
  ·next e=>exact{_,Rr X G e,eq_of_beq b}
  ·cases b
 ·split at b
  ·next e=>exact PySem.W.mg_none_of X G e
  ·cases b
 ·split at b
  ·next a e=>
   simp only[Qh] at b;refine{a,Rr X G e,eq_of_beq b.1.1.1,λad y=>?_};have u:=b.2;rw[y] at u;simp only[Qh] at u;exact{b.1.1.2,eq_of_beq u.1,u.2,b.1.2}
  ·cases b
end
noncomputable def yT (K:Qf)(C:Addr):Bool:=PySem.W.plainGet K C Str.empty&&PySem.W.hasDictIn K C&&PySem.W.plainOver K C&&PySem.W.findIn K (.ref C) "__setattr__"==some (some (.builtin "object.__setattr__"))
def BA {K:Qf}(h:yT K C=true):xJ K C:=by
 unfold yT at h;simp only[Qh] at h;exact{h.1.1.1,h.1.1.2,h.1.2,eq_of_beq h.2}
def Kk (K:Qf)(fa:Fa):Bool:=match fa (mj 40) with
 |some C=>yT K C&&(lZ 40).all λf=>PySem.W.findIn K (.ref C) f==some none
 |none=>true
def Kj {K:Qf}(h:Kk K fa=true):L6 fa K:=λc C e ne=>by
 have j:c=40:=by
  unfold lZ at ne;split at ne
  ·rfl
  ·exact absurd rfl ne
 subst j;unfold Kk at h;rw[e] at h;simp only[Qh,Qq] at h;exact{BA h.1,λf m=>eq_of_beq (h.2 f m)}
def KH (K:Qf)(fa:Fa)(q:Str×Nat×Nat):Bool:=match fa (mj q.2.1) with
 | some C=>yT K C && (match fa q.2.2 with
   |some ad=>PySem.W.findIn K (.ref C) q.1==some (some (.ref ad))&&PySem.W.isFn K (.ref ad)&&PySem.W.keepIn K (.ref ad)
   |none=>true)&&!(lZ q.2.1).contains q.1&&!(lZ q.2.1).isEmpty
 |none=>false
def KG {K:Qf}{l:List (Str×Nat×Nat)}(h:l.all (KH K fa)=true):∀q∈l,qF fa K q.1 q.2.1 q.2.2:=λq m=>by
 have h:=Qq.mp h q m;unfold KH at h;cases e:fa (mj q.2.1) with
 |none=>rw[e] at h;cases h
 | some C=>
   rw[e] at h;simp only[Qh,RI] at h;refine{C,e,BA h.1.1.1,λad j=>?_,λz=>?_,λz=>?_}
   ·have b:=h.1.1.2;rw[j] at b;simp only[Qh] at b;exact{eq_of_beq b.1.1,b.1.2,b.2}
   ·have:=List.contains_iff_mem.mpr z;rw[h.1.2] at this;cases this
   ·rw[z] at h;exact absurd h.2 `d
def Dx {D:Addr}(h:cl.all (λq=>decide (q.1<4000))=true):∀o,5000<=o->sG l cl D o=none:=λo ho=>by
 unfold sG;rw[if_neg `a,if_neg `a]
 cases e:cl.lookup (o-1000) with
 |none=>rfl
 | some C=>
   have:=of_decide_eq_true (Qq.mp h _ (lookup_mem e));omega
end LD
section
local macro_rules|`(#[$a,*])=>do return<-a.getElems.foldrM (β:=Lean.Term) (λx r=>`(LD.ix $x $r)) (<-`(LD.b9))
local macro_rules|`(#v[$a,*])=>do return<-a.getElems.foldrM (β:=Lean.Term) (λx r=>`(LD.aC $x $r)) (<-`(LD.aB))
namespace LD
open PySem
abbrev gI (n:Int):GE:=gC (.int n)
abbrev gS (x:Str):GE:=gC (.str x)
abbrev gN:GE:=gC .non
abbrev sD:GE:=gC (.bl true)
abbrev sE:GE:=gC (.bl false)
abbrev rF:GS:=aC (aD sE) aB
noncomputable def di:List (Str×Nat):=[("turn",7),("join",8),("move",9),("put",10)]
def dj:List (Str×Nat):=[("turn",20),("join",21),("move",22),("put",23)]
def f5 (c:Call):GS:=#v[aL (cq (ao (bD .bool (aa 0))) (bB (ao (bD .int (aa 0))))) rF aB,aD (j8 .le .le (aa 1) (aa 0) (aa 2))]
def jr (c:Call):GS:=#v[aD (ai 0 c #[aa 1,gI 0,ak false .sub (aa 0) (gI 1)])]
def iC (c:Call):GS:=#v[aD (ai 0 c #[aa 1,gI 0,ak false .sub (aa 0) (gI 1)])]
def js (c:Call):GS:=#v[aD (ai 0 c #[aa 0,gI 1,gI 3])]
def fH (c:Call):GS:=#v[aD (dv (bD .tuple (aa 1)) (az .eq (aH .len #[aa 1]) (aa 0)))]
def iB (c:Call):GS:=#v[aD (dv (ai 4 c #[aa 0,aa 1]) (aH .all #[bL false 1 (.one 0) (dY (aa 1)) (bN (ai 1 c #[aa 1,aa 0]))]))]
def dS (c:Call):GS:=#v[aD (dv (ai 4 c #[aa 0,aa 1]) (aH .all #[bL false 1 (.one 0) (dY (aa 1)) (bN (ai 5 c #[aa 1,aa 0]))]))]
def fX (c:Call):GS:=#v[aL (ao (az .ne (aH .len #[aa 2]) (gI 3))) rF aB,aw (.tup [3,4,5]) (aa 2),aD (dv (ai 2 c #[aa 1,aa 3]) (dv (ai 5 c #[aa 0,aa 4]) (ai 3 c #[aa 5])))]
def fZ (c:Call):GS:=#v[aL (ao (az .ne (aH .len #[aa 2]) (gI 4))) rF aB,aw (.tup [3,4,5,6]) (aa 2),aL (cq (bB (ao (ai 2 c #[aa 1,aa 3]))) (bB (ao (ai 2 c #[aa 1,aa 4])))) rF aB,aD (dv (ai 6 c #[aa 0,aa 5]) (ai 3 c #[aa 6]))]
def fY (c:Call):GS:=#v[aL (ao (az .ne (aH .len #[aa 2]) (gI 3))) rF aB,aw (.tup [3,4,5]) (aa 2),aD (dv (ai 2 c #[aa 1,aa 3]) (dv (ai 2 c #[aa 1,aa 4]) (ai 3 c #[aa 5])))]
def gY (c:Call):GS:=#v[aL (ao (az .ne (aH .len #[aa 2]) (gI 3))) rF aB,aw (.tup [3,4,5]) (aa 2),aD (dv (ai 2 c #[aa 1,aa 3]) (dv (ai 1 c #[aa 0,aa 4]) (ai 3 c #[aa 5])))]
def d8 (c:Call):GS:=#v[aL (cq (bB (ao (bD .tuple (aa 2)))) (bB (ao (aa 2)))) rF aB,aw (.one 3) (av (aa 2) (gI 0)),aL (cq (bB (ao (bD .str (aa 3)))) (ao (iw di (aa 3)))) rF aB,aw (.one 4) (lY di (aa 3)),aD (mT 4 c #[aa 0,aa 1,bG false true false (aa 2) (gI 1) gN])]
def iD (c:Call):GS:=#v[aL (bB (ao (ai 4 c #[gI 3,aa 0]))) rF aB,aw (.tup [1,2,3]) (aa 0),aL (cq (bB (ao (ai 0 c #[aa 1,gI 2,gI 4]))) (bB (ao (ai 0 c #[aa 2,gI 1,gI 2])))) rF aB,aL (cq (bB (ao (bD .tuple (aa 3)))) (bB (ao (j8 .le .le (gI 1) (aH .len #[aa 3]) (gI 6))))) rF aB,aD (aH .all #[bL false 1 (.one 0) (dY (aa 3)) (bN (ai 11 c #[aa 2,aa 3,aa 0]))])]
def dE (c:Call):GS:=#v[aL (bB (ao (ai 12 c #[aa 0]))) #v[jX 3 #[gS "this is no machine"]] aB]
def fm (c:Call):GS:=#v[hV (cU 13 c #[aa 0]),aw (.tup [1,2,3]) (aa 0),aw (.one 4) (aG false #[bc b9]),cS (.one 5) (cJ (aa 2)) #v[aw (.one 4) (bL false 2 (.one 0) (dY (aa 4)) (vo (.one 1) (cJ (aa 3)) (bN (ak false .add (aa 0) (bc #[aa 1])))))],aD (aa 4)]
def fB (c:Call):GS:=#v[aD (ai 0 c #[aa 1,gI 0,ak false .sub (aH .len #[av (aa 0) (gI 2)]) (gI 1)])]
def cz (c:Call):GS:=#v[aL (bB (ao (bD .list (aa 1)))) #v[gj 0 (gI 0)] aB,cS (.tup [2,3]) (gr (aa 1)) #v[aL (bB (ao (ai 16 c #[aa 0,aa 3]))) #v[gj 0 (aa 2)] aB]]
def d3 (c:Call):GS:=#v[hV (cU 13 c #[aa 0]),hV (cU 17 c #[aa 0,aa 1]),aL (ao (az .gt (aH .len #[aa 1]) (gI 40))) #v[jX 4 #[Ll "a row has at most " " deeds" (gI 40)]] aB]
def l9 (c:Call):GS:=#v[aw (.tup [2,3,4,5]) (aa 0),aD (av (aa 4) (av (aa 1) (aa 3)))]
def mf (c:Call):GS:=#v[aw (.tup [2,3,4,5,6]) (aa 0),aD (av (av (aa 5) (av (aa 1) (aa 3))) (av (aa 1) (aa 4)))]
def n4 (c:Call):GS:=#v[aw (.tup [2,3,4,5]) (aa 0),aD (av (aa 1) (aa 4))]
def ma (c:Call):GS:=#v[aw (.tup [2,3,4,5]) (aa 0),aD (aa 4)]
def qA (c:Call):GS:=#v[aw (.one 2) (lY dj (av (aa 0) (gI 0))),aw (.one 3) (av (aa 0) (gI 1)),aD (ak false .add (ak false .add (bG false false true (aa 1) gN (aa 3)) (bc #[mT 2 c #[aa 0,aa 1]])) (bG false true false (aa 1) (ak false .add (aa 3) (gI 1)) gN))]
def i6 (c:Call):GS:=#v[aw (.one 3) (aG true #[aa 2]),cS (.one 4) (dY (aa 1)) #v[iR (aa 3) (ai 24 c #[av (av (aa 0) (gI 2)) (aa 4),av (aa 3) (dZ (gI 1))])],aD (aa 3)]
def je (c:Call):GS:=#v[hV (cU 18 c #[aa 0,aa 1]),aD (ai 46 c #[aa 0,aa 1])]
def ml (c:Call):GS:=#v[aL (ao (az .ge (aa 0) (ak false .pow (gI 10) (gI 18)))) #v[aD (aa 0)] aB,aw (.one 2) (aG false #[gI 2147483629,gI 2147483587,gI 2147483579,gI 2147483563,gI 2147483549,gI 2147483543,gI 2147483497,gI 2147483489]),aw (.one 2) (ak false .add (aa 2) (aG false #[gI 2147483477,gI 2147483423,gI 2147483399,gI 2147483353,gI 2147483323])),aw (.one 3) (ak false .mod (ak false .pow (ak false .add (ak false .add (ak false .mul (ak false .mod (aa 0) (gI 1000000007)) (ak false .add (ak false .mul (gI 2) (aa 1)) (gI 69069))) (ak false .mul (aa 1) (gI 40503))) (gI 977)) (gI 3)) (av (aa 2) (ak false .mod (aa 1) (gI 13)))),aw (.one 4) (ak false .mod (ak false .pow (ak false .add (ak false .add (ak false .mul (aa 3) (ak false .add (aa 1) (gI 3))) (ak false .mod (aa 0) (gI 65537))) (gI 5)) (gI 5)) (av (aa 2) (ak false .mod (ak false .add (aa 1) (gI 5)) (gI 13)))),aw (.one 5) (ak false .mod (ak false .pow (ak false .add (ak false .add (aa 4) (ak false .mod (aa 3) (gI 1009))) (aa 1)) (gI 3)) (av (aa 2) (ak false .mod (ak false .add (aa 1) (gI 7)) (gI 13)))),aD (ak false .add (ak false .mul (ak false .add (ak false .mul (aa 3) (gI 2147483647)) (aa 4)) (gI 2147483647)) (aa 5))]
def kT (c:Call):GS:=#v[aw (.one 1) (aH (.list true) #[bG false false true (aa 0) gN (gI 12)]),cS (.tup [2,3]) (gr (bG false true true (aa 0) (gI 12) (gI 63))) #v[fe (aa 1) (ak false .mod (aa 2) (gI 12)) (ak false .add (av (aa 1) (ak false .mod (aa 2) (gI 12))) (aa 3))],aD (aG true #[aa 1,gI 0,gI 0])]
def kU (c:Call):GS:=#v[fe (aa 0) (gI 2) (gI 0),aD (aa 0)]
def oy (c:Call):GS:=#v[aL (ao (az .lt (av (aa 0) (gI 2)) (aa 1))) #v[aw (.one 2) (av (aa 0) (gI 1)),aw (.one 3) (gI 0),aL (ao (az .lt (aa 2) (aH .len #[av (aa 0) (gI 0)]))) #v[aw (.one 3) (av (av (aa 0) (gI 0)) (aa 2))] #v[aL (ao (az .gt (aH .len #[av (aa 0) (gI 0)]) (gI 0))) #v[aw (.one 3) (ak false .mod (av (av (aa 0) (gI 0)) (ak false .mod (ak false .add (ak false .mul (aa 2) (gI 5)) (gI 3)) (aH .len #[av (aa 0) (gI 0)]))) (ak false .add (ak false .pow (gI 10) (gI 17)) (aa 2)))] aB],fe (aa 0) (gI 1) (ak false .add (aa 2) (gI 1)),fe (aa 0) (gI 2) (ai 28 c #[aa 3,aa 2])] aB,aw (.one 4) (ak false .mod (av (aa 0) (gI 2)) (aa 1)),fe (aa 0) (gI 2) (ak false .fdiv (av (aa 0) (gI 2)) (aa 1)),aD (aa 4)]
def jK (c:Call):GS:=#v[aw (.one 2) (ai 31 c #[aa 0,gI 6]),aw (.one 3) (ai 31 c #[aa 0,aa 1]),aw (.one 4) (ai 31 c #[aa 0,aa 1]),aL (ao (az .lt (aa 2) (gI 2))) #v[aD (aH .tuple #[bL false 1 (.one 0) (cJ (aa 1)) (bN (ai 31 c #[aa 1,aa 2]))])] aB,aL (ao (az .eq (aa 2) (gI 2))) #v[aD (aH .tuple #[bL false 1 (.one 0) (cJ (aa 1)) (bN (ak false .mod (ak false .add (ak false .add (aa 0) (gI 1)) (aa 4)) (aa 2)))])] aB,aL (ao (az .eq (aa 2) (gI 3))) #v[aD (aH .tuple #[bL false 1 (.one 0) (cJ (aa 1)) (bN (cT (ao (az .eq (aa 0) (aa 4))) (aa 5) (aa 0)))])] aB,aL (ao (az .eq (aa 2) (gI 4))) #v[aD (ak false .mul (bc #[aa 3]) (aa 1))] aB,aw (.one 5) (mS true (aa 1)),fe (aa 5) (aa 3) (aa 4),fe (aa 5) (aa 4) (aa 3),aD (aH .tuple #[aa 5])]
def jf (c:Call):GS:=#v[aw (.one 3) (ai 31 c #[aa 0,gI 8]),aw (.one 4) (ak false .add (gI 1) (ai 31 c #[aa 0,gI 3])),aw (.one 5) (ai 31 c #[aa 0,aa 2]),aw (.one 6) (ai 31 c #[aa 0,aa 2]),aL (ao (az .lt (aa 3) (gI 3))) #v[aD (bc #[gS "turn",aa 5,ai 32 c #[aa 0,aa 1],aa 4])] aB,aL (ao (az .lt (aa 3) (gI 5))) #v[aD (bc #[gS "move",aa 5,cT (ao (az .eq (aa 3) (gI 3))) (ak false .mod (ak false .add (aa 5) (gI 1)) (aa 2)) (aa 6),aa 4])] aB,aL (ao (az .eq (aa 3) (gI 5))) #v[aD (bc #[gS "put",aa 5,ai 31 c #[aa 0,aa 1],aa 4])] aB,aD (bc #[gS "join",aa 5,aa 6,aH .tuple #[bL false 1 (.one 0) (cJ (aa 1)) (bN (ai 32 c #[aa 1,aa 2]))],aa 4])]
def gv (c:Call):GS:=#v[aw (.one 1) (ak false .add (gI 2) (ai 31 c #[aa 0,ak false .sub (aa 1) (gI 1)])),aw (.one 2) (ak false .add (gI 1) (ai 31 c #[aa 0,aa 2])),aw (.one 4) (aG true b9),cS (.one 5) (cJ (ak false .add (gI 1) (ai 31 c #[aa 0,aa 3]))) #v[aw (.one 6) (ai 31 c #[aa 0,gI 5]),aw (.one 7) (ai 33 c #[aa 0,aa 1,aa 2]),aL (gU (ao (az .eq (aa 6) (gI 0))) (ao (az .ne (aa 4) (aG false b9)))) #v[aw (.one 7) (ak false .add (bG false false true (av (aa 4) (ai 31 c #[aa 0,aH .len #[aa 4]])) gN (dZ (gI 1))) (bc #[av (aa 7) (dZ (gI 1))]))] aB,iR (aa 4) (aa 7)],aD (bc #[aa 1,aa 2,aH .tuple #[aa 4]])]
def d4 (c:Call):GS:=#v[aw (.one 3) (ai 31 c #[aa 0,gI 4]),aw (.one 4) (cT (ao (az .eq (aa 3) (gI 0))) (aa 2) (ai 31 c #[aa 0,ak false .add (aa 2) (gI 1)])),aw (.one 5) (bL false 1 (.one 0) (cJ (aa 4)) (bN (ai 31 c #[aa 1,aH .len #[av (aa 2) (gI 2)]]))),aL (ao (az .eq (aa 3) (gI 1))) #v[aw (.one 5) (bG false false true (ak false .mul (bG false false true (aa 5) gN (gI 2)) (aa 4)) gN (aa 4))] aB,aD (aa 5)]
def cw (c:Call):GS:=#v[aL (ao (az .isN (aa 1) gN)) #v[aD (az .isN (aa 0) gN)] aB,aL (cq (ao (bD .bool (aa 1))) (ao (bD .bool (aa 0)))) #v[aD (dv (bD .bool (aa 1)) (dv (bD .bool (aa 0)) (az .eq (aa 0) (aa 1))))] aB,aL (ao (bD .int (aa 1))) #v[aD (dv (bD .int (aa 0)) (az .eq (aa 0) (aa 1)))] aB,aL (ao (bD .str (aa 1))) #v[aD (dv (bD .str (aa 0)) (az .eq (aa 0) (aa 1)))] aB,aL (cq (ao (az .ne (bD .tuple (aa 1)) (bD .tuple (aa 0)))) (ao (az .ne (bD .list (aa 1)) (bD .list (aa 0))))) rF aB,aL (ao (az .ne (aH .len #[aa 0]) (aH .len #[aa 1]))) rF aB,aD (az .notin sE (bL false 2 (.tup [0,1]) (nK (aa 0) (aa 1)) (bN (ai 40 c #[aa 0,aa 1]))))]
def iE (c:Call):GS:=#v[aw (.one 2) (aH (.list true) #[aa 1]),aw (.one 3) (av (aa 1) (av (aa 0) (gI 1))),aL (ao (az .eq (av (aa 0) (gI 0)) (gS "turn"))) #v[fe (aa 2) (av (aa 0) (gI 1)) (av (av (aa 0) (gI 2)) (aa 3))] aB,aL (ao (az .eq (av (aa 0) (gI 0)) (gS "join"))) #v[fe (aa 2) (av (aa 0) (gI 1)) (av (av (av (aa 0) (gI 3)) (aa 3)) (av (aa 1) (av (aa 0) (gI 2))))] aB,aL (ao (az .eq (av (aa 0) (gI 0)) (gS "move"))) #v[fe (aa 2) (av (aa 0) (gI 1)) (av (aa 1) (av (aa 0) (gI 2)))] aB,aL (ao (az .eq (av (aa 0) (gI 0)) (gS "put"))) #v[fe (aa 2) (av (aa 0) (gI 1)) (av (aa 0) (gI 2))] aB,aD (aH .tuple #[aa 2])]
def jA (c:Call):GS:=#v[aL (ao (az .eq (av (aa 0) (gI 1)) (gI 1))) #v[aD (bL false 1 (.one 0) (cJ (av (aa 0) (gI 0))) (bN (bc #[aa 0])))] aB,aD (bL false 1 (.one 0) (cJ (ak false .mul (av (aa 0) (gI 0)) (av (aa 0) (gI 0)))) (bN (bc #[ak false .fdiv (aa 0) (av (aa 1) (gI 0)),ak false .mod (aa 0) (av (aa 1) (gI 0))])))]
def da (c:Call):GS:=#v[aw (.one 2) (aG true b9),cS (.one 3) (dY (ai 42 c #[aa 0])) #v[cS (.one 4) (dY (aa 1)) #v[aw (.one 3) (ai 41 c #[av (av (aa 0) (gI 2)) (aa 4),aa 3])],iR (aa 2) (aa 3)],aD (aH .tuple #[aa 2])]
def jt (c:Call):GS:=#v[aD (aH .tuple #[bL false 1 (.one 0) (dY (ai 15 c #[aa 0])) (bN (av (ai 25 c #[aa 1,aa 2,aa 0]) (dZ (gI 1))))])]
def md (c:Call):GS:=#v[hX (.one 3) (cU 27 c #[aa 0,aa 1]),hX (.one 4) (cU 27 c #[aa 0,aa 2]),cS (.tup [5,6,7]) (qo (ai 15 c #[aa 0]) (aa 3) (aa 4)) #v[aL (ao (az .ne (aa 6) (aa 7))) #v[aD (aa 5)] aB],aD gN]
def cZ (c:Call):GS:=#v[aw (.one 2) (ak false .add (bL false 1 (.one 0) (cJ (gI 9)) (bN (ai 35 c #[aa 1,aa 2,gI 3]))) (aG false #[aG false b9,aG false #[gI 0]])),aw (.one 3) (aG true #[bc #[av (aa 2) (gI 0),aH (.list false) #[av (aa 2) (gI 0)]]]),cS (.tup [4,5]) (gr (aa 2)) #v[cS (.one 6) (dY (bG false false true (aa 2) gN (aa 4))) #v[aL (gU (ao (az .ne (aa 5) (aa 6))) (ao (az .eq (ai 44 c #[aa 1,aa 5]) (ai 44 c #[aa 1,aa 6])))) #v[iR (aa 3) (bc #[aa 5,aH (.list false) #[aa 6]])] aB]],aD (aa 3)]
def gX (c:Call):GS:=#v[mB #v[hV (cU 18 c #[aa 0,aa 1])] 0 4 rF,aD sD]
def m7 (c:Call):GS:=#v[aL (bB (ao (ai 4 c #[gI 2,aa 1]))) rF aB,aw (.tup [2,3]) (aa 1),aD (dv (ai 52 c #[aa 0,aa 2]) (dv (ai 52 c #[aa 0,aa 3]) (az .isN (ai 48 c #[aa 0,aa 2,aa 3]) gN)))]
def eC (c:Call):GS:=#v[hV (cU 13 c #[aa 0]),cS (.tup [2,3]) (gr (aa 1)) #v[aL (bB (ao (ai 53 c #[aa 0,aa 3]))) #v[gj 1 (aa 2)] aB]]
def fJ (c:Call):GS:=#v[aw (.tup [3,4,5]) (aa 2),aL (cq (bB (ao (ai 0 c #[aa 3,gI 0,aH .len #[aa 1]]))) (bB (ao (ai 0 c #[aa 4,gI 0,ak false .sub (aH .len #[aa 0]) (gI 1)])))) #v[aD gN] aB,aw (.tup [6,7]) (av (aa 0) (aa 4)),aL (ao (aa 5)) #v[qM 6 7 #[aa 7,aa 6]] aB,aw (.one 8) (ak false .add (aa 3) (aH .len #[aa 6])),aL (ao (az .ne (bG false true true (aa 1) (aa 3) (aa 8)) (aa 6))) #v[aD gN] aB,aw (.one 9) (ak true .add (ak false .add (bG false false true (aa 1) gN (aa 3)) (aa 7)) (bG false true false (aa 1) (aa 8) gN)),aD (cT (ao (az .le (aH .len #[aa 9]) (gI 40))) (aa 9) gN)]
def d7 (c:Call):GS:=#v[hV (cU 18 c #[aa 0,aa 2]),hV (cU 54 c #[aa 0,aa 1]),aw (.one 4) (aH (.list true) #[aa 2]),cS (.tup [5,6]) (gr (aa 3)) #v[aw (.one 7) (ai 55 c #[aa 1,aa 4,aa 6]),aL (ao (az .isN (aa 7) gN)) #v[gj 2 (aa 5)] aB,aw (.one 4) (aa 7)],aD (aa 4)]
def fK (c:Call):GS:=#v[aD (bL false 2 (.tup [0,1]) (dY (aa 0)) (bN (bc #[aH (.list false) #[aa 0],aH (.list false) #[aa 1]])))]
def cL (c:Call):GS:=#v[aw (.tup [3,4,5]) (aa 2),aL (cq (ao (az .lt (aa 4) (gI 0))) (cq (ao (az .ge (aa 4) (aH .len #[aa 0]))) (cq (ao (az .lt (aa 3) (gI 0))) (ao (az .gt (aa 3) (aH .len #[aa 1])))))) #v[aD gN] aB,aw (.tup [6,7]) (cT (ao (aa 5)) (kS false (av (aa 0) (aa 4))) (av (aa 0) (aa 4))),aL (ao (az .ne (bG false true true (aa 1) (aa 3) (ak false .add (aa 3) (aH .len #[aa 6]))) (aH (.list false) #[aa 6]))) #v[aD gN] aB,aw (.one 8) (ak false .add (ak false .add (bG false false true (aa 1) gN (aa 3)) (aH (.list false) #[aa 7])) (bG false true false (aa 1) (ak false .add (aa 3) (aH .len #[aa 6])) gN)),aD (cT (ao (az .lt (aH .len #[aa 8]) (gI 41))) (aa 8) gN)]
def fQ (c:Call):GS:=#v[aw (.one 2) (gS " !\"#$&'()*+,-./0123456789:;<=>?@ABCDEFGHIJKLMNOPQRSTUVWXYZ[\\]^_`"),aw (.one 2) (ak false .add (aa 2) (gS "abcdefghijklmnopqrstuvwxyz{|}~\t\n")),aw (.one 3) (bL false 1 (.one 0) (qp (aa 2)) (ll (ao (az .notin (aa 0) (aa 2))) (bN (aa 0)))),aD (av (aa 3) (ai 31 c #[aa 0,aH .len #[aa 3]]))]
def fS (c:Call):GS:=#v[aD (ai 64 c #[aa 0,gS ""])]
def gP (c:Call):GS:=#v[aw (.one 2) (ai 31 c #[aa 0,ak false .add (aH .len #[aa 1]) (gI 1)]),aD (ak false .add (ak false .add (nM false true (aa 1) gN (aa 2)) (ai 65 c #[aa 0])) (nM true false (aa 1) (ak false .add (aa 2) (ai 31 c #[aa 0,gI 2])) gN))]
def kJ (c:Call):GS:=#v[aD (dv (bD .int (aa 0)) (Lj (bD .bool (aa 0))))]
def m8 (c:Call):GS:=#v[aD (dv (ai 67 c #[aa 0]) (j8 .le .le (aa 1) (aa 0) (aa 2)))]
def i7 (c:Call):GS:=#v[aL (cq (bB (ao (bD .tuple (aa 0)))) (ao (az .ne (aH .len #[aa 0]) (aa 1)))) rF aB,aD (az .eq (bL false 1 (.one 0) (dY (aa 0)) (ll (bB (ao (ai 68 c #[aa 0,aa 3,aa 4]))) (bN (gI 1)))) (aG false b9))]
def eh (c:Call):GS:=#v[aL (cq (bB (ao (bD .tuple (aa 0)))) (ao (az .notin (aH .len #[aa 0]) (bc #[gI 4,gI 5])))) rF aB,aL (cq (ao (az .notin (av (aa 0) (gI 0)) (bc #[gS "turn",gS "join",gS "move",gS "put"]))) (ao (az .ne (az .eq (aH .len #[aa 0]) (gI 5)) (az .eq (av (aa 0) (gI 0)) (gS "join"))))) rF aB,aL (cq (bB (ao (ai 69 c #[bc #[av (aa 0) (gI 1)],gI 1,gI 0,ak false .sub (aa 2) (gI 1)]))) (bB (ao (ai 68 c #[av (aa 0) (dZ (gI 1)),gI 1,gI 3])))) rF aB,aL (ao (az .eq (av (aa 0) (gI 0)) (gS "turn"))) #v[aD (ai 69 c #[av (aa 0) (gI 2),aa 1,gI 0,ak false .sub (aa 1) (gI 1)])] aB,aL (ao (az .eq (av (aa 0) (gI 0)) (gS "put"))) #v[aD (ai 68 c #[av (aa 0) (gI 2),gI 0,ak false .sub (aa 1) (gI 1)])] aB,aL (bB (ao (ai 68 c #[av (aa 0) (gI 2),gI 0,ak false .sub (aa 2) (gI 1)]))) rF aB,aL (ao (az .eq (av (aa 0) (gI 0)) (gS "move"))) #v[aD sD] aB,aL (cq (bB (ao (bD .tuple (av (aa 0) (gI 3))))) (ao (az .ne (aH .len #[av (aa 0) (gI 3)]) (aa 1)))) rF aB,aD (az .eq (bL false 1 (.one 0) (dY (av (aa 0) (gI 3))) (ll (bB (ao (ai 69 c #[aa 0,aa 2,gI 0,ak false .sub (aa 2) (gI 1)]))) (bN (gI 1)))) (aG false b9))]
def gz (c:Call):GS:=#v[aL (cq (bB (ao (bD .tuple (aa 0)))) (cq (ao (az .ne (aH .len #[aa 0]) (gI 3))) (bB (ao (ai 68 c #[av (aa 0) (gI 0),gI 2,gI 4]))))) rF aB,aL (cq (bB (ao (ai 68 c #[av (aa 0) (gI 1),gI 1,gI 2]))) (cq (bB (ao (bD .tuple (av (aa 0) (gI 2))))) (bB (ao (j8 .le .le (gI 1) (aH .len #[av (aa 0) (gI 2)]) (gI 6)))))) rF aB,aD (az .eq (bL false 1 (.one 0) (dY (av (aa 0) (gI 2))) (ll (bB (ao (ai 70 c #[aa 0,av (aa 1) (gI 0),av (aa 1) (gI 1)]))) (bN (gI 1)))) (aG false b9))]
def jg (c:Call):GS:=#v[aw (.one 3) (ai 31 c #[aa 0,gI 8]),aw (.one 4) (ai 31 c #[aa 0,gI 20]),aw (.one 5) (ak false .sub (ai 31 c #[aa 0,gI 9]) (gI 2)),aL (gU (ao (bD .tuple (aa 1))) (gU (ao (az .ne (aa 1) (bc b9))) (gU (ao (az .gt (aa 2) (gI 0))) (ao (az .gt (aa 4) (gI 4)))))) #v[aw (.one 6) (ai 31 c #[aa 0,aH .len #[aa 1]]),aD (ak false .add (ak false .add (bG false false true (aa 1) gN (aa 6)) (bc #[ai 72 c #[aa 0,av (aa 1) (aa 6),ak false .sub (aa 2) (gI 1)]])) (bG false true false (aa 1) (ak false .add (aa 6) (gI 1)) gN))] aB,aw (.one 7) (aG false #[gN,sD,sE,gS "",gS "turn",gS "join",gS "move",gS "put",gS "Turn",bc b9,aG false b9,ak false .pow (gI 10) (gI 20),dZ (gI 1),gI 0]),aw (.one 7) (ak false .add (aa 7) (aG false #[gI 1,gI 4,bc #[gI 0],aG false #[gI 0],gS "0",gI 7])),aL (ao (bD .tuple (aa 1))) #v[aw (.one 8) (aG false #[aH (.list false) #[aa 1],ak false .add (aa 1) (bG false false true (aa 1) gN (gI 1)),bG false false true (aa 1) gN (dZ (gI 1)),kS false (aa 1),ak false .add (aa 1) (bc #[aa 5]),bG false true false (aa 1) (gI 1) gN,bc #[aa 1]]),aD (av (ak false .add (aa 8) (aG false #[av (aa 7) (aa 4)])) (aa 3))] aB,aL (ao (ai 67 c #[aa 1])) #v[aD (av (aG false #[ak false .add (aa 1) (gI 1),ak false .sub (aa 1) (gI 1),ak false .sub (gI 0) (aa 1),aa 5,aa 5,az .eq (aa 1) (gI 1),ak false .sub (gI 3) (aa 1),av (aa 7) (aa 4)]) (aa 3))] aB,aL (gU (ao (bD .str (aa 1))) (ao (az .lt (aa 3) (gI 3)))) #v[aD (ai 66 c #[aa 0,aa 1])] aB,aD (av (aa 7) (aa 4))]
def dF (c:Call):GS:=#v[aw (.one 1) (aG false #[cb (some 0) (aa 0),cb (some 1) (aa 0),cb (some 2) (aa 0)]),aw (.one 1) (ak false .add (aa 1) (aG false #[cb (some 3) (aa 0),cb (some 4) (aa 0),cb (some 5) (aa 0)])),aw (.one 1) (ak false .add (aa 1) (aG false #[cb (some 6) (aa 0),cb (some 7) (aa 0),cb (some 8) (aa 0)])),aw (.one 1) (ak false .add (aa 1) (aG false #[cb (some 9) (aa 0),cb (some 10) (aa 0),cb (some 11) (aa 0)])),aw (.one 1) (ak false .add (aa 1) (aG false #[cb (some 12) (aa 0),cb (some 13) (aa 0)])),aL (cq (ao (az .ne (yL (aa 1)) (gI 1))) (cq (bB (ao (cb none (aa 0)))) (bB (ao (cb none (aa 0)))))) #v[aD (aG false #[gS "odd"])] aB,aL (ao (av (aa 1) (gI 0))) #v[aD (aG false #[gS "row",j9 "place" (aa 0)])] aB,aL (ao (av (aa 1) (gI 1))) #v[aD (aG false #[gS "rule",j9 "number" (aa 0)])] aB,aL (ao (av (aa 1) (gI 2))) #v[aD (aG false #[gS "step",j9 "place" (aa 0)])] aB,aw (.one 2) (aG false #[gS "machine",gS "long",gS "word",gS "work",gS "bound",gS "many",gS "place",gS "deed",gS "nothing",gS "text",gS "line"]),aD (aG false #[av (aa 2) (ak false .sub (yK (aa 1)) (gI 3))])]
def bT (c:Call):GS:=#v[aL (bB (ao (ai 71 c #[aa 0]))) #v[aD (aG false #[gS "machine"])] aB,aL (bB (ao (bD .list (aa 1)))) #v[aD (aG false #[gS "row",gI 0])] aB,cS (.tup [2,3]) (gr (aa 1)) #v[aL (bB (ao (ai 68 c #[aa 3,gI 0,ak false .sub (aH .len #[av (aa 0) (gI 2)]) (gI 1)]))) #v[aD (aG false #[gS "row",aa 2])] aB],aD (cT (ao (az .gt (aH .len #[aa 1]) (gI 40))) (aG false #[gS "long"]) gN)]
def rE (c:Call):GS:=#v[aw (.one 3) gN,oJ #v[hV (cU 48 c #[aa 0,aa 1,aa 2])] 4 #v[aw (.one 3) (aa 4)],aD (cT (ao (az .isN (aa 3) gN)) (aG false #[gS "told"]) (ai 75 c #[aa 3]))]
def tD (c:Call):GS:=#v[aw (.one 3) (ai 90 c #[aa 0,aa 1]),aL (ao (az .isN (aa 3) gN)) #v[aw (.one 3) (ai 90 c #[aa 0,aa 2])] aB,aD (cT (ao (az .isN (aa 3) gN)) (aG false #[gS "told"]) (aa 3))]
def tu (c:Call):GS:=#v[aw (.one 3) (ai 31 c #[aa 0,gI 5]),aw (.one 4) (ai 31 c #[aa 0,ak false .add (aH .len #[aa 2]) (gI 1)]),aL (ao (az .eq (aa 3) (gI 0))) #v[aD (aa 2)] aB,aL (ao (az .eq (aa 3) (gI 1))) #v[aD (bG false false true (ak false .add (aa 2) (ak false .mul (aG false #[gI 0]) (gI 41))) gN (gI 41))] aB,aL (ao (az .eq (aa 3) (gI 2))) #v[aD (av (aG false #[gN,aH .tuple #[aa 2],gS "0",gI 7,bc b9]) (ai 31 c #[aa 0,gI 5]))] aB,aD (ak false .add (ak false .add (ak false .add (bG false false true (aa 2) gN (aa 4)) (aG false #[ai 72 c #[aa 0,gI 0,gI 0]])) (bG false true false (aa 2) (aa 4) gN)) (ak false .mul (aG false #[gI 0]) (ak false .mul (gI 40) (ak false .sub (aa 3) (gI 3)))))]
def Ip (c:Call):GS:=#v[aw (.one 1) (ai 29 c #[aa 0]),cS (.one 2) (cJ (gI 5)) #v[aw (.one 3) (ai 34 c #[ai 30 c #[aa 1],gI 3,gI 2,gI 5]),aw (.one 4) (ai 72 c #[aa 1,aa 3,gI 5]),aw (.one 5) (ai 35 c #[aa 1,aa 3,gI 6]),cS (.one 6) (cJ (gI 6)) #v[aw (.one 7) (ai 96 c #[aa 1,aa 3,aa 5]),aw (.one 8) (ai 96 c #[aa 1,aa 3,kS false (aa 5)]),cS (.one 9) (dY (aG false #[aa 3,aa 4])) #v[aw (.one 10) (tQ #[aG false #[aa 7,aa 8]]),aw (.one 11) (ai 95 c #[aa 9,aa 7,aa 8]),aL (cq (bB (ao (ai 40 c #[ai 94 c #[aa 9,aa 7,aa 8],aa 11]))) (ao (az .ne (tQ #[aG false #[aa 7,aa 8]]) (aa 10)))) rF aB]]],aD sD]
def cX (c:Call):GS:=#v[cS (.one 2) (cJ (gI 6)) #v[aw (.one 3) (ai 35 c #[aa 0,aa 1,gI 3]),aw (.one 4) (ai 35 c #[aa 0,aa 1,gI 3]),aL (ao (az .ne (ai 44 c #[aa 1,aa 3]) (ai 44 c #[aa 1,aa 4]))) #v[aD (bc #[aa 3,aa 4])] aB],aD gN]
def rD (c:Call):GS:=#v[aw (.one 2) gN,aw (.one 3) (gI 0),oJ #v[hX (.one 3) (cU 54 c #[aa 0,aa 1])] 4 #v[aw (.one 2) (aa 4)],aD (cT (ao (az .isN (aa 2) gN)) (aG false #[aa 3]) (ai 75 c #[aa 2]))]
def tB (c:Call):GS:=#v[aL (bB (ao (ai 71 c #[aa 0]))) #v[aD (aG false #[gS "machine"])] aB,cS (.tup [2,3]) (gr (aa 1)) #v[aL (ao (az .ne (bL false 1 (.one 0) (dY (aa 3)) (ll (ao (az .notN (ai 90 c #[aa 1,aa 0]) gN)) (bN (gI 1)))) (aG false b9))) #v[aD (aG false #[gS "rule",aa 2])] aB,aL (ao (az .ne (ai 44 c #[aa 0,av (aa 3) (gI 0)]) (ai 44 c #[aa 0,av (aa 3) (gI 1)]))) #v[aD (aG false #[gS "rule",aa 2])] aB],aD (aG false #[gN])]
def qB (c:Call):GS:=#v[aw (.one 2) (ai 31 c #[aa 0,gI 5]),aw (.one 3) (ai 35 c #[aa 0,aa 1,gI 3]),aw (.one 4) (ai 31 c #[aa 0,ak false .add (aH .len #[aa 3]) (gI 1)]),aL (ao (az .lt (aa 2) (gI 2))) #v[aw (.one 5) (ai 101 c #[aa 0,aa 1]),aD (cT (ao (az .isN (aa 5) gN)) (bc #[aG false b9,aG false b9]) (aa 5))] aB,aL (ao (az .eq (aa 2) (gI 2))) #v[aw (.one 5) (bc #[aa 3,ak false .add (ak false .add (bG false false true (aa 3) gN (aa 4)) (aG false #[ai 72 c #[aa 0,gI 0,gI 0]])) (bG false true false (aa 3) (aa 4) gN)]),aD (Li (aa 5) (av (aG false #[gI 1,dZ (gI 1)]) (ai 31 c #[aa 0,gI 2])))] aB,aL (ao (az .eq (aa 2) (gI 3))) #v[aD (bc #[ak false .add (ak false .add (bG false false true (aa 3) gN (aa 4)) (aG false #[aH .len #[av (aa 1) (gI 2)]])) (bG false true false (aa 3) (aa 4) gN),aa 3])] aB,aD (Li (bc #[ak false .mul (aG false #[gI 0]) (av (aG false #[gI 41,gI 41,gI 29]) (ai 31 c #[aa 0,gI 3])),ak false .mul (aG false #[gI 0]) (gI 41)]) (av (aG false #[gI 1,dZ (gI 1)]) (ai 31 c #[aa 0,gI 2])))]
def Io (c:Call):GS:=#v[aw (.one 1) (ai 29 c #[aa 0]),cS (.one 2) (cJ (gI 4)) #v[aw (.one 3) (ai 34 c #[ai 30 c #[aa 1],gI 3,gI 2,gI 5]),aw (.one 4) (ai 49 c #[aa 1,aa 3]),aw (.one 5) (bL false 1 (.one 0) (cJ (ai 31 c #[aa 1,gI 6])) (bN (av (aa 5) (ai 31 c #[aa 2,aH .len #[aa 5]])))),aw (.one 6) (aG true #[aa 5,ak false .add (aG false #[bc #[ak false .mul (aG false #[gI 0]) (gI 40),ak false .mul (aG false #[gI 0]) (gI 40)]]) (aa 5)]),cS (.one 7) (cJ (gI 4)) #v[aw (.one 8) (aH (.list false) #[aa 5]),cS (.one 9) (cJ (ak false .add (gI 1) (ai 31 c #[aa 1,gI 2]))) #v[aw (.one 10) (ai 31 c #[aa 1,ak false .add (aH .len #[aa 8]) (gI 1)]),aw (.one 8) (ak false .add (ak false .add (bG false false true (aa 8) gN (aa 10)) (aG false #[ai 104 c #[aa 1,aa 3]])) (bG false true false (aa 8) (aa 10) gN))],iR (aa 6) (aa 8)],cS (.one 8) (dY (aa 6)) #v[aw (.one 11) (tQ #[aa 8]),aw (.one 12) (ai 57 c #[aa 8]),aL (cq (bB (ao (ai 40 c #[ai 102 c #[aa 3,aa 12],ai 103 c #[aa 3,aa 8]]))) (ao (az .ne (tQ #[aa 12]) (aa 11)))) rF aB],aw (.one 13) (ai 72 c #[aa 1,aa 3,gI 5]),cS (.one 8) (dY (aG false #[aa 5,av (aa 6) (dZ (gI 1)),aG false b9])) #v[aL (bB (ao (ai 40 c #[ai 102 c #[aa 13,ai 57 c #[aa 8]],ai 103 c #[aa 13,aa 8]]))) rF aB]],aD sD]
def cY (c:Call):GS:=#v[aw (.one 4) gN,aw (.one 5) gN,oJ #v[hX (.one 5) (cU 56 c #[aa 0,aa 1,aa 2,aa 3])] 6 #v[aw (.one 4) (aa 6)],aD (cT (ao (az .isN (aa 4) gN)) (aG false #[gS "told",aa 5]) (ai 75 c #[aa 4]))]
def vt (c:Call):GS:=#v[aw (.one 7) (az .ne (bL false 1 (.one 0) (dY (aa 6)) (ll (ao (az .notN (ai 90 c #[aa 1,aa 0]) gN)) (bN (gI 1)))) (aG false b9)),aL (cq (ao (aa 7)) (ao (az .ne (ai 44 c #[aa 0,av (aa 6) (gI 0)]) (ai 44 c #[aa 0,av (aa 6) (gI 1)])))) #v[aD (aG false #[gS "rule",aa 5])] aB]
def DM (c:Call):GS:=#v[aw (.one 8) (aa 2),cS (.tup [9,10]) (gr (aa 3)) #v[aw (.one 8) (ai 58 c #[aa 1,aa 8,aa 10]),aL (ao (az .isN (aa 8) gN)) #v[aD (aG false #[gS "step",aa 9])] aB],aD (aG false #[gS "told",aa 8])]
def du (c:Call):GS:=aC (aw (.one 4) (ai 90 c #[aa 0,aa 2])) (aC (aL (ao (az .notN (aa 4) gN)) #v[aD (aa 4)] aB) (aC (cS (.tup [5,6]) (gr (aa 1)) (vt c)) (DM c)))
def fR (c:Call):GS:=#v[aw (.one 3) (ai 31 c #[aa 0,gI 4]),aw (.one 4) (av (aG false #[dZ (gI 1),aH .len #[aa 1],ak false .pow (gI 10) (gI 20),ak false .sub (dZ (gI 1)) (aH .len #[aa 1])]) (ai 31 c #[aa 0,gI 4])),aw (.one 5) (av (aG false #[ak false .sub (ak false .sub (ai 31 c #[aa 0,ak false .add (ak false .mul (gI 2) (aH .len #[aa 2])) (gI 4)]) (aH .len #[aa 2])) (gI 2),ak false .pow (gI 10) (gI 20),gI 0,aH .len #[aa 2]]) (ai 31 c #[aa 0,gI 4])),aw (.one 6) (cT (ao (az .eq (aa 3) (gI 0))) (aa 4) (ai 31 c #[aa 0,yI #[gI 1,aH .len #[aa 1]]])),aD (bc #[aa 5,aa 6,az .eq (ai 31 c #[aa 0,gI 2]) (gI 1)])]
noncomputable def n5 (c:Call):GS:=#v[aw (.one 1) (ai 29 c #[aa 0]),cS (.one 2) (cJ (gI 4)) #v[aw (.one 3) (ai 34 c #[ai 30 c #[aa 1],gI 3,gI 2,gI 4]),aw (.one 4) (ai 49 c #[aa 1,aa 3]),aw (.one 5) (ak false .add (bL false 1 (.one 0) (cJ (ai 31 c #[aa 1,gI 5])) (bN (av (aa 5) (ai 31 c #[aa 2,aH .len #[aa 5]])))) (aG false #[av (aa 4) (dZ (gI 1))])),aw (.one 6) (ai 35 c #[aa 1,aa 3,av (aG false #[gI 6,gI 6,gI 3,gI 40]) (aa 2)]),aw (.one 7) (aG true b9),cS (.one 8) (cJ (gI 5)) #v[aw (.one 9) (bL false 1 (.one 0) (cJ (ak false .add (gI 1) (ai 31 c #[aa 1,gI 3]))) (bN (ai 108 c #[aa 2,aa 6,aa 7]))),iR (aa 7) (bc #[aa 3,aa 5,aa 6,aa 9])],aw (.one 10) (ak false .add (aa 6) (aG false #[ai 72 c #[aa 1,gI 0,gI 0]])),aw (.one 11) (ai 101 c #[aa 1,aa 3]),aw (.one 12) (cT (ao (az .isN (aa 11) gN)) (aa 5) (ak false .add (aa 5) (aG false #[aa 11]))),aw (.one 9) (aG false #[bc #[ak false .add (aH .len #[aa 6]) (gI 1),gI 0,sE]]),aw (.one 7) (ak true .add (aa 7) (aG false #[bc #[aa 3,aa 12,aa 6,aa 9],bc #[aa 3,aa 12,aa 10,aa 9],bc #[aa 3,aa 5,aa 10,aa 9]])),aw (.one 13) (ai 72 c #[aa 1,aa 3,gI 5]),aw (.one 14) (ai 31 c #[aa 1,ak false .add (aH .len #[aa 6]) (gI 1)]),aw (.one 7) (ak true .add (aa 7) (aG false #[bc #[aa 13,aa 12,aa 10,aa 9],bc #[aa 13,aa 5,aa 6,aG false b9],bc #[aa 13,aG false b9,aG false b9,aG false b9]])),aw (.one 7) (ak true .add (aa 7) (aG false #[bc #[aa 3,aa 5,aH .tuple #[aa 6],aG false b9],bc #[aa 3,aa 12,gN,aa 9],bc #[aa 13,aa 12,gS "",aa 9]])),iR (aa 7) (bc #[aa 3,aG false b9,aa 6,av (av (aa 7) (gI 0)) (gI 3)]),iR (aa 7) (bc #[aa 3,aa 12,ak false .add (ak false .add (ak false .add (bG false false true (aa 6) gN (aa 14)) (aG false #[ai 72 c #[aa 1,gI 0,gI 0]])) (bG false true false (aa 6) (aa 14) gN)) (aG false #[dZ (gI 1)]),aa 9]),cS (.tup [15,16,17,18]) (dY (aa 7)) #v[aw (.one 19) (aG false #[ai 57 c #[aa 16],cT (ao (bD .list (aa 17))) (aH (.list false) #[aa 17]) (aa 17),aH (.list false) #[aa 18]]),aw (.one 20) (ai 106 c #[aa 15,av (aa 19) (gI 0),av (aa 19) (gI 1),av (aa 19) (gI 2)]),aL (cq (bB (ao (ai 40 c #[aa 20,ai 107 c #[aa 15,aa 16,aa 17,aa 18]]))) (ao (az .ne (aa 19) (aG false #[aa 16,aa 17,aa 18])))) rF aB]],aD sD]
@[simp] theorem bo {h j:Type}{r:Res h}{f:h->Mem->Res j}{k:j->Mem->Prop}:ae (r.bind f) k↔ae r λa M=>ae (f a M) k:=by cases r<;>rfl
@[simp] theorem aZ {h:Type}{a:h}{k:h->Mem->Prop}:ae (.ok a M) k↔k a M:=Rl
@[simp] theorem QB {h:Type}{k:h->Mem->Prop}:ae (.bad:Res h) k↔False:=Rl
@[simp] theorem j0 {h:Type}{M:Mem}{o:Option h}{k:h->Mem->Prop}:ae (b8 M o) k↔∃a,o=some a/\k a M:=by cases o<;>simp[b8]
def ic {j:Type}{r:Res j}{k:j->Mem->Prop}:ae r k↔∃a M,r=.ok a M/\k a M:=by
 cases r with
 |ok a M=>exact{λh=>⟨a,M,rfl,h⟩,λ⟨_,_,e,h⟩=>by cases e;exact h}
 |err=>simp[ae]
 |bad=>simp[ae]
def nV (j:aE 64 (view M x)=true)(z:aE 64 (view M y)=true)(h:dt (view M x) (view M y)=v):br .eq x y M=some v:=by
 have e:qt (view M x) (view M y)=some v:=by unfold qt;rw[j,z,h];simp
 show mW M x y=_;unfold mW;rw[e]
def hJ (j:aE 64 (view M x)=true)(z:aE 64 (view M y)=true)(h:dt (view M x) (view M y)=v):br .ne x y M=some (!v):=by
 show(br .eq x y M).map (!·)=_;rw[nV j z h];rfl
section
variable{Z:Env}{M:Mem}{a b d lo hi:GE}{s:GA}{t u:GT}{k:D->Mem->Prop}{c:Call}
@[simp] theorem aK {i:Nat}:ae (aa i Z M) k↔∃d,Z[i]?.getD none=some d/\k d M:=by simp[aa]
@[simp] theorem cW {d:D}:ae (gC d Z M) k↔k d M:=Rl
@[simp] theorem cx {m:Bool}{o:oA}:ae (ak m o a b Z M) k↔ae (a Z M) λx M=>ae (b Z M) λy M=>ae (fM m o x y M) k:=by simp[ak]
@[simp] theorem dw {o:kj}:ae (az o a b Z M) k↔ae (a Z M) λx M=>ae (b Z M) λy M=>∃v,br o x y M=some v/\k (.bl v) M:=by simp[az]
@[simp] theorem QU {o h:kj}:ae (j8 o h a b d Z M) k↔ae (a Z M) λx M=>ae (b Z M) λy M=>∃v,br o x y M=some v/\if v=true then ae (d Z M) λz M=>∃v,br h y z M=some v/\k (.bl v) M else k (.bl false) M:=by
 simp only[j8,bo,j0];refine iff_of_eq ?_
 congr 1;funext x M;congr 1;funext y M;refine propext (exists_congr λv=>and_congr_right λ_=>?_)
 cases v<;>simp
@[simp] theorem Fz:ae (dZ a Z M) k↔ae (a Z M) λx M=>∃i,x=.int i/\k (.int (-i)) M:=by
 simp only[dZ,bo];refine iff_of_eq ?_;congr 1;funext x M;cases x<;>simp
set_option tactic.hygienic true in
@[simp] theorem FC:ae (dv a b Z M) k↔ae (a Z M) λx M=>∃v,x=.bl v/\if v=true then ae (b Z M) k else k (.bl false) M:=by
 simp only[dv,bo];refine iff_of_eq ?_;congr 1;funext x M;cases x<;>simp;rename_i v;cases v<;>simp
@[simp] theorem FA:ae (cT t a b Z M) k↔ae (t Z M) λv M=>if v=true then ae (a Z M) k else ae (b Z M) k:=by
 simp only[cT,bo];refine iff_of_eq ?_;congr 1;funext v M;cases v<;>simp
@[simp] theorem jI:ae (av a b Z M) k↔ae (a Z M) λx M=>ae (b Z M) λy M=>∃d,bP x y M=some d/\k d M:=by simp[av]
@[simp] theorem jc {m hl hh:Bool}:ae (bG m hl hh a lo hi Z M) k↔ae (a Z M) λx M=>ae (lo Z M) λl M=>ae (hi Z M) λh M=>cv hl l=true/\cv hh h=true/\ae (cM m x l h M) k:=by
 simp only[bG,bo];refine iff_of_eq ?_
 congr 1;funext x M;congr 1;funext l M;congr 1;funext h M
 cases cv hl l<;>cases cv hh h<;>simp
@[simp] theorem bf {k:List D->Mem->Prop}:ae (b9 Z M) k↔k [] M:=Rl
@[simp] theorem aS {k:List D->Mem->Prop}:ae (ix a s Z M) k↔ae (a Z M) λx M=>ae (s Z M) λxs M=>k (x::xs) M:=by simp[ix]
@[simp] theorem gu:ae (bc s Z M) k↔ae (s Z M) λxs M=>xs.length<=sz/\k (.tup xs) M:=by
 simp only[bc,bo];refine iff_of_eq ?_;congr 1;funext xs M;unfold lU;split<;>simp[*]
def uX {m:Bool}{xs:List D}:ae (bu m xs M) k↔xs.length<=sz/\if m=true then k (.cell M.length) (M++[xs]) else k (.lst xs) M:=by
 unfold bu;cases m<;>split<;>simp[*]
@[simp] theorem a9 {xs:List D}:ae (bu false xs M) k↔xs.length<=sz/\k (.lst xs) M:=by simp[uX]
@[simp] theorem iV {xs:List D}:ae (bu true xs M) k↔xs.length<=sz/\k (.cell M.length) (M++[xs]):=by simp[uX]
@[simp] theorem iy {m:Bool}:ae (aG m s Z M) k↔ae (s Z M) λxs M=>ae (bu m xs M) k:=by simp[aG]
@[simp] theorem iz {f:Nat}:ae (ai f c s Z M) k↔ae (s Z M) λds M=>ae (c f ds M) k:=by simp[ai]
@[simp] theorem xr {i:Nat}:ae (mT i c s Z M) k↔∃f,Z[i]?.getD none=some (.fn f)/\ae (s Z M) λds M=>ae (c f ds M) k:=by
 unfold mT;cases e:Z[i]?.getD none with
 |none=>simp
 |some d=>cases d<;>simp
@[simp] theorem cK {f:xK}:ae (aH f s Z M) k↔ae (s Z M) λds M=>ae (eQ f ds M) k:=by simp[aH]
@[simp] theorem Bm {t:Ty}:ae (bD t a Z M) k↔ae (a Z M) λx M=>∃v,bY t x=some v/\k (.bl v) M:=by simp[bD]
@[simp] theorem Bn {fs:List (Str×Nat)}:ae (lY fs a Z M) k↔ae (a Z M) λx M=>∃y f,x=.str y/\fs.lookup y=some f/\k (.fn f) M:=by
 simp only[lY,bo];refine iff_of_eq ?_;congr 1;funext x M;cases x<;>simp;exact{(by rintro⟨_,⟨f,h,e⟩,q⟩;exact{f,h,e ▸ q}),(by rintro⟨f,h,q⟩;exact{_,⟨f,h,rfl⟩,q})}
@[simp] theorem QP {fs:List (Str×Nat)}:ae (iw fs a Z M) k↔ae (a Z M) λx M=>∃y,x=.str y/\k (.bl (!(fs.lookup y).isSome)) M:=by
 simp only[iw,bo];refine iff_of_eq ?_;congr 1;funext x M;cases x<;>simp
set_option tactic.hygienic true in
@[simp] theorem HN {m:Bool}:ae (mS m a Z M) k↔ae (a Z M) λx M=>∃n,x=.int n/\(-(2^62)<=n/\n<2^20)/\ae (bu m ((List.range n.toNat).map λ(k:Nat)=>D.int (k:Int)) M) k:=by
 simp only[mS,bo];refine iff_of_eq ?_;congr 1;funext x M;cases x<;>simp;rename_i n;split<;>simp[*]
variable{kb:Bool->Mem->Prop}
@[simp] theorem eV:ae (ao a Z M) kb↔ae (a Z M) λx M=>∃v,kM M x=some v/\kb v M:=by simp[ao]
@[simp] theorem ED:ae (gU t u Z M) kb↔ae (t Z M) λv M=>if v=true then ae (u Z M) kb else kb false M:=by
 simp only[gU,bo];refine iff_of_eq ?_;congr 1;funext v M;cases v<;>simp
@[simp] theorem Ck:ae (cq t u Z M) kb↔ae (t Z M) λv M=>if v=true then kb true M else ae (u Z M) kb:=by
 simp only[cq,bo];refine iff_of_eq ?_;congr 1;funext v M;cases v<;>simp
@[simp] theorem pL:ae (bB t Z M) kb↔ae (t Z M) λv M=>kb (!v) M:=by simp[bB]
variable{kf:Fl->Mem->Prop}{sa sb:GS}
def gi (b:GS)(k:Fl->Mem->Prop):Fl->Mem->Prop
 |.next Z,M=>ae (b Z M) k
 |.ret d,M=>k (.ret d) M
 |.exc x Z,M=>k (.exc x Z) M
@[simp] theorem OA {b:GS}{x:D}:gi b kf (.exc x Z) M↔kf (.exc x Z) M:=Rl
@[simp] theorem cH {b:GS}:gi b kf (.next Z) M↔ae (b Z M) kf:=Rl
@[simp] theorem Cf {b:GS}{d:D}:gi b kf (.ret d) M↔kf (.ret d) M:=Rl
@[simp] theorem ay:ae (aC sa sb Z M) kf↔ae (sa Z M) (gi sb kf):=by
 simp only[aC,bo];refine iff_of_eq ?_;congr 1;funext fl M;cases fl<;>rfl
@[simp] theorem pQ:ae (aB Z M) kf↔kf (.next Z) M:=Rl
@[simp] theorem gD {i:Nat}:ae (aw (.one i) a Z M) kf↔ae (a Z M) λx M=>kf (.next (Z.set i (some x))) M:=by simp[aw,cy]
@[simp] theorem Al {l:List Nat}:ae (aw (.tup l) a Z M) kf↔ae (a Z M) λx M=>∃ds ρ1,x=.tup ds/\dA l ds Z=some ρ1/\kf (.next ρ1) M:=by
 simp only[aw,bo,j0,aZ];refine iff_of_eq ?_;congr 1;funext x M;cases x<;>simp[cy]
@[simp] theorem Ak:ae (fe a b d Z M) kf↔ae (d Z M) λz M=>ae (a Z M) λx M=>ae (b Z M) λy M=>∃j n ds i,x=.cell j/\y=.int n/\M[j]?=some ds/\bC ds.length n=some i/\kf (.next Z) (M.set j (ds.set i z)):=by
 simp only[fe,bo];refine iff_of_eq ?_
 congr 1;funext z M;congr 1;funext x M;congr 1;funext y M
 cases x with
 | cell j=>
   cases y with
   | int n=>
     cases e:M[j]? with
     |none=>simp[e]
     | some ds=>
       cases e2:bC ds.length n with
       |none=>simp[e,e2]
       |some i=>simp[e,e2]
   |_=>simp
 |_=>simp
set_option tactic.hygienic true in
@[simp] theorem pR:ae (iR a d Z M) kf↔ae (a Z M) λx M=>ae (d Z M) λz M=>∃j ds,x=.cell j/\M[j]?=some ds/\ds.length<sz/\kf (.next Z) (M.set j (ds++[z])):=by
 simp only[iR,bo];refine iff_of_eq ?_
 congr 1;funext x M;congr 1;funext z M
 cases x<;>simp;rename_i j;cases e:M[j]? with
 |none=>simp
 |some ds=>by_cases h:ds.length<sz<;>simp[h]
@[simp] theorem cu:ae (aD a Z M) kf↔ae (a Z M) λx M=>kf (.ret x) M:=by simp[aD]
@[simp] theorem P4:ae (EJ Z M) kf↔kf (.ret .non) M:=Rl
@[simp] theorem P5:ae (EK Z M) kf↔kf (.next Z) M:=Rl
@[simp] theorem Qt:ae (OO Z M) kf↔False:=Rl
@[simp] theorem hU:ae (aL t sa sb Z M) kf↔ae (t Z M) λv M=>if v=true then ae (sa Z M) kf else ae (sb Z M) kf:=by
 simp only[aL,bo];refine iff_of_eq ?_;congr 1;funext v M;cases v<;>simp
variable{kw:Walk->Mem->Prop}
set_option tactic.hygienic true in
@[simp] theorem fD:ae (cJ a Z M) kw↔ae (a Z M) λx M=>∃n,x=.int n/\(-(2^62)<=n/\n<2^62)/\kw (λ_=>some ((List.range n.toNat).map λ(k:Nat)=>D.int (k:Int))) M:=by
 simp only[cJ,bo];refine iff_of_eq ?_;congr 1;funext x M;cases x<;>simp;rename_i n;split<;>simp[*]
@[simp] theorem lF:ae (dY a Z M) kw↔ae (a Z M) λx M=>dN x=true/\kw (λM=>b7 M x) M:=by
 simp only[dY,bo];refine iff_of_eq ?_;congr 1;funext x M;cases x<;>simp[dN]<;>rfl
@[simp] theorem fE:ae (gr a Z M) kw↔ae (a Z M) λx M=>dN x=true/\kw (λM=>(b7 M x).map (dH 0)) M:=by
 simp only[gr,bo];refine iff_of_eq ?_;congr 1;funext x M;split<;>simp[*]
@[simp] theorem IK:ae (nK a b Z M) kw↔ae (a Z M) λx M=>ae (b Z M) λy M=>(dN x&&dN y)=true/\kw (pG x y) M:=by
 simp only[nK,bo];refine iff_of_eq ?_;congr 1;funext x M;congr 1;funext y M;split<;>simp[*]
def fL (k:D->Mem->Prop):Fl->Mem->Prop
 |.ret d,M=>k d M
 |.next _,M=>k .non M
 |.exc _ _,_=>False
@[simp] theorem P9 {d:D}:fL k (.ret d) M↔k d M:=Rl
@[simp] theorem Pu:fL k (.next Z) M↔k .non M:=Rl
def aq {d:Df}{ds:List D}(e:P f=some d)(hl:ds.length=d.params)(h:ae (d.body (ah P n) (ds.map some++List.replicate (d.slots-ds.length) none) M) (fL k)):ae (ah P (n+1) f ds M) k:=by
 show ae (match P f with|none=>Res.bad|some d=>gW (ah P n) d ds M) k
 rw[e];show ae (gW (ah P n) d ds M) k;unfold gW;rw[if_pos hl];revert h;cases d.body (ah P n) (ds.map some++List.replicate (d.slots-ds.length) none) M with
 |ok fl M=>cases fl<;>exact id
 |err=>exact id
 |bad=>exact id
@[simp] theorem QC {h:Type}{a:h}{k:h->Mem->Prop}{j:D->Mem->Prop}:iJ (.ok a M) k j↔k a M:=Rl
@[simp] theorem P7 {h:Type}{x:D}{k:h->Mem->Prop}:iJ (.err x M:Res h) k kx↔kx x M:=Rl
def yM (k h:D->Mem->Prop):Fl->Mem->Prop
 |.ret d,M=>k d M
 |.next _,M=>k .non M
 |.exc x _,M=>h x M
def eP {d:Df}{j:D->Mem->Prop}(e:P f=some d)(hl:ds.length=d.params)(h:ae (d.body (ah P n) (ds.map some++List.replicate (d.slots-ds.length) none) M) (yM k j)):iJ (ah P (n+1) f ds M) k j:=by
 show iJ (match P f with|none=>Res.bad|some d=>gW (ah P n) d ds M) k j
 rw[e];show iJ (gW (ah P n) d ds M) k j;unfold gW;rw[if_pos hl];revert h;cases d.body (ah P n) (ds.map some++List.replicate (d.slots-ds.length) none) M with
 |ok fl M=>cases fl<;>exact id
 |err=>exact id
 |bad=>exact id
def fo {j:Type}{r:Res j}{x:D}{M':Mem}(h:iJ r (λ_ _=>False) λy M=>y=x/\M=M'):r=.err x M':=by
 cases r with
 |ok=>exact h.elim
 |err y M=>obtain⟨rfl,rfl⟩:=h;rfl
 |bad=>exact h.elim
@[simp] theorem QN {d:D}{h:D->Mem->Prop}:yM k h (.ret d) M↔k d M:=Rl
@[simp] theorem P8 {h:D->Mem->Prop}:yM k h (.next Z) M↔k .non M:=Rl
@[simp] theorem QO:yM k kx (.exc x Z) M↔kx x M:=Rl
@[simp] theorem dJ {f:Nat}:iJ (cU f c s Z M) k kx↔ae (s Z M) λds M=>iJ (c f ds M) k kx:=by
 unfold cU;cases s Z M<;>rfl
@[simp] theorem fG:ae (hV a Z M) kf↔iJ (a Z M) (λ_ M=>kf (.next Z) M) (λx M=>kf (.exc x Z) M):=by
 unfold hV;cases a Z M<;>rfl
@[simp] theorem wG {i:Nat}:ae (hX (.one i) a Z M) kf↔iJ (a Z M) (λx M=>kf (.next (Z.set i (some x))) M) (λx M=>kf (.exc x Z) M):=by
 unfold hX;cases a Z M<;>rfl
@[simp] theorem OM {i:Nat}:ae (jX i s Z M) kf↔ae (s Z M) λds M=>ds.length<=sz/\kf (.exc (.exc i none) Z) M:=by
 unfold jX;cases s Z M with
 |ok ds j=>by_cases h:ds.length<=sz<;>simp[h]
 |err=>exact Rl
 |bad=>exact Rl
def Lp (i:Nat)(kf:Fl->Mem->Prop):Fl->Mem->Prop
 |.next Z,M=>kf (.next (Z.set i none)) M
 |.ret d,M=>kf (.ret d) M
 |.exc _ _,_=>False
def Ox (i:Nat)(h:GS)(kf:Fl->Mem->Prop):Fl->Mem->Prop
 |.exc x Z,M=>ae (h (Z.set i (some x)) M) (Lp i kf)
 |fl,M=>kf fl M
set_option tactic.hygienic true in
@[simp] theorem Aj {i:Nat}{h:GS}:ae (oJ sa i h Z M) kf↔ae (sa Z M) (Ox i h kf):=by
 simp only[oJ,bo];refine iff_of_eq ?_;congr 1;funext fl M;cases fl with
 | exc x Z=>
   show ae ((h (Z.set i (some x)) M).bind (II i)) kf=ae (h (Z.set i (some x)) M) (Lp i kf);simp only[bo];congr 1;funext fl M;cases fl<;>rfl
 |next Z=>rfl
 |ret d=>rfl
def D2 (k1 k2:Nat)(h:GS)(kf:Fl->Mem->Prop):Fl->Mem->Prop
 |.exc x Z,M=>∃c p,x=.exc c p/\(c=k1\/c=k2)/\ae (h Z M) (λfl M=>match fl with|.exc _ _=>False|fl=>kf fl M)
 |fl,M=>kf fl M
set_option tactic.hygienic true in
@[simp] theorem ON {k1 k2:Nat}{h:GS}:ae (mB sa k1 k2 h Z M) kf↔ae (sa Z M) (D2 k1 k2 h kf):=by
 simp only[mB,bo];refine iff_of_eq ?_;congr 1;funext fl M;cases fl with
 | exc x Z=>
   cases x with
   | exc c p=>
     by_cases j:c=k1\/c=k2
     ·have e:mw k1 k2 h (.exc (.exc c p) Z) M=(h Z M).bind λfl M=>match fl with|.exc _ _=>.bad|fl=>.ok fl M:=if_pos j
      rw[e];simp only[bo];refine propext {λz=>{c,p,rfl,j,aA z λfl M q=>?_},λ⟨_,_,e,_,z⟩=>?_}
      ·cases fl with
       |exc=>exact q.elim
       |next=>exact q
       |ret=>exact q
      ·refine aA z λfl M q=>?_;cases fl with
       |exc=>exact q.elim
       |next=>exact q
       |ret=>exact q
     ·have e:mw k1 k2 h (.exc (.exc c p) Z) M=.bad:=if_neg j;rw[e];exact propext {λz=>z.elim,λ⟨_,_,e,z,_⟩=>by cases e;exact absurd z j}
   |_=>exact propext {λz=>z.elim,(by rintro⟨_,_,e,_⟩;cases e)}
 |next Z=>rfl
 |ret d=>rfl
def eM {v:Type}{f:v->D->Mem->Res v}{w:Walk}{ds:List D}{a:v}{k:v->Mem->Prop}(I:Nat->v->Mem->Prop)(E:∀i a M,I i a M->w M=some ds)(B:I 0 a M)
 (hs:∀i d a M,ds[i]?=some d->I i a M->ae (f a d M) (I (i+1))) (hk:∀a M,I ds.length a M->k a M):ae (dU f w a M) k:=by
 have z:∀(m i:Nat) (a:v) (M:Mem),ds.length-i<m->i<=ds.length->I i a M->ae (gL f w m i a M) k:=by
  intro m;induction m with
  |zero=>intro i a M h;exact absurd h (Nat.not_lt_zero _)
  | succ m L=>
    intro i a M h hi y;show ae (match w M with|none=>Res.bad|some ds=>match ds[i]? with|none=>Res.ok a M|some d=>(f a d M).bind (gL f w m (i+1))) k
    rw[E i a M y];dsimp only;by_cases j:i<ds.length
    ·rw[QA j];simp only[bo];exact aA (hs i ds[i] a M (QA j) y) λH F J=>L (i+1) H F `a j J
    ·have e:i=ds.length:=`a
     subst e;rw[RG (Qo _)];exact hk a M y
 unfold dU;rw[E 0 a M B];exact z _ 0 a M `s (RN _) B
def cV {t:gG}{w:Walk}{v:GS}{ds:List D}(I:Nat->Env->Mem->Prop)(z:∀i Z M,I i Z M->w M=some ds)(y:I 0 Z M)
 (hs:∀i d Z M,ds[i]?=some d->I i Z M->∃ρ1,cy t d Z=some ρ1/\ae (v ρ1 M) λfl M=>∃ρ',fl=.next ρ'/\I (i+1) ρ' M) (hk:∀Z M,I ds.length Z M->kf (.next Z) M):ae (dU (i8 t v) w (.next Z) M) kf:=by
 refine eM (λi fl M=>∃Z,fl=.next Z/\I i Z M) ((by rintro i fl M ⟨Z,_,h⟩;exact z i Z M h)) ⟨Z,rfl,y⟩ ?_ ?_
 ·rintro i d fl M hd ⟨Z,rfl,j⟩;obtain⟨ρ1,e,h⟩:=hs i d Z M hd j;simp only[i8,bo,j0,e];exact⟨ρ1,rfl,h⟩
 ·rintro fl M ⟨Z,rfl,j⟩;exact hk Z M j
@[simp] theorem cP {j:gG}{w:GW}{h:GS}:ae (cS j w h Z M) kf↔ae (w Z M) λw M=>ae (dU (i8 j h) w (.next Z) M) kf:=by simp[cS]
@[simp] theorem fi {m:Bool}{n:Nat}{h:gG}{w:GW}{g:GB}:ae (bL m n h w g Z M) k↔ae (w Z M) λw M=>ae (dU (dW h g (List.replicate n none++Z)) w [] M) λacc M=>ae (bu m acc M) k:=by simp[bL]
variable{kl:List D->Mem->Prop}
@[simp] theorem FP {ge:GE}{acc:List D}:ae (bN ge Z acc M) kl↔ae (ge Z M) λx M=>acc.length<sz/\kl (acc++[x]) M:=by
 simp only[bN,bo];refine iff_of_eq ?_;congr 1;funext x M;split<;>simp[*]
def comp_map {v:gG}{w:Walk}{ge:GE}{ds:List D}{j:Env}(I:Nat->List D->Mem->Prop)(hz:ds.length<=sz)(B:∀i acc M,I i acc M->w M=some ds)(y:I 0 [] M)
 (hs:∀i d acc M,ds[i]?=some d->acc.length=i->I i acc M->∃ρ1,cy v d j=some ρ1/\ae (ge ρ1 M) λx M=>I (i+1) (acc++[x]) M) (hk:∀acc M,acc.length=ds.length->I ds.length acc M->kl acc M) :
 ae (dU (dW v (bN ge) j) w [] M) kl:=by
 refine eM (λi acc M=>acc.length=i/\I i acc M) (λi acc M h=>B i acc M h.2) ⟨rfl,y⟩ ?_ (λacc M h=>hk acc M h.1 h.2);rintro i d acc M hd ⟨hl,z⟩;obtain⟨ρ1,e,h⟩:=hs i d acc M hd hl z;have hi:i<ds.length:=(Qg.mp hd).1;simp only[dW,bo,j0,e,FP];exact{ρ1,rfl,aA h λx M h=>{`a,by simp[hl],h}}
end
def ax {M:Mem}(j:t Z M=.ok false M)(h:ae (rest Z M) k):ae (aC (aL t A aB) rest Z M) k:=by
 simp only[ay,hU];rw[j];exact h
def bt {k:Fl->Mem->Prop}(j:t Z M=.ok true M)(he:e Z M=.ok v M)(h:k (.ret v) M):ae (aC (aL t #v[aD e] aB) rest Z M) k:=by
 simp only[ay,hU,cu];rw[j];show ae (e Z M) _;rw[he];exact h
def bp {v:D}(he:e Z M=.ok v M)(h:k (.ret v) M):ae (#v[aD e] Z M) k:=by
 simp only[ay,cu];rw[he];exact h
def cQ (e:r=.ok (.ret v) M):ae r (fL λx M'=>x=v/\M'=M):=by rw[e];exact⟨rfl,rfl⟩
structure HasB0 (P:Nat->Option Df):Prop where
 is_between:P 0=some {3,3,f5}
 is_word:P 1=some {2,2,jr}
 is_place:P 2=some {2,2,iC}
 is_cost:P 3=some {1,1,js}
 is_tuple_of:P 4=some {2,2,fH}
 is_table:P 5=some {2,2,iB}
 is_double_table:P 6=some {2,2,dS}
 is_turn:P 7=some {3,6,fX}
 is_join:P 8=some {3,7,fZ}
 is_move:P 9=some {3,6,fY}
 is_put:P 10=some {3,6,gY}
 is_deed:P 11=some {3,5,d8}
 is_machine:P 12=some {1,4,iD}
 need_machine:P 13=some {1,1,dE}
structure HasM0 (P:Nat->Option Df):Prop extends HasB0 P where
 is_deed_number:P 16=some {2,2,fB}
 need_numbers:P 17=some {2,4,cz}
 need_row:P 18=some {2,2,d3}
structure HasM (P:Nat->Option Df):Prop extends HasM0 P where
 turned:P 20=some {2,6,l9}
 joined:P 21=some {2,7,mf}
 moved:P 22=some {2,6,n4}
 put_in:P 23=some {2,6,ma}
 done:P 24=some {2,4,qA}
 all_standing:P 25=some {3,5,i6}
structure HasP0 (P:Nat->Option Df):Prop where
 law_spread:P 28=some {2,6,ml}
 law_open:P 29=some {1,4,kT}
 law_anew:P 30=some {1,1,kU}
 law_take:P 31=some {2,5,oy}
structure HasP (P:Nat->Option Df):Prop extends HasP0 P where
 law_tab:P 32=some {2,6,jK}
 law_deed:P 33=some {3,7,jf}
 law_machine:P 34=some {4,8,gv}
instance coeHasB0 {P:Nat->Option Df}:Coe (HasM0 P) (HasB0 P):=⟨HasM0.toHasB0⟩
instance coeHasBM {P:Nat->Option Df}:Coe (HasM P) (HasB0 P):={λh=>h.toHasM0.toHasB0}
structure tY (P:Nat->Option Df):Prop where
 turned:P 20=some {2,6,l9}
 joined:P 21=some {2,7,mf}
 moved:P 22=some {2,6,n4}
 put_in:P 23=some {2,6,ma}
 done:P 24=some {2,4,qA}
def HasM.r {P:Nat->Option Df}(h:HasM P):tY P:=⟨h.turned,h.joined,h.moved,h.put_in,h.done⟩
instance coeHasR0 {P:Nat->Option Df}:Coe (HasM P) (tY P):=⟨HasM.r⟩
instance coeHasM {P:Nat->Option Df}:Coe (HasM P) (HasM0 P):=⟨HasM.toHasM0⟩
instance coeHasP {P:Nat->Option Df}:Coe (HasP P) (HasP0 P):=⟨HasP.toHasP0⟩
@[simp] theorem QT {d:Option D}{r:Env}:(d::r)[0]?.getD none=d:=rfl
section
variable{M:Mem}{k:D->Mem->Prop}
def la {j:Type}{c:Prop}[Decidable c]{r:Res j}{k:j->Mem->Prop}:ae (if c then r else .bad) k↔c/\ae r k:=by split<;>simp[*]
@[simp] theorem iG {m:Bool}{i j:Int}:ae (fM m .add (.int i) (.int j) M) k↔k (.int (i+j)) M:=Rl
@[simp] theorem mx {m:Bool}{i j:Int}:ae (fM m .sub (.int i) (.int j) M) k↔k (.int (i-j)) M:=Rl
@[simp] theorem KA {m:Bool}{i j:Int}:ae (fM m .mul (.int i) (.int j) M) k↔((-(2^64)<i/\i<2^64)\/(-(2^64)<j/\j<2^64))/\k (.int (i*j)) M:=la
@[simp] theorem QE {m:Bool}{i j:Int}:ae (fM m .mod (.int i) (.int j) M) k↔0<j/\k (.int (i % j)) M:=la
@[simp] theorem Qa {m:Bool}{i j:Int}:ae (fM m .fdiv (.int i) (.int j) M) k↔(0<j/\j<1073741824)/\k (.int (i / j)) M:=la
@[simp] theorem qC {m:Bool}{x y:List D}:ae (fM m .add (.tup x) (.tup y) M) k↔(x++y).length<=sz/\k (.tup (x++y)) M:=by
 show ae (lU _ _) k↔_;unfold lU;exact la
@[simp] theorem ju {m:Bool}{x y:List D}:ae (fM m .add (.lst x) (.lst y) M) k↔ae (bu m (x++y) M) k:=Rl
@[simp] theorem Qb {i j:Int}:br .lt (.int i) (.int j) M=some (decide (i<j)):=rfl
@[simp] theorem Qc {i j:Int}:br .le (.int i) (.int j) M=some (decide (i<=j)):=rfl
@[simp] theorem Qd {i j:Int}:br .gt (.int i) (.int j) M=some (decide (j<i)):=rfl
@[simp] theorem Qe {i j:Int}:br .ge (.int i) (.int j) M=some (decide (j<=i)):=rfl
@[simp] theorem QV {i j:Int}:br .eq (.int i) (.int j) M=some (i==j):=rfl
@[simp] theorem NN {i j:Int}:br .ne (.int i) (.int j) M=some (!(i==j)):=rfl
@[simp] theorem Ql {b:Bool}:kM M (.bl b)=some b:=rfl
@[simp] theorem PY {ds:List D}:kM M (.tup ds)=some (!ds.isEmpty):=rfl
@[simp] theorem PZ {ds:List D}:kM M (.lst ds)=some (!ds.isEmpty):=rfl
@[simp] theorem xg {ds:List D}:ae (eQ .len [.tup ds] M) k↔k (.int ds.length) M:=Rl
@[simp] theorem Hx {ds:List D}:ae (eQ .len [.lst ds] M) k↔k (.int ds.length) M:=Rl
@[simp] theorem Iu {ds:List D}:ae (eQ .all [.lst ds] M) k↔∃bs,boolsOf ds=some bs/\k (.bl (bs.all id)) M:=by
 show ae (match boolsOf ds with|some bs=>_|none=>_) k↔_
 cases boolsOf ds<;>simp
@[simp] theorem N2 {ds:List D}:ae (eQ .tuple [.lst ds] M) k↔k (.tup ds) M:=Rl
@[simp] theorem pI {j:Nat}:ae (eQ .tuple [.cell j] M) k↔∃ds,M[j]?=some ds/\k (.tup ds) M:=by
 show ae (match M[j]? with|some xs=>_|none=>_) k↔_
 cases M[j]?<;>simp
@[simp] theorem j6 {m:Bool}{ds:List D}:ae (eQ (.list m) [.lst ds] M) k↔ae (bu m ds M) k:=Rl
@[simp] theorem jQ {ds:List D}{i:Int}:bP (.tup ds) (.int i) M=(bC ds.length i).bind λj=>ds[j]?:=rfl
@[simp] theorem HE {ds:List D}{i:Int}:bP (.lst ds) (.int i) M=(bC ds.length i).bind λj=>ds[j]?:=rfl
@[simp] theorem Po {j:Nat}{i:Int}:bP (.cell j) (.int i) M=(M[j]?).bind λds=>(bC ds.length i).bind λj=>ds[j]?:=rfl
def dI {n i:Nat}(h:i<n):bC n (i:Int)=some i:=by
 unfold bC;rw[if_pos (Int.natCast_nonneg i),if_pos (by exact_mod_cast h)];rfl
def HB {n:Nat}(h:0<n):bC n (-1)=some (n-1):=by
 unfold bC;rw[if_neg `a,if_pos `a]
 congr 1;omega
end
def aR {j:Type}{r:Res j}{d:j}{M:Mem}(h:ae r λx M'=>x=d/\M'=M):r=.ok d M:=by
 obtain⟨a,M',e,rfl,rfl⟩:=ic.mp h;exact e
def aj {r:Res D}{d:D}{M:Mem}(h:ae r λx M'=>x=d/\M'=M):r=.ok d M:=by
 obtain⟨a,M',e,rfl,rfl⟩:=ic.mp h;exact e
section
variable{P:Nat->Option Df}(h:HasB0 P){M:Mem}
include h
theorem dX (n:Nat)(t lo hi:Int):ah P (n+1) 0 [.int t,.int lo,.int hi] M=.ok (.bl (decide (lo<=t)&&decide (t<=hi))) M:=by
 refine aj (aq h.is_between rfl ?_);simp[f5,bY];by_cases h1:lo<=t<;>simp[h1]<;>omega
end
def fW {z:gG}{w:Walk}{ge:GE}{ds:List D}{u:Env}{M:Mem}{y:List D->Mem->Prop}(f:D->D)(hz:ds.length<=sz)(B:w M=some ds)(hs:∀d∈ds,∃ρ1,cy z d u=some ρ1/\ge ρ1 M=.ok (f d) M)(hk:y (ds.map f) M) :
 ae (dU (dW z (bN ge) u) w [] M) y:=by
 refine comp_map (λi j v=>v=M/\j=(ds.take i).map f) hz (λi j v h=>by rw[h.1];exact B) ⟨rfl,rfl⟩ ?_ ?_
 ·rintro i d j v hd _ ⟨rfl,rfl⟩;obtain⟨ρ1,e1,e2⟩:=hs d (QG hd);refine{ρ1,e1,?_};rw[e2];refine{rfl,?_};have E:i<ds.length:=(Qg.mp hd).1;rw[RC,hd];simp
 ·rintro j v _ ⟨rfl,rfl⟩;simpa using hk
def yY {ds:List D}(h:∀d∈ds,d=.bl true):∃bs,boolsOf ds=some bs/\bs.all id=true:=by
 induction ds with
 |nil=>exact{[],rfl,rfl}
 | cons d r j=>
   obtain⟨bs,e,q⟩:=j λd hd=>h d (Qm _ hd);obtain rfl:=h d Qv;exact{true::bs,by simp[boolsOf,e],by simpa using q}
def pB {u:gG}{ge:GE}{w:Walk}{ds:List D}{j:Env}{M:Mem}(hz:ds.length<=sz)(v:w M=some ds)(he:∀d∈ds,∃ρ1,cy u d j=some ρ1/\ge ρ1 M=.ok (.bl true) M) :
 ae (dU (dW u (bN ge) j) w [] M) λacc M'=>acc.length<=sz/\∃bs,boolsOf acc=some bs/\¬ false∈bs/\M'=M:=by
 refine fW (λ_=>.bl true) hz v he ?_;obtain⟨bs,y,B⟩:=yY (ds:=ds.map λ_=>D.bl true) `s
 refine{by simpa using hz,bs,y,λz=>?_,rfl}
 have:=Qq.mp B false z;cases this
abbrev nD (n:Nat):D:=.int (n:Int)
def aJ (l:List Nat):D:=.tup (l.map nD)
inductive bb where
 |turn (at_:Nat) (tab:List Nat) (cost:Nat)
 |join (at_ other:Nat) (tab:List (List Nat)) (cost:Nat)
 |move (at_ other cost:Nat)
 |put (at_ word cost:Nat)
def bb.d:bb->D
 |.turn a t c=>.tup [.str "turn",nD a,aJ t,nD c]
 |.join a o t c=>.tup [.str "join",nD a,nD o,.tup (t.map aJ),nD c]
 |.move a o c=>.tup [.str "move",nD a,nD o,nD c]
 |.put a w c=>.tup [.str "put",nD a,nD w,nD c]
noncomputable def bb.cost:bb->Nat
 |.turn _ _ c=>c
 |.join _ _ _ c=>c
 |.move _ _ c=>c
 |.put _ _ c=>c
structure ba where
 words:Nat
 places:Nat
 deeds:List bb
noncomputable def ba.d (m:ba):D:=.tup [nD m.words,nD m.places,.tup (m.deeds.map bb.d)]
def fT (w:Nat)(t:List Nat):Prop:=t.length=w/\∀x∈t,x<w
def eL (c:Nat):Prop:=1<=c/\c<=3
def bQ (w p:Nat):bb->Prop
 |.turn a t c=>a<p/\fT w t/\eL c
 |.join a o t c=>a<p/\o<p/\(t.length=w/\∀x∈t,fT w x)/\eL c
 |.move a o c=>a<p/\o<p/\eL c
 |.put a x c=>a<p/\x<w/\eL c
structure bh (m:ba):Prop where
 w2:2<=m.words
 w4:m.words<=4
 p1:1<=m.places
 p2:m.places<=2
 d1:1<=m.deeds.length
 d6:m.deeds.length<=6
 ok:∀d∈m.deeds,bQ m.words m.places d
def au {n:Nat}(h:n<=100000):n<=sz:=Qs h `d
section
variable{P:Nat->Option Df}(h:HasB0 P){M:Mem}
include h
theorem wx (n:Nat){w t:Nat}(j:t<w):ah P (n+2) 1 [nD w,nD t] M=.ok (.bl true) M:=by
 refine aj (aq h.is_word rfl ?_);simp[jr,dX h];omega
theorem iO (n:Nat){w t:Nat}(j:t<w):ah P (n+2) 2 [nD w,nD t] M=.ok (.bl true) M:=by
 refine aj (aq h.is_place rfl ?_);simp[iC,dX h];omega
theorem lL (n:Nat){c:Nat}(j:eL c):ah P (n+2) 3 [nD c] M=.ok (.bl true) M:=by
 unfold eL at j;refine aj (aq h.is_cost rfl ?_);simp[js,dX h];omega
theorem oF (n:Nat){w:Nat}{ds:List D}(j:ds.length=w):ah P (n+1) 4 [nD w,.tup ds] M=.ok (.bl true) M:=by
 refine aj (aq h.is_tuple_of rfl ?_);simp[fH,bY,j]
theorem uq (n:Nat){w:Nat}{t:List Nat}(v:w<=4)(j:fT w t):ah P (n+3) 5 [nD w,aJ t] M=.ok (.bl true) M:=by
 refine aj (aq h.is_table rfl ?_);have e:ah P (n+2) 4 [nD w,aJ t] M=.ok (.bl true) M:=oF h (n+1) (by simpa using j.1)
 simp[iB,e];refine{rfl,pB (au (by simp[j.1];omega)) rfl λd hd=>?_}
 obtain⟨x,u,rfl⟩:=QS.mp hd;refine{_,rfl,aj ?_};simp[wx h n (j.2 x u)]
theorem zY (n:Nat){w:Nat}{t:List (List Nat)}(u:w<=4)(j:t.length=w/\∀x∈t,fT w x):ah P (n+4) 6 [nD w,.tup (t.map aJ)] M=.ok (.bl true) M:=by
 refine aj (aq h.is_double_table rfl ?_);have e:ah P (n+3) 4 [nD w,.tup (t.map aJ)] M=.ok (.bl true) M:=oF h (n+2) (by simpa using j.1)
 simp[dS,e];refine{rfl,pB (au (by simp[j.1];omega)) rfl λd hd=>?_}
 obtain⟨x,v,rfl⟩:=QS.mp hd;refine{_,rfl,aj ?_};simp[uq h n u (j.2 x v)]
theorem Gw (n:Nat){w p a c:Nat}{t:List Nat}(j:w<=4)(hd:bQ w p (.turn a t c)):ah P (n+4) 7 [nD w,nD p,.tup [nD a,aJ t,nD c]] M=.ok (.bl true) M:=by
 obtain⟨h1,h2,h3⟩:=hd;refine aj (aq h.is_turn rfl ?_);simp[fX,dA,iO h (n+1) h1,uq h n j h2,lL h (n+1) h3]
theorem GF (n:Nat){w p a o c:Nat}{t:List (List Nat)}(j:w<=4)(hd:bQ w p (.join a o t c)):ah P (n+5) 8 [nD w,nD p,.tup [nD a,nD o,.tup (t.map aJ),nD c]] M=.ok (.bl true) M:=by
 obtain⟨h1,h2,h3,h4⟩:=hd;refine aj (aq h.is_join rfl ?_);simp[fZ,dA,iO h (n+2) h1,iO h (n+2) h2,zY h n j h3,lL h (n+2) h4]
theorem GC (n:Nat){w p a o c:Nat}(hd:bQ w p (.move a o c)):ah P (n+3) 9 [nD w,nD p,.tup [nD a,nD o,nD c]] M=.ok (.bl true) M:=by
 obtain⟨h1,h2,h3⟩:=hd;refine aj (aq h.is_move rfl ?_);simp[fY,dA,iO h n h1,iO h n h2,lL h n h3]
theorem Gy (n:Nat){w p a x c:Nat}(hd:bQ w p (.put a x c)):ah P (n+3) 10 [nD w,nD p,.tup [nD a,nD x,nD c]] M=.ok (.bl true) M:=by
 obtain⟨h1,h2,h3⟩:=hd;refine aj (aq h.is_put rfl ?_);simp[gY,dA,iO h n h1,wx h n h2,lL h n h3]
end
def KS:di.lookup (Str.ofString "turn")=some 7:=`k
def KR:di.lookup (Str.ofString "join")=some 8:=`k
def KQ:di.lookup (Str.ofString "move")=some 9:=`k
def KP:di.lookup (Str.ofString "put")=some 10:=`k
section
variable{P:Nat->Option Df}(h:HasB0 P){M:Mem}
include h
theorem tR (n:Nat){w p f:Nat}{s:Str}{ds:List D}(lk:di.lookup s=some f)(q:ah P (n+5) f [nD w,nD p,.tup ds] M=.ok (.bl true) M):ah P (n+6) 11 [nD w,nD p,.tup (.str s::ds)] M=.ok (.bl true) M:=by
 refine aj (aq h.is_deed rfl ?_);simp[-List.lookup_isSome_iff,d8,bY,bC,lk,cM,aM,cv,cut,q]
theorem GI (n:Nat){w p:Nat}{d:bb}(j:w<=4)(hd:bQ w p d):ah P (n+6) 11 [nD w,nD p,d.d] M=.ok (.bl true) M:=by
 cases d with
 |turn a t c=>exact tR h n KS (Gw h (n+1) j hd)
 |join a o t c=>exact tR h n KR (GF h n j hd)
 |move a o c=>exact tR h n KQ (GC h (n+2) hd)
 |put a x c=>exact tR h n KP (Gy h (n+2) hd)
theorem GD (n:Nat){m:ba}(hm:bh m):ah P (n+7) 12 [m.d] M=.ok (.bl true) M:=by
 refine aj (aq h.is_machine rfl ?_);have e:ah P (n+6) 4 [.int 3,.tup [nD m.words,nD m.places,.tup (m.deeds.map bb.d)]] M=.ok (.bl true) M:=oF h (n+5) rfl;have l1:=hm.d1;have y:=hm.d6;have j:(decide ((2:Int)<=(m.words:Int))&&decide ((m.words:Int)<=4))=true:=by have:=hm.w2;have:=hm.w4;simp;omega
 have u:(decide ((1:Int)<=(m.places:Int))&&decide ((m.places:Int)<=2))=true:=by have:=hm.p1;have:=hm.p2;simp;omega
 simp only[Qh,decide_eq_true_eq] at j u;simp[iD,ba.d,e,dA,dX h,j,u,bY];refine{`a,`a,rfl,pB (au `o) rfl λd hd=>?_}
 obtain⟨x,v,rfl⟩:=QS.mp hd;refine{_,rfl,aj ?_};simp[GI h n hm.w4 (hm.ok x v)]
end
section
variable{Z:Env}{M:Mem}{a b:GE}{s:GA}{k:D->Mem->Prop}{kf:Fl->Mem->Prop}{t u:GT}{A rest:GS}
def aV {t rest:GS}{ρ':Env}(e:t Z M=.ok (.next ρ') M)(h:ae (rest ρ' M) kf):ae (aC t rest Z M) kf:=by
 simp only[ay];rw[e];exact h
def af {x:D}{xs:List D}(h:a Z M=.ok x M)(es:s Z M=.ok xs M):ix a s Z M=.ok (x::xs) M:=by
 unfold ix;rw[h];show(s Z M).bind _=_;rw[es];rfl
def eB {xs:List D}(es:s Z M=.ok xs M)(hl:xs.length<=100):aG false s Z M=.ok (.lst xs) M:=by
 unfold aG;rw[es];show(if xs.length<=sz then(if false=true then _ else Res.ok (D.lst xs) M) else .bad)=_;rw[if_pos (au `a)]
 rfl
def bV {i:Nat}{x:D}(e:a Z M=.ok x M):aw (.one i) a Z M=.ok (.next (Z.set i (some x))) M:=by
 unfold aw;rw[e];rfl
def ag {j:Nat}{x:D}(h:Z[j]?.getD none=some x):aa j Z M=.ok x M:=by
 unfold aa;rw[h];rfl
def aQ {f:Nat}{c:Call}{xs:List D}(e:s Z M=.ok xs M):ai f c s Z M=c f xs M:=by
 unfold ai;rw[e];rfl
def gO {f i:Nat}{c:Call}{x:D}{r:Res D}(h:Z[i]?.getD none=some x)(e:c f [x] M=r):ai f c #[aa i] Z M=r:=(aQ (af (ag h) rfl)).trans e
def eJ {f i j:Nat}{c:Call}{x y:D}{r:Res D}(h:Z[i]?.getD none=some x)(h2:Z[j]?.getD none=some y)(e:c f [x,y] M=r):ai f c #[aa i,aa j] Z M=r:=(aQ (af (ag h) (af (ag h2) rfl))).trans e
def NP {f i j l:Nat}{c:Call}{x y z:D}{r:Res D}(h:Z[i]?.getD none=some x)(h2:Z[j]?.getD none=some y)(h3:Z[l]?.getD none=some z)(e:c f [x,y,z] M=r):ai f c #[aa i,aa j,aa l] Z M=r:=(aQ (af (ag h) (af (ag h2) (af (ag h3) rfl)))).trans e
def bq {i:Nat}(h:ae (a Z M) k)(hk:∀x M',k x M'->ae (rest (Z.set i (some x)) M') kf):ae (aC (aw (.one i) a) rest Z M) kf:=by
 obtain⟨x,M',e,q⟩:=ic.mp h;simp only[ay];unfold aw;rw[e];exact hk x M' q
def dR (j:t Z M=.ok true M)(h:ae (A Z M) (gi rest kf)):ae (aC (aL t A aB) rest Z M) kf:=by
 simp only[ay,hU];rw[j];exact h
def bM {b:Bool}(h:t Z M=.ok b M)(h1:b=true->ae (A Z M) (gi rest kf))(h2:b=false->ae (rest Z M) kf):ae (aC (aL t A aB) rest Z M) kf:=by
 cases b with
 |true=>exact dR h (h1 rfl)
 |false=>exact ax h (h2 rfl)
def bz {b:Bool}(h:t Z M=.ok b M):bB t Z M=.ok (!b) M:=by
 unfold bB;rw[h];rfl
def a8 {b:Bool}(h:a Z M=.ok (.bl b) M):ao a Z M=.ok b M:=by
 unfold ao;rw[h];rfl
def ja {x y:Bool}(h1:t Z M=.ok x M)(h2:u Z M=.ok y M):cq t u Z M=.ok (x||y) M:=by
 unfold cq;rw[h1];cases x with
 |true=>rfl
 |false=>exact h2
def n6 {x y:Bool}(h1:t Z M=.ok x M)(h2:u Z M=.ok y M):gU t u Z M=.ok (x&&y) M:=by
 unfold gU;rw[h1];cases x with
 |true=>exact h2
 |false=>rfl
def iF {x y:Bool}(h1:a Z M=.ok (.bl x) M)(h2:x=true->b Z M=.ok (.bl y) M):dv a b Z M=.ok (.bl (x&&y)) M:=by
 unfold dv;rw[h1];cases x with
 |true=>exact h2 rfl
 |false=>rfl
def gq {k:Bool}{x:D}(h:t Z M=.ok k M)(h1:k=true->a Z M=.ok x M)(h2:k=false->b Z M=.ok x M):cT t a b Z M=.ok x M:=by
 unfold cT;rw[h];cases k with
 |true=>exact h1 rfl
 |false=>exact h2 rfl
def jG {j:Nat}{ds:List D}(e:Z[j]?.getD none=some (.tup ds)):aH .len #[aa j] Z M=.ok (nD ds.length) M:=by
 unfold aH;rw[af (ag e) rfl];rfl
def MY {i j:Int}(h1:a Z M=.ok (.int i) M)(h2:b Z M=.ok (.int j) M):ao (az .ne a b) Z M=.ok (!(i==j)) M:=by
 refine a8 ?_;unfold az;rw[h1];show(b Z M).bind _=_;rw[h2];rfl
def vG {l h i:Int}{c:GE}(h1:a Z M=.ok (.int l) M)(h2:b Z M=.ok (.int i) M)(h3:c Z M=.ok (.int h) M):j8 .le .le a b c Z M=.ok (.bl (decide (l<=i)&&decide (i<=h))) M:=by
 unfold j8;rw[h1];show(b Z M).bind _=_;rw[h2];show(if decide (l<=i)=true then _ else _)=_;cases decide (l<=i) with
 | true=>
   show(c Z M).bind _=_;rw[h3];rfl
 |false=>rfl
end
def lj {t:GT}{A rest:GS}{Z:Env}{M:Mem}{k:Fl->Mem->Prop}{R:Mem->Prop}(j:ae (t Z M) λb M'=>b=false/\R M')(h:∀M',R M'->ae (rest Z M') k):ae (aC (aL t A aB) rest Z M) k:=by
 simp only[ay,hU];obtain⟨b,M',e,rfl,r⟩:=ic.mp j;rw[e];exact h M' r
noncomputable def Th:Nat->Nat->D->Prop
 |_,_,.non=>True
 |_,_,.bl _=>True
 |_,_,.int _=>True
 |_,L,.str x=>x.cps.size<=L/\x.cps.all (· < 0x110000)=true
 |n+1,L,.tup j=>j.length<=L/\∀d∈j,Th n L d
 |n+1,L,.lst j=>j.length<=L/\∀d∈j,Th n L d
 |_,_,_=>False
theorem Th.mono:∀{n n' L j:Nat}{d:D},Th n L d->n<=n'->L<=j->Th n' j d
 |n,n',L,j,.non,_,_,_=>by cases n'<;>trivial
 |n,n',L,j,.bl _,_,_,_=>by cases n'<;>trivial
 |n,n',L,j,.int _,_,_,_=>by cases n'<;>trivial
 | n,n',L,j,.str x,h,_,l=>by
   have h:x.cps.size<=L/\x.cps.all (· < 0x110000)=true:=by cases n<;>exact h
   have:x.cps.size<=j/\x.cps.all (· < 0x110000)=true:={Qs h.1 l,h.2};cases n'<;>exact this
 |n+1,n'+1,L,j,.tup z,h,a,l=>{Qs h.1 l,λd hd=>Th.mono (h.2 d hd) (Nat.le_of_succ_le_succ a) l}
 |n+1,n'+1,L,j,.lst z,h,a,l=>{Qs h.1 l,λd hd=>Th.mono (h.2 d hd) (Nat.le_of_succ_le_succ a) l}
 |n+1,0,L,j,.tup z,h,a,l=>`a
 |n+1,0,L,j,.lst z,h,a,l=>`a
 |0,n',L,j,.tup z,h,a,l=>h.elim
 |0,n',L,j,.lst z,h,a,l=>h.elim
 |n,n',L,j,.frz _,h,_,_=>by cases n<;>exact h.elim
 |n,n',L,j,.cell _,h,_,_=>by cases n<;>exact h.elim
 |n,n',L,j,.fn _,h,_,_=>by cases n<;>exact h.elim
 |n,n',L,j,.exc _ _,h,_,_=>by cases n<;>exact h.elim
def Th.pure:∀{n L:Nat}{d:D},Th n L d->aE n d=true
 |n,L,.non,_=>by cases n<;>rfl
 |n,L,.bl _,_=>by cases n<;>rfl
 |n,L,.int _,_=>by cases n<;>rfl
 |n,L,.str x,h=>by cases n<;>exact h.2
 | n+1,L,.tup j,h=>by
   show j.all (aE n)=true;rw[Qq];exact λd hd=>(h.2 d hd).pure
 | n+1,L,.lst j,h=>by
   show j.all (aE n)=true;rw[Qq];exact λd hd=>(h.2 d hd).pure
 |0,L,.tup j,h=>h.elim
 |0,L,.lst j,h=>h.elim
 |n,L,.frz _,h=>by cases n<;>exact h.elim
 |n,L,.cell _,h=>by cases n<;>exact h.elim
 |n,L,.fn _,h=>by cases n<;>exact h.elim
 |n,L,.exc _ _,h=>by cases n<;>exact h.elim
def Th.view {n L:Nat}{d:D}{M:Mem}(h:Th n L d):view M d=d:=by
 cases d<;>first|rfl|(cases n<;>exact h.elim)
def Th.tup {n L:Nat}{ds:List D}(h:Th n L (.tup ds)):ds.length<=L/\∀d∈ds,Th n L d:=by
 cases n with
 |zero=>exact h.elim
 |succ n=>exact{h.1,λd hd=>(h.2 d hd).mono (Sg n) (Qo L)}
noncomputable def aW (lo hi:Int):D->Bool
 |.int i=>decide (lo<=i)&&decide (i<=hi)
 |_=>false
noncomputable def fV (w:Nat):D->Bool
 |.tup j=>j.length==w
 |_=>false
noncomputable def gy (w:Nat):D->Bool
 |.tup j=>j.length==w&&j.all (aW 0 ((w:Int)-1))
 |_=>false
noncomputable def jd (w:Nat):D->Bool
 |.tup j=>j.length==w&&j.all (gy w)
 |_=>false
def km (w p:Nat):List D->Bool
 |[a,t,c]=>aW 0 ((p:Int)-1) a&&(gy w t&&aW 1 3 c)
 |_=>false
def jb (w p:Nat):List D->Bool
 |[a,o,t,c]=>aW 0 ((p:Int)-1) a&&(aW 0 ((p:Int)-1) o&&(jd w t&&aW 1 3 c))
 |_=>false
def jE (w p:Nat):List D->Bool
 |[a,o,c]=>aW 0 ((p:Int)-1) a&&(aW 0 ((p:Int)-1) o&&aW 1 3 c)
 |_=>false
def mE (w p:Nat):List D->Bool
 |[a,x,c]=>aW 0 ((p:Int)-1) a&&(aW 0 ((w:Int)-1) x&&aW 1 3 c)
 |_=>false
def cD (w p:Nat)(s:Str)(ds:List D):Bool:=
 if s="turn" then km w p ds else if s="join" then jb w p ds else if s="move" then jE w p ds else if s="put" then mE w p ds else false
def fO (w p:Nat):D->Bool
 |.tup (.str s::ds)=>cD w p s ds
 |_=>false
noncomputable def iX:D->Bool
 |.tup j=>decide (1<=j.length)&&decide (j.length<=6)
 |_=>false
noncomputable def qi:D->List D
 |.tup j=>j
 |_=>[]
noncomputable def fx:D->Nat
 |.int i=>i.toNat
 |_=>0
def nY {lo hi:Int}{d:D}(h:aW lo hi d=true)(j:0<=lo):d=nD (fx d)/\lo<=(fx d:Int)/\(fx d:Int)<=hi:=by
 cases d with
 | int i=>
   simp[aW] at h;refine{?_,?_}
   ·show D.int i=D.int ((i.toNat:Nat):Int);rw[RL `a]
   ·show lo<=((i.toNat:Nat):Int)/\((i.toNat:Nat):Int)<=hi;rw[RL `a]
    exact h
 |_=>cases h
def ik:D->Bool
 |.tup [a,b,c]=>aW 2 4 a&&(aW 1 2 b&&(iX c&&(qi c).all (fO (fx a) (fx b))))
 |_=>false
def u9 {d:D}(h:fV 3 d=false):ik d=false:=by
 match d,h with
 |.tup [a,b,c],h=>cases h
 |.tup [],_=>rfl
 |.tup [_],_=>rfl
 |.tup [_,_],_=>rfl
 |.tup (_::_::_::_::r),_=>rfl
 |.non,_=>rfl
 |.bl _,_=>rfl
 |.int _,_=>rfl
 |.str _,_=>rfl
 |.lst _,_=>rfl
 |.frz _,_=>rfl
 |.cell _,_=>rfl
 |.fn _,_=>rfl
 |.exc _ _,_=>rfl
def EU:∀{b:Bool},(!b)=true->b=false:=`d
def EV:∀{b:Bool},(!b)=false->b=true:=`d
section
variable{Z:Env}{M:Mem}{a b:GE}{t u:GT}{x y:D}{v:Bool}
def qa (h:t Z M=.ok true M):cq t u Z M=.ok true M:=by unfold cq;rw[h];rfl
def gK (h:t Z M=.ok false M)(h2:u Z M=.ok v M):cq t u Z M=.ok v M:=by unfold cq;rw[h];exact h2
def i4 {o:kj}(h1:a Z M=.ok x M)(h2:b Z M=.ok y M)(h3:br o x y M=some v):az o a b Z M=.ok (.bl v) M:=by
 unfold az;rw[h1];show(b Z M).bind _=_;rw[h2];show(b8 M (br o x y M)).bind _=_;rw[h3];rfl
def rg {t:Ty}(h1:a Z M=.ok x M)(h2:bY t x=some v):bD t a Z M=.ok (.bl v) M:=by
 unfold bD;rw[h1];show(b8 M (bY t x)).bind _=_;rw[h2];rfl
end
def MR:∀{x y:Bool},(!x||!y)=true->(x&&y)=false:=`d
def AK:∀{x y:Bool},(!x||!y)=false->x=true/\y=true:=`d
def yG {Z:Env}{M:Mem}{j:Nat}{x:D}{ds:List D}(h:Z[j]?.getD none=some (.tup (x::ds))):av (aa j) (gI 0) Z M=.ok x M:=by
 unfold av;rw[ag h];show b8 M ((bC (ds.length+1) 0).bind λj=>(x::ds)[j]?)=_;rw[show bC (ds.length+1) 0=some 0 by simp[bC]]
 rfl
def Ml {Z:Env}{M:Mem}{j:Nat}{x:D}{ds:List D}(h:Z[j]?.getD none=some (.tup (x::ds))):bG false true false (aa j) (gI 1) gN Z M=.ok (.tup ds) M:=by
 refine aj (jc.mpr (aK.mpr {_,h,?_}));simp[cM,aM,cv,cut]
def xt {a:GE}{Z:Env}{M:Mem}{fs:List (Str×Nat)}{s:Str}{b:Bool}(h:a Z M=.ok (.str s) M)(e:(!(fs.lookup s).isSome)=b):iw fs a Z M=.ok (.bl b) M:=by
 subst e;unfold iw;rw[h];rfl
structure ze (P:Nat->Option Df):Prop where
 is_between:P 0=some {3,3,f5}
 is_word:P 1=some {2,2,jr}
 is_place:P 2=some {2,2,iC}
 is_cost:P 3=some {1,1,js}
 is_tuple_of:P 4=some {2,2,fH}
 is_table:P 5=some {2,2,iB}
 is_double_table:P 6=some {2,2,dS}
 is_turn:P 7=some {3,6,fX}
 is_join:P 8=some {3,7,fZ}
 is_move:P 9=some {3,6,fY}
 is_put:P 10=some {3,6,gY}
 is_deed:P 11=some {3,5,d8}
 is_machine:P 12=some {1,4,iD}
noncomputable def ot (f:D->Bool):∀ds:List D,boolsOf (ds.map λd=>.bl (f d))=some (ds.map f)
 |[]=>rfl
 |d::r=>by simp[boolsOf,ot f r]
def all_eq {w:GW}{ge:GE}{Z:Env}{M:Mem}{ds:List D}(f:D->Bool)(j:ae (w Z M) λwk M'=>M'=M/\wk M=some ds)(hz:ds.length<=sz)(he:∀d∈ds,ge (some d::Z) M=.ok (.bl (f d)) M) :
 aH .all #[bL false 1 (.one 0) w (bN ge)] Z M=.ok (.bl (ds.all f)) M:=by
 refine aj ?_;simp only[cK,aS,fi,bf];refine aA j ?_;rintro wk M' ⟨e1,e2⟩;subst e1;refine fW (λd=>.bl (f d)) hz e2 (λd hd=>{some d::Z,rfl,he d hd}) ?_;simp only[a9,Qk,Iu];refine{hz,_,ot f ds,?_,trivial}
 congr 1
 rw[List.all_map];rfl
def pd {k L:Nat}{x:D}(j:Th k L x){t:Ty}(h:((¬ ∃s,x=.str s)/\t=.str\/(¬ ∃s,x=.tup s)/\t=.tuple)):bY t x=some false:=by
 rcases h with⟨h,rfl⟩|⟨h,rfl⟩<;>cases x<;>first|rfl|exact absurd {_,rfl} h|(cases k<;>exact j.elim)
section
variable{P:Nat->Option Df}(h:ze P){M:Mem}{k L:Nat}{d:D}
include h
theorem jN (n:Nat)(hd:Th k L d)(lo hi:Int):ah P (n+1) 0 [d,.int lo,.int hi] M=.ok (.bl (aW lo hi d)) M:=by
 cases d with
 | int t=>
   refine aj (aq h.is_between rfl ?_);simp[f5,bY,aW];by_cases h1:lo<=t<;>simp[h1]<;>omega
 |fn j=>cases k<;>exact hd.elim
 |exc y p=>cases k<;>exact hd.elim
 |_=>exact aj (aq h.is_between rfl (cQ rfl))
theorem uo (n:Nat){w:Nat}(hd:Th k L d):ah P (n+2) 1 [nD w,d] M=.ok (.bl (aW 0 ((w:Int)-1) d)) M:=by
 refine aj (aq h.is_word rfl ?_);simp[jr,jN h _ hd]
theorem g9 (n:Nat){w:Nat}(hd:Th k L d):ah P (n+2) 2 [nD w,d] M=.ok (.bl (aW 0 ((w:Int)-1) d)) M:=by
 refine aj (aq h.is_place rfl ?_);simp[iC,jN h _ hd]
theorem lK (n:Nat)(hd:Th k L d):ah P (n+2) 3 [d] M=.ok (.bl (aW 1 3 d)) M:=by
 refine aj (aq h.is_cost rfl ?_);simp[js,jN h _ hd]
theorem nr (n:Nat){w:Nat}(hd:Th k L d):ah P (n+1) 4 [nD w,d] M=.ok (.bl (fV w d)) M:=by
 refine aj (aq h.is_tuple_of rfl ?_);cases d with
 |fn j=>cases k<;>exact hd.elim
 |exc y p=>cases k<;>exact hd.elim
 | tup z=>
   simp[fH,bY,fV];by_cases e:z.length=w
   ·simp[e]
   ·have:¬ ((z.length:Int)=(w:Int)):=`a
    simp[e,this]
 |_=>exact cQ rfl
theorem wz (n:Nat){w:Nat}(hd:Th k L d)(E:L<=100):ah P (n+3) 5 [nD w,d] M=.ok (.bl (gy w d)) M:=by
 refine aj (aq h.is_table rfl ?_);have e:=nr h (n+1) (w:=w) (M:=M) hd;simp only[iB,ay,cu,FC,iz,aS,bf,aK,Sb,List.map_nil,List.cons_append,R1,Q5,Q6,Ri,Rp,exists_eq_left'];rw[e];refine{_,rfl,?_};cases d with
 | tup z=>
   have B:=hd.tup;by_cases j:z.length=w
   ·have:fV w (.tup z)=true:=by simp[fV,j]
    rw[this,if_pos rfl,all_eq (aW 0 ((w:Int)-1)) (by simp;exact⟨rfl,rfl⟩) (au `a) (λd hd=>aj (by simp[uo h n (B.2 d hd)]))]
    exact{by simp[gy,j],rfl}
   ·have:fV w (.tup z)=false:=by simp[fV,j]
    rw[this,if_neg `s]
    exact{by simp[gy,j],rfl}
 |_=>exact⟨rfl,rfl⟩
theorem Cw (n:Nat){w:Nat}(hd:Th k L d)(B:L<=100):ah P (n+4) 6 [nD w,d] M=.ok (.bl (jd w d)) M:=by
 refine aj (aq h.is_double_table rfl ?_);have e:=nr h (n+2) (w:=w) (M:=M) hd;simp only[dS,ay,cu,FC,iz,aS,bf,aK,Sb,List.map_nil,List.cons_append,R1,Q5,Q6,Ri,Rp,exists_eq_left'];rw[e];refine{_,rfl,?_};cases d with
 | tup z=>
   have E:=hd.tup;by_cases j:z.length=w
   ·have:fV w (.tup z)=true:=by simp[fV,j]
    rw[this,if_pos rfl,all_eq (gy w) (by simp;exact⟨rfl,rfl⟩) (au `a) (λd hd=>aj (by simp[wz h n (E.2 d hd) B]))]
    exact{by simp[jd,j],rfl}
   ·have:fV w (.tup z)=false:=by simp[fV,j]
    rw[this,if_neg `s]
    exact{by simp[jd,j],rfl}
 |_=>exact⟨rfl,rfl⟩
omit h in
theorem qs {j c:Nat}{ds:List D}{Z:Env}(e:Z[j]?.getD none=some (.tup ds))(z:ds.length≠c):(ao (az .ne (aH .len #[aa j]) (gC (.int (c:Int)))):GT) Z M=.ok true M:=by
 rw[MY (jG e) rfl,Q8.mpr `a]
 rfl
theorem Cq (n:Nat){w p:Nat}{ds:List D}(hd:∀d∈ds,Th k L d)(j:L<=100)(hl:ds.length<=100):ah P (n+4) 7 [nD w,nD p,.tup ds] M=.ok (.bl (km w p ds)) M:=by
 refine aj (aq h.is_turn rfl ?_)
 match ds,hd,hl with
 | [a,t,c],hd,_=>
   show ae (fX (ah P (n+3)) [some (nD w),some (nD p),some (.tup [a,t,c]),none,none,none] M) _;unfold fX;refine ax rfl (aV rfl ?_);show ae _ _;exact bp (iF (eJ rfl rfl (g9 h (n+1) (hd a (.head _)))) λ_=>iF (eJ rfl rfl (wz h n (hd t (.tail _ (.head _))) j)) λ_=>gO rfl (lK h (n+1) (hd c (.tail _ (.tail _ (.head _)))))) ⟨rfl,rfl⟩
 |[],_,_=>exact cQ rfl
 |[_],_,_=>exact cQ rfl
 |[_,_],_,_=>exact cQ rfl
 | a::b::c::d::r,_,_=>
   show ae (fX (ah P (n+3)) [some (nD w),some (nD p),some (.tup (a::b::c::d::r)),none,none,none] M) _;exact bt (qs rfl (λz=>by simp at z)) rfl ⟨rfl,rfl⟩
theorem Cu (n:Nat){w p:Nat}{ds:List D}(hd:∀d∈ds,Th k L d)(B:L<=100)(hl:ds.length<=100):ah P (n+5) 8 [nD w,nD p,.tup ds] M=.ok (.bl (jb w p ds)) M:=by
 refine aj (aq h.is_join rfl ?_)
 match ds,hd,hl with
 | [a,o,t,c],hd,_=>
   show ae (fZ (ah P (n+4)) [some (nD w),some (nD p),some (.tup [a,o,t,c]),none,none,none,none] M) _;unfold fZ;refine ax rfl (aV rfl ?_);refine bM (ja (bz (a8 (eJ rfl rfl (g9 h (n+2) (hd a (.head _)))))) (bz (a8 (eJ rfl rfl (g9 h (n+2) (hd o (.tail _ (.head _)))))))) (λe=>?_) λe=>?_
   ·refine bp rfl {?_,rfl};show D.bl false=.bl (_&&(_&&_));cases q:aW 0 ((p:Int)-1) a with
    |false=>rfl
    | true=>
      rw[q] at e;cases j:aW 0 ((p:Int)-1) o with
      |false=>rfl
      |true=>rw[j] at e;cases e
   ·refine bp (iF (eJ rfl rfl (Cw h n (hd t (.tail _ (.tail _ (.head _)))) B)) λ_=>gO rfl (lK h (n+2) (hd c (.tail _ (.tail _ (.tail _ (.head _))))))) {?_,rfl};show _=D.bl (aW 0 ((p:Int)-1) a&&(aW 0 ((p:Int)-1) o&&_));cases q:aW 0 ((p:Int)-1) a with
    |false=>rw[q] at e;cases e
    | true=>
      rw[q] at e;cases j:aW 0 ((p:Int)-1) o with
      |false=>rw[j] at e;cases e
      |true=>rfl
 |[],_,_=>exact cQ rfl
 |[_],_,_=>exact cQ rfl
 |[_,_],_,_=>exact cQ rfl
 |[_,_,_],_,_=>exact cQ rfl
 | a::b::c::d::e::r,_,_=>
   show ae (fZ (ah P (n+4)) [some (nD w),some (nD p),some (.tup (a::b::c::d::e::r)),none,none,none,none] M) _;exact bt (qs rfl (λz=>by simp at z)) rfl ⟨rfl,rfl⟩
theorem Ct (n:Nat){w p:Nat}{ds:List D}(hd:∀d∈ds,Th k L d)(j:L<=100)(hl:ds.length<=100):ah P (n+3) 9 [nD w,nD p,.tup ds] M=.ok (.bl (jE w p ds)) M:=by
 refine aj (aq h.is_move rfl ?_)
 match ds,hd,hl with
 | [a,t,c],hd,_=>
   show ae (fY (ah P (n+2)) [some (nD w),some (nD p),some (.tup [a,t,c]),none,none,none] M) _;unfold fY;refine ax rfl (aV rfl ?_);show ae _ _;exact bp (iF (eJ rfl rfl (g9 h n (hd a (.head _)))) λ_=>iF (eJ rfl rfl (g9 h n (hd t (.tail _ (.head _))))) λ_=>gO rfl (lK h n (hd c (.tail _ (.tail _ (.head _)))))) ⟨rfl,rfl⟩
 |[],_,_=>exact cQ rfl
 |[_],_,_=>exact cQ rfl
 |[_,_],_,_=>exact cQ rfl
 | a::b::c::d::r,_,_=>
   show ae (fY (ah P (n+2)) [some (nD w),some (nD p),some (.tup (a::b::c::d::r)),none,none,none] M) _;exact bt (qs rfl (λz=>by simp at z)) rfl ⟨rfl,rfl⟩
theorem Gx (n:Nat){w p:Nat}{ds:List D}(hd:∀d∈ds,Th k L d)(j:L<=100)(hl:ds.length<=100):ah P (n+3) 10 [nD w,nD p,.tup ds] M=.ok (.bl (mE w p ds)) M:=by
 refine aj (aq h.is_put rfl ?_)
 match ds,hd,hl with
 | [a,t,c],hd,_=>
   show ae (gY (ah P (n+2)) [some (nD w),some (nD p),some (.tup [a,t,c]),none,none,none] M) _;unfold gY;refine ax rfl (aV rfl ?_);show ae _ _;exact bp (iF (eJ rfl rfl (g9 h n (hd a (.head _)))) λ_=>iF (eJ rfl rfl (uo h n (hd t (.tail _ (.head _))))) λ_=>gO rfl (lK h n (hd c (.tail _ (.tail _ (.head _)))))) ⟨rfl,rfl⟩
 |[],_,_=>exact cQ rfl
 |[_],_,_=>exact cQ rfl
 |[_,_],_,_=>exact cQ rfl
 | a::b::c::d::r,_,_=>
   show ae (gY (ah P (n+2)) [some (nD w),some (nD p),some (.tup (a::b::c::d::r)),none,none,none] M) _;exact bt (qs rfl (λz=>by simp at z)) rfl ⟨rfl,rfl⟩
omit h in
theorem mK {w p:Nat}{ds:List D}:cD w p "turn" ds=km w p ds:=by unfold cD;rw[if_pos rfl]
omit h in
theorem mJ {w p:Nat}{ds:List D}:cD w p "join" ds=jb w p ds:=by unfold cD;rw[if_neg `k,if_pos rfl]
omit h in
theorem mI {w p:Nat}{ds:List D}:cD w p "move" ds=jE w p ds:=by unfold cD;rw[if_neg `k,if_neg `k,if_pos rfl]
omit h in
theorem mH {w p:Nat}{ds:List D}:cD w p "put" ds=mE w p ds:=by unfold cD;rw[if_neg `k,if_neg `k,if_neg `k,if_pos rfl]
omit h in
theorem uS {w p:Nat}{ds:List D}{s:Str}(e1:¬ s="turn")(e2:¬ s="join")(j:¬ s="move")(z:¬ s="put"):cD w p s ds=false:=by unfold cD;rw[if_neg e1,if_neg e2,if_neg j,if_neg z]
omit h in
theorem xW {s:Str}(e1:¬ s="turn")(e2:¬ s="join")(j:¬ s="move")(z:¬ s="put"):di.lookup s=none:=by
 unfold di;simp only[List.lookup,Q8.mpr e1,Q8.mpr e2,Q8.mpr j,Q8.mpr z]
theorem nQ (n:Nat){w p f:Nat}{s:Str}{ds:List D}{v:Bool}(lk:di.lookup s=some f)(q:ah P (n+5) f [nD w,nD p,.tup ds] M=.ok (.bl v) M):ah P (n+6) 11 [nD w,nD p,.tup (.str s::ds)] M=.ok (.bl v) M:=by
 refine aj (aq h.is_deed rfl ?_);show ae (d8 (ah P (n+5)) [some (nD w),some (nD p),some (.tup (.str s::ds)),none,none] M) _;unfold d8;refine ax (gK (bz (b:=true) rfl) (bz (b:=true) rfl)) (aV (bV (yG rfl)) ?_);refine ax (gK (bz (b:=true) rfl) (a8 (xt rfl (by rw[lk];rfl)))) (ay.mpr (gD.mpr (Bn.mpr (aK.mpr {_,rfl,_,_,rfl,lk,?_}))))
 refine ay.mpr (cu.mpr (xr.mpr {f,rfl,?_}));rw[af (x:=nD w) (ag rfl) (af (x:=nD p) (ag rfl) (af (Ml rfl) rfl)),aZ,q];exact⟨rfl,rfl⟩
theorem DR (n:Nat){w p:Nat}{s:Str}{ds:List D}(lk:di.lookup s=none):ah P (n+6) 11 [nD w,nD p,.tup (.str s::ds)] M=.ok (.bl false) M:=by
 refine aj (aq h.is_deed rfl ?_);show ae (d8 (ah P (n+5)) [some (nD w),some (nD p),some (.tup (.str s::ds)),none,none] M) _;unfold d8;exact ax (gK (bz (b:=true) rfl) (bz (b:=true) rfl)) (aV (bV (yG rfl)) (bt (gK (bz (b:=true) rfl) (a8 (xt rfl (by rw[lk];rfl)))) rfl ⟨rfl,rfl⟩))
theorem Cz (n:Nat){w p:Nat}(hd:Th k L d)(E:L<=100):ah P (n+6) 11 [nD w,nD p,d] M=.ok (.bl (fO w p d)) M:=by
 cases d with
 |fn j=>cases k<;>exact hd.elim
 |exc y p=>cases k<;>exact hd.elim
 | tup xs=>
   have I:=hd.tup;cases xs with
   |nil=>exact aj (aq h.is_deed rfl (cQ rfl))
   | cons x B=>
     have J:=I.2 x Qv;have z:=λd hd=>I.2 d (Qm _ hd);have hl:B.length<=100:=by have:=I.1;simp at this;omega
     by_cases hs:∃s,x=.str s
     ·obtain⟨s,rfl⟩:=hs;show _=Res.ok (D.bl (cD w p s B)) M;by_cases e1:s="turn"
      ·subst e1;rw[mK];exact nQ h n KS (Cq h (n+1) z E hl)
      by_cases e2:s="join"
      ·subst e2;rw[mJ];exact nQ h n KR (Cu h n z E hl)
      by_cases F:s="move"
      ·subst F;rw[mI];exact nQ h n KQ (Ct h (n+2) z E hl)
      by_cases H:s="put"
      ·subst H;rw[mH];exact nQ h n KP (Gx h (n+2) z E hl)
      rw[uS e1 e2 F H];exact DR h n (xW e1 e2 F H)
     ·have e1:fO w p (.tup (x::B))=false:=by cases x<;>first|rfl|exact absurd {_,rfl} hs
      have e2:=pd J (.inl ⟨hs,rfl⟩);rw[e1];refine aj (aq h.is_deed rfl ?_);show ae (d8 (ah P (n+5)) [some (nD w),some (nD p),some (.tup (x::B)),none,none] M) _;unfold d8;exact ax (gK (bz (b:=true) rfl) (bz (b:=true) rfl)) (aV (bV (yG rfl)) (bt (qa (bz (b:=false) (a8 (rg (ag rfl) e2)))) rfl ⟨rfl,rfl⟩))
 |_=>exact aj (aq h.is_deed rfl (cQ rfl))
theorem Dg (n:Nat)(hd:Th k L d)(hn:fV 3 d=false):ah P (n+7) 12 [d] M=.ok (.bl false) M:=by
 have e:ah P (n+6) 4 [nD 3,d] M=.ok (.bl (fV 3 d)) M:=nr h (n+5) hd;rw[hn] at e;exact aj (aq h.is_machine rfl (bt (bz (b:=false) (a8 ((aQ (af rfl (af (ag rfl) rfl))).trans e))) rfl ⟨rfl,rfl⟩))
theorem Na (n:Nat){a b c:D}(hd:Th k L (.tup [a,b,c]))(U:L<=100):ah P (n+7) 12 [.tup [a,b,c]] M=.ok (.bl (ik (.tup [a,b,c]))) M:=by
 refine aj (aq h.is_machine rfl ?_);have E:=hd.tup.2;have B:=E c (Qm _ (Qm _ Qv));have e:ah P (n+6) 4 [nD 3,.tup [a,b,c]] M=.ok (.bl true) M:=nr h (n+5) hd;have J:=jN h (n+5) (M:=M) (E a Qv) 2 4;have O:=jN h (n+5) (M:=M) (E b (Qm _ Qv)) 1 2;show ae _ (fL λx I=>x=.bl (aW 2 4 a&&(aW 1 2 b&&(iX c&&(qi c).all (fO (fx a) (fx b)))))/\I=M);refine ax (bz (b:=true) (a8 ((aQ (af rfl (af (ag rfl) rfl))).trans e))) (aV rfl ?_);show ae (aC _ _ [some (.tup [a,b,c]),some a,some b,some c] M) _;refine bM (ja (bz (a8 ((aQ (af (ag rfl) (af rfl (af rfl rfl)))).trans J))) (bz (a8 ((aQ (af (ag rfl) (af rfl (af rfl rfl)))).trans O)))) (λz=>?_) (λz=>?_)
 ·refine bp rfl {?_,rfl};rw[<- Bool.and_assoc,MR z];rfl
 obtain⟨F,H⟩:=AK z;rw[F,H];obtain⟨Q,_,_⟩:=nY F `d
 obtain⟨R,_,_⟩:=nY H `d
 by_cases j:∃ds,c=.tup ds
 ·obtain⟨ds,rfl⟩:=j;have W:=B.tup;have S:(decide ((1:Int)<=(ds.length:Int))&&decide ((ds.length:Int)<=6))=iX (.tup ds):=by
   show _=(decide (1<=ds.length)&&decide (ds.length<=6));rw[decide_eq_decide.mpr (show(1:Int)<=(ds.length:Int)↔1<=ds.length by omega),decide_eq_decide.mpr (show(ds.length:Int)<=6↔ds.length<=6 by omega)]
  have X:bB (ao (j8 .le .le (gI 1) (aH .len #[aa 3]) (gI 6))) [some (.tup [a,b,.tup ds]),some a,some b,some (.tup ds)] M=.ok (!iX (.tup ds)) M:=by
   rw[<- S];exact bz (a8 (vG (i:=(ds.length:Int)) rfl (jG rfl) rfl))
  refine bM (gK (bz (b:=true) rfl) X) (λz=>?_) (λz=>?_)
  ·rw[EU z];exact bp rfl ⟨rfl,rfl⟩
  ·rw[EV z];refine bp (all_eq (fO (fx a) (fx b)) (ds:=ds) (lF.mpr (aK.mpr {_,rfl,rfl,rfl,rfl})) (au `a) (λd hd=>?_)) ⟨rfl,rfl⟩
   have q:=Cz h n (w:=fx a) (p:=fx b) (M:=M) (W.2 d hd) U;rw[<- Q,<- R] at q;exact(aQ (af (ag rfl) (af (ag rfl) (af (ag rfl) rfl)))).trans q
 ·rw[show iX c=false by cases c<;>first|rfl|exact absurd {_,rfl} j]
  exact bt (qa (bz (b:=false) (a8 (rg (ag rfl) (pd B (.inr ⟨j,rfl⟩)))))) rfl ⟨rfl,rfl⟩
theorem uv (n:Nat)(hd:Th k L d)(j:L<=100):ah P (n+7) 12 [d] M=.ok (.bl (ik d)) M:=by
 by_cases hn:fV 3 d=false
 ·rw[Dg h n hd hn,u9 hn]
 ·match d,hd,hn with
  |.tup [a,b,c],hd,_=>exact Na h n hd j
  |.tup [],_,hn=>exact absurd rfl hn
  |.tup [_],_,hn=>exact absurd rfl hn
  |.tup [_,_],_,hn=>exact absurd rfl hn
  |.tup (_::_::_::_::r),_,hn=>exact absurd (by simp[fV]) hn
  |.non,_,hn=>exact absurd rfl hn
  |.bl _,_,hn=>exact absurd rfl hn
  |.int _,_,hn=>exact absurd rfl hn
  |.str _,_,hn=>exact absurd rfl hn
  |.lst _,_,hn=>exact absurd rfl hn
  |.frz _,_,hn=>exact absurd rfl hn
  |.cell _,_,hn=>exact absurd rfl hn
  |.fn _,_,hn=>exact absurd rfl hn
  |.exc _ _,_,hn=>exact absurd rfl hn
omit h in
theorem dP {lo hi:Int}{n:Nat}(h1:lo<=(n:Int))(h2:(n:Int)<=hi):aW lo hi (nD n)=true:=by simp[aW];omega
omit h in
theorem ug {w:Nat}{t:List Nat}(j:fT w t):gy w (aJ t)=true:=by
 have e:(t.map nD).all (aW 0 ((w:Int)-1))=true:=by
  rw[Qq];intro x B;obtain⟨i,z,rfl⟩:=QS.mp B;have:=j.2 i z;exact dP `a `a
 show((t.map nD).length==w&&(t.map nD).all (aW 0 ((w:Int)-1)))=true;rw[e,Qk,j.1];simp
omit h in
theorem Br {w p:Nat}{d:bb}(hd:bQ w p d):fO w p d.d=true:=by
 cases d with
 | turn a t c=>
   obtain⟨h1,h2,h3⟩:=hd;unfold eL at h3;show cD w p "turn" _=true;rw[mK];simp only[km];rw[dP `a `a,ug h2,dP `a `a];rfl
 | join a o t c=>
   obtain⟨h1,h2,h3,h4⟩:=hd;unfold eL at h4;show cD w p "join" _=true;rw[mJ];simp only[jb];have e:jd w (.tup (t.map aJ))=true:=by
    have e:(t.map aJ).all (gy w)=true:=by
     rw[Qq];intro x z;obtain⟨i,j,rfl⟩:=QS.mp z;exact ug (h3.2 i j)
    show((t.map aJ).length==w&&(t.map aJ).all (gy w))=true;rw[e,Qk,h3.1];simp
   rw[dP `a `a,dP `a `a,e,dP `a `a];rfl
 | move a o c=>
   obtain⟨h1,h2,h3⟩:=hd;unfold eL at h3;show cD w p "move" _=true;rw[mI];simp only[jE];rw[dP `a `a,dP `a `a,dP `a `a];rfl
 | put a o c=>
   obtain⟨h1,h2,h3⟩:=hd;unfold eL at h3;show cD w p "put" _=true;rw[mH];simp only[mE];rw[dP `a `a,dP `a `a,dP `a `a];rfl
omit h in
theorem jm {m:ba}(hm:bh m):ik m.d=true:=by
 have w2:=hm.w2;have w4:=hm.w4;have p1:=hm.p1;have p2:=hm.p2;have l1:=hm.d1;have B:=hm.d6;have e:(m.deeds.map bb.d).all (fO m.words m.places)=true:=by
  rw[Qq];intro x z;obtain⟨i,j,rfl⟩:=QS.mp z;exact Br (hm.ok i j)
 have e2:iX (.tup (m.deeds.map bb.d))=true:=by simp[iX];omega
 show(aW 2 4 (nD m.words)&&(aW 1 2 (nD m.places)&&(iX (.tup (m.deeds.map bb.d))&&(m.deeds.map bb.d).all (fO m.words m.places))))=true;rw[dP `a `a,dP `a `a,e,e2];rfl
end
noncomputable def uf:Nat->Nat->D->Bool
 |_,_,.non=>true
 |_,_,.bl _=>true
 |_,_,.int _=>true
 |_,L,.str x=>decide (x.cps.size<=L)&&x.cps.all (· < 0x110000)
 |n+1,L,.tup h=>decide (h.length<=L)&&h.all (uf n L)
 |n+1,L,.lst h=>decide (h.length<=L)&&h.all (uf n L)
 |_,_,_=>false
theorem pK:∀{n L:Nat}{d:D},uf n L d=true->Th n L d
 |n,L,.non,_=>by cases n<;>trivial
 |n,L,.bl _,_=>by cases n<;>trivial
 |n,L,.int _,_=>by cases n<;>trivial
 | n,L,.str x,h=>by
   have q:(decide (x.cps.size<=L)&&x.cps.all (· < 0x110000))=true:=by cases n<;>exact h
   simp only[Qh,decide_eq_true_eq] at q;cases n<;>exact q
 | n+1,L,.tup j,h=>by
   have h:(decide (j.length<=L)&&j.all (uf n L))=true:=h;simp only[Qh,decide_eq_true_eq] at h;exact{h.1,λd hd=>pK (Qq.mp h.2 d hd)}
 | n+1,L,.lst j,h=>by
   have h:(decide (j.length<=L)&&j.all (uf n L))=true:=h;simp only[Qh,decide_eq_true_eq] at h;exact{h.1,λd hd=>pK (Qq.mp h.2 d hd)}
 |0,L,.tup j,h=>by cases h
 |0,L,.lst j,h=>by cases h
 |n,L,.frz _,h=>by cases n<;>cases h
 |n,L,.cell _,h=>by cases n<;>cases h
 |n,L,.fn _,h=>by cases n<;>cases h
 |n,L,.exc _ _,h=>by cases n<;>cases h
def zG (h:fT w t)(w4:w<=4):Th 2 6 (aJ t):=by
 refine{by have:=h.1;simp;omega,λd hd=>?_}
 obtain⟨i,_,rfl⟩:=QS.mp hd;trivial
def tK (h:uf 0 6 (.str z)=true):Th n 6 (.str z):=(pK h).mono (RN n) (Qo 6)
def iu {i:Int}:Th n 6 (.int i):=by cases n<;>trivial
def Ic (h:bQ w p d)(w4:w<=4):Th 4 6 d.d:=by
 cases d with
 | turn a t c=>
   refine{`s,λx j=>?_}
   simp only[Qu,QL,or_false] at j;rcases j with rfl|rfl|rfl|rfl
   ·exact tK `k
   ·exact iu
   ·exact(zG h.2.1 w4).mono `d `d
   ·exact iu
 | join a o t c=>
   refine{`s,λx j=>?_}
   simp only[Qu,QL,or_false] at j;rcases j with rfl|rfl|rfl|rfl|rfl
   ·exact tK `k
   ·exact iu
   ·exact iu
   ·refine{by have:=h.2.2.1.1;simp;omega,λy u=>?_}
    obtain⟨z,v,rfl⟩:=QS.mp u;exact zG (h.2.2.1.2 z v) w4
   ·exact iu
 | move a o c=>
   refine{`s,λx j=>?_}
   simp only[Qu,QL,or_false] at j;rcases j with rfl|rfl|rfl|rfl
   ·exact tK `k
   all_goals exact iu
 | put a o c=>
   refine{`s,λx j=>?_}
   simp only[Qu,QL,or_false] at j;rcases j with rfl|rfl|rfl|rfl
   ·exact tK `k
   all_goals exact iu
def iW (h:bh m):Th 6 6 m.d:=by
 refine{`s,λx j=>?_}
 simp only[Qu,QL,or_false] at j;rcases j with rfl|rfl|rfl
 ·exact iu
 ·exact iu
 ·refine{by have:=h.d6;simpa using this,λy u=>?_}
  obtain⟨z,v,rfl⟩:=QS.mp u;exact Ic (h.ok z v) h.w4
def HasB0.q (h:HasB0 P):ze P:=⟨h.is_between,h.is_word,h.is_place,h.is_cost,h.is_tuple_of,h.is_table,h.is_double_table,h.is_turn,h.is_join,h.is_move,h.is_put,h.is_deed,h.is_machine⟩
structure Sub (M M':Mem):Prop where
 len:M.length<=M'.length
 at':∀k,k<M.length->M'[k]?=M[k]?
def Sub.refl:Sub M M:={Qo _,λ_ _=>rfl}
def Sub.trans (a:Sub M M1)(b:Sub M1 M2):Sub M M2:={Qs a.len b.len,λk hk=>(b.at' k (QI hk a.len)).trans (a.at' k hk)}
def Sub.app:Sub M (M++X):={`s,λk hk=>QR hk}
def Sub.get {k:Nat}(h:Sub M M')(e:M[k]?=some ds):M'[k]?=some ds:=by rw[h.at' k (Qg.mp e).1];exact e
def Sub.setq (h:Sub M M')(j:M.length<=q):Sub M (M'.set q ds):={by simpa using h.len,λk hk=>by rw[QH `a];exact h.at' k hk}
def yR (f:D->D)(hz:acc0.length+ds.length<=sz)(v:w M=some ds)(hs:∀d∈ds,∃ρ1,cy tg d ρ0=some ρ1/\ge ρ1 M=.ok (f d) M)(hk:kl (acc0++ds.map f) M) :
 ae (dU (dW tg (bN ge) ρ0) w acc0 M) kl:=by
 refine eM (λi j u=>u=M/\j=acc0++(ds.take i).map f) (λi j u h=>by rw[h.1];exact v) {rfl,`s} ?_ ?_
 ·rintro i d j u hd ⟨rfl,rfl⟩;obtain⟨ρ1,e1,e2⟩:=hs d (QG hd);have y:i<ds.length:=(Qg.mp hd).1;simp only[dW,bo,j0,e1,FP];refine{ρ1,rfl,?_};rw[e2];refine{by simp;omega,rfl,?_}
  rw[RC,hd];simp
 ·rintro j u ⟨rfl,rfl⟩;simpa using hk
noncomputable def rj {j u:Type}(f:j->List u)(n:Nat):∀(ds:List j),(∀d∈ds,(f d).length<=n)->(ds.flatMap f).length<=ds.length*n
 |[],_=>`s
 | d::r,h=>by
   have h1:=h d Qv;have h2:=rj f n r λd hd=>h d (Qm _ hd);simp only[List.flatMap_cons,QJ,List.length_cons,Nat.succ_mul];omega
def yS (j:D->List D)(f:D->D->D)(n:Nat)(hn:∀d∈ds,(j d).length<=n)(hz:ds.length*n<=sz)(H:w M=some ds)
 (hs:∀d∈ds,∃ρ1,cy t d ρ0=some ρ1/\∃w2,gw2 ρ1 M=.ok w2 M/\w2 M=some (j d)/\∀e∈j d,∃y,cy u e ρ1=some y/\ge y M=.ok (f d e) M) (hk:kl (ds.flatMap λd=>(j d).map (f d)) M) :
 ae (dU (dW t (vo u gw2 (bN ge)) ρ0) w [] M) kl:=by
 refine eM (λi v z=>z=M/\v=(ds.take i).flatMap λd=>(j d).map (f d)) (λi v z h=>by rw[h.1];exact H) {rfl,`s} ?_ ?_
 ·rintro i d v z hd ⟨rfl,rfl⟩;obtain⟨ρ1,e1,w2,e2,E,F⟩:=hs d (QG hd);simp only[dW,bo,j0,e1,vo];refine{ρ1,rfl,?_};rw[e2];have B:(ds.take (i+1)).flatMap (λd=>(j d).map (f d))=(ds.take i).flatMap (λd=>(j d).map (f d))++(j d).map (f d):=by
   rw[RC,hd];simp
  have l1:=rj (λd=>(j d).map (f d)) n (ds.take (i+1)) (λd hd=>by simpa using hn d (Q9 hd))
  rw[B] at l1;simp only[QJ,Qk,Rj] at l1;refine yR (f d) ?_ E F ⟨rfl,B.symm⟩;have:(min (i+1) ds.length)*n<=ds.length*n:=Nat.mul_le_mul_right _ (Nat.min_le_right _ _);omega
 ·rintro v z ⟨rfl,rfl⟩;simpa using hk
noncomputable def Dy (w:Nat)(l:List (List Nat)):List (List Nat):=l.flatMap λs=>(List.range w).map λx=>s++[x]
noncomputable def fP (w:Nat):Nat->List (List Nat)
 |0=>[[]]
 |p+1=>Dy w (fP w p)
def cE (m:ba):List (List Nat):=fP m.words m.places
def g7 (m:ba)(s:List Nat):Prop:=s.length=m.places/\∀x∈s,x<m.words
def vR:∀s∈fP w p,s.length=p/\∀x∈s,x<w:=by
 induction p with
 |zero=>intro s hs;simp[fP] at hs;subst hs;simp
 | succ p v=>
   intro s hs;simp only[fP,Dy,List.mem_flatMap,List.mem_map,List.mem_range] at hs;obtain⟨t,j,x,B,rfl⟩:=hs;obtain⟨h1,h2⟩:=v t j;refine{by simp[h1],λy u=>?_}
   rcases QM.mp u with z|z
   ·exact h2 y z
   ·simp at z;omega
def xB:∀s∈cE m,g7 m s:=vR
noncomputable def kI (j:w<=4):∀p≤2,(fP w p).length<=4^p
 |0,_=>by simp[fP]
 | p+1,u=>by
   have:=kI j p `a
   have l:=rj (λs:List Nat=>(List.range w).map λx=>s++[x]) 4 (fP w p) (λd hd=>by simpa using j)
   calc _<=(fP w p).length*4:=l
    _<=4^p*4:=Nat.mul_le_mul_right _ this
    _=4^(p+1):=by rw[Nat.pow_succ]
def vQ (hm:bh m):(cE m).length<=16:=by
 have h:=kI hm.w4 m.places hm.p2;have h1:=hm.p1;have h2:=hm.p2;have:m.places=1\/m.places=2:=`a
 rcases this with e|e<;>rw[e] at h<;>unfold cE<;>rw[e]<;>omega
noncomputable def eF:bb->List Nat->Nat
 |.turn a t _,s=>t.getD (s.getD a 0) 0
 |.join a o t _,s=>(t.getD (s.getD a 0) []).getD (s.getD o 0) 0
 |.move _ o _,s=>s.getD o 0
 |.put _ x _,_=>x
def bb.at':bb->Nat
 |.turn a _ _=>a
 |.join a _ _ _=>a
 |.move a _ _=>a
 |.put a _ _=>a
def fj (d:bb)(s:List Nat):List Nat:=s.take d.at'++[eF d s]++s.drop (d.at'+1)
def getD_mem {j:Type}{l:List j}{d:j}(h:i<l.length):l.getD i d∈l:=by
 rw[Rk,QA h];exact Q4 h
def yk {m:ba}(hd:bQ m.words m.places d)(hs:g7 m s):eF d s<m.words:=by
 obtain⟨hl,j⟩:=hs;cases d with
 | turn a t c=>
   obtain⟨h1,h2,h3⟩:=hd;have:=j _ (getD_mem (d:=0) (show a<s.length by omega))
   exact h2.2 _ (getD_mem (by rw[h2.1];exact this))
 | join a o t c=>
   obtain⟨h1,h2,h3,h4⟩:=hd;have a1:=j _ (getD_mem (d:=0) (show a<s.length by omega))
   have a2:=j _ (getD_mem (d:=0) (show o<s.length by omega))
   have a3:=h3.2 _ (getD_mem (d:=[]) (show s.getD a 0<t.length by rw[h3.1];exact a1))
   exact a3.2 _ (getD_mem (by rw[a3.1];exact a2))
 |move a o c=>exact j _ (getD_mem (by obtain⟨h1,h2,h3⟩:=hd;omega))
 |put a x c=>exact hd.2.1
def tV (hd:bQ w p d):d.at'<p:=by cases d<;>exact hd.1
def Bq (hd:bQ m.words m.places d)(hs:g7 m s):g7 m (fj d s):=by
 have h1:=tV hd;have h2:=yk hd hs;obtain⟨hl,j⟩:=hs;refine{by simp[fj];omega,λx hm=>?_}
 simp only[fj,QM,List.mem_singleton] at hm;rcases hm with(z|z)|z
 ·exact j x (Q9 z)
 ·omega
 ·exact j x (RT z)
def bZ (m:ba)(r:List Nat):Prop:=r.length<=40/\∀i∈r,i<m.deeds.length
noncomputable def iN (m:ba)(i:Nat):bb:=m.deeds.getD i (.put 0 0 1)
noncomputable def cm (m:ba):List Nat->List Nat->List Nat
 |[],s=>s
 |i::r,s=>cm m r (fj (iN m i) s)
noncomputable def ff (m:ba):List Nat->List Nat->List (List Nat)
 |[],s=>[s]
 |i::r,s=>s::ff m r (fj (iN m i) s)
def lH {m:ba}(hm:bh m){i:Nat}(hi:i<m.deeds.length):bQ m.words m.places (iN m i):=hm.ok _ (getD_mem hi)
noncomputable def rk (hm:bh m):∀{r:List Nat}{s:List Nat},(∀i∈r,i<m.deeds.length)->g7 m s->g7 m (cm m r s)
 |[],s,_,h=>h
 |i::r,s,hr,h=>rk (r:=r) hm (λj u=>hr j (Qm _ u)) (Bq (lH hm (hr i Qv)) h)
noncomputable def vq:∀(a b s:List Nat),cm m (a++b) s=cm m b (cm m a s)
 |[],b,s=>rfl
 |i::a,b,s=>vq a b _
noncomputable def r9:∀(r:List Nat) (i:Nat) (s:List Nat),ff m (r++[i]) s=ff m r s++[fj (iN m i) (cm m r s)]
 |[],i,s=>rfl
 |j::r,i,s=>by simp[ff,cm,r9 r i]
noncomputable def oM:∀(r s:List Nat),(ff m r s).length=r.length+1
 |[],s=>rfl
 |i::r,s=>by simp[ff,oM r]
noncomputable def sd:∀(r s:List Nat),(ff m r s)[r.length]?=some (cm m r s)
 |[],s=>rfl
 |i::r,s=>by simp[ff,cm,sd r]
def oj (r s:List Nat):((bC (ff m r s).length (-1)).bind λj=>Option.map aJ (ff m r s)[j]?)=some (aJ (cm m r s)):=by
 rw[oM,HB `a]
 show Option.map aJ (ff m r s)[r.length+1-1]?=_;rw[Nat.add_sub_cancel,sd];rfl
def Cj {s:List Nat}(hi:i<s.length):(bC (s.map nD).length (i:Int)).bind (λj=>(s.map nD)[j]?)=some (nD (s.getD i 0)):=by
 rw[dI (by simpa using hi)]
 simp[Rk,hi]
def aP (r:List Nat):D:=.lst (r.map nD)
def Dh {i:Nat}(hi:i<m.deeds.length):((bC (m.deeds.map bb.d).length (i:Int)).bind λj=>(m.deeds.map bb.d)[j]?)=some (iN m i).d:=by
 rw[dI (by simpa using hi)]
 simp[iN,Rk,hi]
def KO {m:ba}:bP m.d (.int 2) M=some (.tup (m.deeds.map bb.d)):=rfl
def vn (hi:i<m.deeds.length):bP (.tup (m.deeds.map bb.d)) (nD i) M=some (iN m i).d:=Dh hi
def Bc {d:bb}:bP d.d (.int (-1)) M=some (nD d.cost):=by cases d<;>rfl
def iv {s:List Nat}(hi:i<s.length):bP (aJ s) (nD i) M=some (nD (s.getD i 0)):=Cj hi
def Bb {t:List (List Nat)}(hi:i<t.length):bP (.tup (t.map aJ)) (nD i) M=some (aJ (t.getD i [])):=by
 show(bC (t.map aJ).length (i:Int)).bind (λj=>(t.map aJ)[j]?)=_;rw[dI (by simpa using hi)]
 simp[Rk,hi]
def bF (M:Mem)(x:D)(r:List Nat):Prop:=x=.lst (r.map nD)\/∃q,x=.cell q/\M[q]?=some (r.map nD)
def bF.l:bF M (.lst (r.map nD)) r:=.inl rfl
def bF.c (h:M[q]?=some (r.map nD)):bF M (.cell q) r:=.inr ⟨q,rfl,h⟩
def bF.sub {M M':Mem}(h:bF M x r)(s:Sub M M'):bF M' x r:=h.elim .inl (by rintro⟨q,e,g⟩;exact .inr {q,e,s.get g})
def bF.seq (h:bF M x r):b7 M x=some (r.map nD):=by
 rcases h with rfl|⟨q,rfl,e⟩
 ·rfl
 ·exact e
def bF.rd (h:bF M x r):gE M x=some (r.map nD):=by
 rcases h with rfl|⟨q,rfl,e⟩
 ·rfl
 ·exact e
def bF.is (h:bF M x r):dN x=true/\eY x=true/\bY .list x=some true:=by
 rcases h with rfl|⟨q,rfl,e⟩<;>exact⟨rfl,rfl,rfl⟩
def bF.len (h:bF M x r):ae (eQ .len [x] M) k↔k (.int r.length) M:=by
 rcases h with rfl|⟨q,rfl,e⟩
 ·show k (.int (r.map nD).length) M↔_;simp
 ·show ae (match M[q]? with|some xs=>_|none=>_) k↔_
  rw[e];simp
def bF.list (h:bF M x r):ae (eQ (.list m) [x] M) k↔ae (bu m (r.map nD) M) k:=by
 rcases h with rfl|⟨q,rfl,e⟩
 ·exact Rl
 ·show ae (match M[q]? with|some xs=>_|none=>_) k↔_
  rw[e]
def bF.vw (h:bF M x r):view M x=.lst (r.map nD):=by
 rcases h with rfl|⟨q,rfl,e⟩
 ·rfl
 ·simp[view,e]
section
variable{P:Nat->Option Df}(h:HasB0 P){M:Mem}
include h
theorem uu (n:Nat)(hm:bh m):ah P (n+8) 13 [m.d] M=.ok .non M:=by
 refine aj (aq h.need_machine rfl ?_);simp[dE,GD h n hm]
theorem wB (h15:P 15=some {1,6,fm})(n:Nat)(hm:bh m):ah P (n+9) 15 [m.d] M=.ok (.lst ((cE m).map aJ)) M:=by
 refine aj (aq h15 rfl ?_);have w4:=hm.w4;have p2:=hm.p2;simp[fm,uu h n hm];simp[ba.d,dA];refine{`d,`a,?_}
 refine cV (λi u j=>j=M/\∃a,u=[some m.d,some (nD m.words),some (nD m.places),some (.tup (m.deeds.map bb.d)),some (.lst ((fP m.words i).map aJ)),a]) (λ_ _ _ _=>rfl) {rfl,none,by simp[ba.d,fP,aJ]} ?_ ?_
 ·rintro i d u j hd ⟨rfl,a,rfl⟩;have y:i<m.places:=by
   have:=(Qg.mp hd).1;simpa using this
  refine{_,rfl,?_};simp[dN];refine yS (λ_=>(List.range m.words).map λ(k:Nat)=>D.int (k:Int)) (λd e=>match d,e with|.tup x,e=>.tup (x++[e])|_,_=>.non) 4 (by simpa using λ_ _=>w4) ?_ rfl ?_ ?_
  ·have:=kI w4 i `a
   have:(4:Nat)^i<=4^2:=Nat.pow_le_pow_right `d `a
   simp only[Qk];exact au `a
  ·intro d hd;obtain⟨s,hs,rfl⟩:=QS.mp hd;have{l1,_}:=vR s hs;refine{_,rfl,(λ_=>some ((List.range m.words).map λ(k:Nat)=>D.int (k:Int))),aR ?_,rfl,λe he=>{_,rfl,aj ?_}}
   ·simp;omega
   ·simp[aJ,sz];omega
  ·have v:((fP m.words i).map aJ).flatMap (λd=>((List.range m.words).map λ(k:Nat)=>D.int (k:Int)).map (λe=>match d,e with|.tup x,e=>D.tup (x++[e])|_,_=>.non))=(fP m.words (i+1)).map aJ:=by
    simp only[fP,Dy,List.flatMap_map,List.map_flatMap,List.map_map]
    congr 1
    funext s
    simp[aJ,Function.comp_def]
   rw[v];refine{?_,rfl,rfl};have:=kI w4 (i+1) `a
   have:(4:Nat)^(i+1)<=4^2:=Nat.pow_le_pow_right `d `a
   simp only[Qk];exact au `a
 ·rintro u j ⟨rfl,a,rfl⟩;simp[cE]
end
section
variable{P:Nat->Option Df}(h:HasM0 P){M:Mem}
include h
theorem GH (n:Nat){m:ba}(hi:i<m.deeds.length):ah P (n+2) 16 [m.d,nD i] M=.ok (.bl true) M:=by
 refine aj (aq h.is_deed_number rfl ?_);simp[fB,ba.d,bC,dX h.toHasB0];omega
theorem xS (n:Nat){m:ba}(v:bF M x r)(hr:∀i∈r,i<m.deeds.length):ah P (n+3) 17 [m.d,x] M=.ok .non M:=by
 refine aj (aq h.need_numbers rfl ?_);obtain⟨y,z,B⟩:=v.is;simp[cz,y,z,B];refine cV (λi u j=>j=M/\∃a b,u=[some m.d,some x,a,b]) (λ_ _ _ e=>by rw[e.1,v.seq];rfl) ⟨rfl,none,none,rfl⟩ ?_ ?_
 ·rintro i d u j hd ⟨rfl,a,b,rfl⟩;rw[cj] at hd;rw[QK] at hd;cases e:r[i]? with
  |none=>rw[e] at hd;cases hd
  | some x=>
    rw[e] at hd;simp at hd;subst hd;refine{_,rfl,?_};simp[GH h n (hr x (QG e))]
 ·rintro u j ⟨rfl,a,b,rfl⟩;simp
theorem mz (n:Nat)(j:bF M x r)(hm:bh m)(hr:bZ m r):ah P (n+9) 18 [m.d,x] M=.ok .non M:=by
 have e:=xS h (n+5) j hr.2;refine aj (aq h.need_row rfl ?_);simp[d3,uu h.toHasB0 n hm,e];rw[j.len];have:=hr.1;simp;omega
theorem Jg (n:Nat)(hm:bh m)(hr:bZ m r):ah P (n+9) 18 [m.d,aP r] M=.ok .non M:=mz h n .l hm hr
end
section
variable{P:Nat->Option Df}(h:tY P){M:Mem}
include h
theorem zQ (n:Nat){m:ba}(hd:bQ m.words m.places (.turn a t c))(hs:g7 m s):ah P (n+1) 20 [(bb.turn a t c).d,aJ s] M=.ok (nD (eF (.turn a t c) s)) M:=by
 obtain⟨h1,h2,h3⟩:=hd;have a1:a<s.length:=by rw[hs.1];exact h1
 have a2:s.getD a 0<t.length:=by rw[h2.1];exact hs.2 _ (getD_mem a1)
 refine aj (aq h.turned rfl ?_);simp[-jQ,-List.getD_eq_getElem?_getD,l9,bb.d,dA,iv a1,iv a2,eF]
theorem zX (n:Nat){a o c:Nat}(hd:bQ m.words m.places (.join a o t c))(hs:g7 m s):ah P (n+1) 21 [(bb.join a o t c).d,aJ s] M=.ok (nD (eF (.join a o t c) s)) M:=by
 obtain⟨h1,h2,h3,h4⟩:=hd;have a1:a<s.length:=by rw[hs.1];exact h1
 have a2:o<s.length:=by rw[hs.1];exact h2
 have a3:s.getD a 0<t.length:=by rw[h3.1];exact hs.2 _ (getD_mem a1)
 have a4:s.getD o 0<(t.getD (s.getD a 0) []).length:=by rw[(h3.2 _ (getD_mem a3)).1];exact hs.2 _ (getD_mem a2)
 refine aj (aq h.joined rfl ?_);simp[-jQ,-List.getD_eq_getElem?_getD,mf,bb.d,dA,iv a1,iv a2,Bb a3,iv a4,eF]
theorem Cs (n:Nat)(hd:bQ m.words m.places (.move a o c))(hs:g7 m s):ah P (n+1) 22 [(bb.move a o c).d,aJ s] M=.ok (nD (eF (.move a o c) s)) M:=by
 obtain⟨h1,h2,h3⟩:=hd;have a2:o<s.length:=by rw[hs.1];exact h2
 refine aj (aq h.moved rfl ?_);simp[-jQ,-List.getD_eq_getElem?_getD,n4,bb.d,dA,iv a2,eF]
theorem Cr (n:Nat):ah P (n+1) 23 [(bb.put a x c).d,aJ s] M=.ok (nD (eF (.put a x c) s)) M:=by
 refine aj (aq h.put_in rfl ?_);simp[ma,bb.d,dA,eF]
end
def O6:dj.lookup (Str.ofString "turn")=some 20:=`k
def O5:dj.lookup (Str.ofString "join")=some 21:=`k
def O4:dj.lookup (Str.ofString "move")=some 22:=`k
def O3:dj.lookup (Str.ofString "put")=some 23:=`k
def Jk {a:Nat}(j:a<=s.length):ae (cM false (aJ s) .non (.int a) M) k↔k (aJ (s.take a)) M:=by
 simp only[cM,aJ,aM,cut];rw[if_neg `a]
 simp;rw[Sd (by simpa using j)]
def GK {a:Nat}(j:a<=s.length):ae (cM false (aJ s) (.int a) .non M) k↔k (aJ (s.drop a)) M:=by
 simp only[cM,aJ,aM,cut];rw[if_neg `a]
 simp;rw[Sd (by simpa using j),Rw `s]
section
variable{P:Nat->Option Df}(h:tY P){M:Mem}
include h
theorem GG (n:Nat){d:bb}(hm:bh m)(hd:bQ m.words m.places d)(hs:g7 m s):ah P (n+2) 24 [d.d,aJ s] M=.ok (aJ (fj d s)) M:=by
 have a0:=tV hd;have l0:=hs.1;have p2:=hm.p2;have j:∀f,ah P (n+1) f [d.d,aJ s] M=.ok (nD (eF d s)) M->bP d.d (.int 1) M=some (nD d.at')->(∀k:D->Mem->Prop,(∃y,bP d.d (.int 0) M=some (.str y)/\dj.lookup y=some f))->ah P (n+2) 24 [d.d,aJ s] M=.ok (aJ (fj d s)) M:=λf e1 e2 u=>by
  obtain⟨y,u,v⟩:=u λ_ _=>True;refine aj (aq h.done rfl ?_);simp only[qA,ay,gD,Bn,jI,aK,cW,cH,cu,cx,jc,gu,aS,bf,xr];simp[-jQ,e1,e2,u,v,cv];rw[Jk `a,e1]
  have z:(d.at':Int)+1=((d.at'+1:Nat):Int):=`a
  rw[z];simp only[aZ,aJ,qC];refine{`d,?_,?_}
  ·simp;exact au `a
  ·rw[show D.tup (s.map nD)=aJ s from rfl,GK `a]
   simp only[aJ,qC];refine{?_,?_,trivial}
   ·simp;exact au `a
   ·simp[fj]
 cases d with
 |turn a t c=>exact j 20 (zQ h n hd hs) rfl λ_=>{_,rfl,O6}
 |join a o t c=>exact j 21 (zX h n hd hs) rfl λ_=>{_,rfl,O5}
 |move a o c=>exact j 22 (Cs h n hd hs) rfl λ_=>{_,rfl,O4}
 |put a x c=>exact j 23 (Cr h n) rfl λ_=>{_,rfl,O3}
end
section
variable{P:Nat->Option Df}(h:HasM P){M:Mem}
include h
theorem v9 (n:Nat)(u:bF M x r)(hm:bh m)(F:r.length<=100000)(hr:∀i∈r,i<m.deeds.length)(hs:g7 m s):ah P (n+3) 25 [m.d,x,aJ s] M=.ok (.cell M.length) (M++[(ff m r s).map aJ]):=by
 refine aj (aq h.all_standing rfl ?_);simp[i6,u.is];refine{`d,?_}
 refine cV (λi B v=>v=M++[(ff m (r.take i) s).map aJ]/\∃a,B=[some m.d,some x,some (aJ s),some (.cell M.length),a]) (λ_ _ _ e=>by rw[e.1];exact(u.sub Sub.app).seq) {by simp[ff],none,rfl} ?_ ?_
 ·rintro i d B v hd ⟨rfl,a,rfl⟩;rw[QK] at hd;cases e:r[i]? with
  |none=>rw[e] at hd;cases hd
  | some x=>
    rw[e] at hd;simp at hd;subst hd;have u:=hr x (QG e);have H:i<r.length:=(Qg.mp e).1;refine{_,rfl,?_};have z:g7 m (cm m (r.take i) s):=rk hm (λj E=>hr j (Q9 E)) hs;have hl:=oM (m:=m) (r.take i) s;have y:(r.take i).length=i:=by simp;omega
    simp[-jQ,KO,vn u,oj,GG h.r n hm (lH hm u) z];refine{?_,?_}
    ·rw[hl,y];exact Sf (show i+1<=100001 by omega) `d
    ·rw[RC,e];simp[r9]
 ·rintro B v ⟨rfl,a,rfl⟩;simp
def pz (m:ba)(r:List Nat):D:=.tup ((cE m).map λs=>aJ (cm m r s))
theorem uw (h15:P 15=some {1,6,fm})(h46:P 46=some {2,2,jt})(n:Nat)(z:bF M x r)(hm:bh m)(v:r.length<=100000)(hr:∀i∈r,i<m.deeds.length):ah P (n+10) 46 [m.d,x] M=.ok (pz m r) (M++(cE m).map λs=>(ff m r s).map aJ):=by
 refine aj (aq h46 rfl ?_);simp[jt,wB h.toHasM0.toHasB0 h15 n hm];refine{rfl,?_};have bl:=vQ hm;refine comp_map (λi j u=>j=((cE m).take i).map (λs=>aJ (cm m r s))/\u=M++((cE m).take i).map λs=>(ff m r s).map aJ) (au `o) (λ_ _ _ _=>rfl) `s ?_ ?_
 ·rintro i d j u hd _ ⟨rfl,y⟩;rw[QK] at hd;cases e:(cE m)[i]? with
  |none=>rw[e] at hd;cases hd
  | some s=>
    rw[e] at hd;have hd:=Qp hd;subst hd;have hs:=xB s (QG e);refine{_,rfl,?_};have st:=v9 h (n+6) (M:=u) (by rw[y];exact z.sub Sub.app) hm v hr hs
    simp[st,oj];rw[y,RC,RC];simp[e]
 ·rintro j u _ ⟨rfl,rfl⟩;simp;exact{au `a,by simp[pz,Rw]}
theorem r6 (h15:P 15=some {1,6,fm})(h27:P 27=some {2,2,je})(h46:P 46=some {2,2,jt})(n:Nat)(j:bF M x r)(hm:bh m)(hr:bZ m r):ah P (n+11) 27 [m.d,x] M=.ok (pz m r) (M++(cE m).map λs=>(ff m r s).map aJ):=by
 refine aj (aq h27 rfl ?_);simp[je,mz h.toHasM0 (n+1) j hm hr,uw h h15 h46 n j hm (Qs hr.1 `d) hr.2]
end
@[simp] theorem oZ:ae (eQ .len [.cell j] M) k↔∃ds,M[j]?=some ds/\k (.int ds.length) M:=by
 show ae (match M[j]? with|some xs=>_|none=>_) k↔_
 cases M[j]?<;>simp
structure aF (M:Mem) (p B:Nat):Prop where
 ex:∃(c:Nat) (cells:List Int) (at_ st:Int),M[p]?=some [.cell c,.int at_,.int st]/\M[c]?=some (cells.map D.int)/\c<p/\0<=at_/\at_<=B/\0<=st
structure aU (p:Nat) (M M':Mem):Prop where
 len:M.length<=M'.length
 at':∀k,k<M.length->k≠p->M'[k]?=M[k]?
def aU.refl:aU p M M:={Qo _,λ_ _ _=>rfl}
def aU.trans (a:aU p M M1)(b:aU p M1 M2):aU p M M2:={Qs a.len b.len,λk hk n=>(b.at' k (QI hk a.len) n).trans (a.at' k hk n)}
def aU.set:aU p M (M.set p ds):={`s,λk _ n=>QH (Ru n)}
def aU.app:aU p M (M++X):={`s,λk hk _=>QR hk}
def aU.get (h:aU p M M')(e:M[k]?=some ds)(n:k≠p):M'[k]?=some ds:=by rw[h.at' k (Qg.mp e).1 n];exact e
def aF.lt (h:aF M p B):p<M.length:=by obtain⟨_,_,_,_,e,_⟩:=h.ex;exact(Qg.mp e).1
def aF.app (h:aF M p B):aF (M++X) p B:=by
 obtain⟨c,j,a,st,e1,e2,r⟩:=h.ex;exact{c,j,a,st,by rw[QR (Qg.mp e1).1];exact e1,by rw[QR (Qg.mp e2).1];exact e2,r}
def aF.mono (h:aF M p B)(E:B<=B'):aF M p B':=by
 obtain⟨c,j,a,st,e1,e2,u,v,z,y⟩:=h.ex;exact{c,j,a,st,e1,e2,u,v,`a,y}
def aF.setq (h:aF M p B)(E:p<q):aF (M.set q ds) p B:=by
 obtain⟨c,j,a,st,e1,e2,u,v,y,z⟩:=h.ex;exact{c,j,a,st,by rw[QH `a];exact e1,by rw[QH `a];exact e2,u,v,y,z}
def aU.setq (h:aU p M M')(j:M.length<=q):aU p M (M'.set q ds):={by simpa using h.len,λk hk n=>by rw[QH `a];exact h.at' k hk n}
def AR {a b A B:Int}(h1:0<=a)(h2:a<=A)(h3:0<=b)(h4:b<=B):0<=a*b/\a*b<=A*B:=
 {Int.mul_nonneg h1 h3,Int.mul_le_mul h2 h4 h3 (Int.le_trans h1 h2)}
noncomputable def nz:List Int:=[2147483629,2147483587,2147483579,2147483563,2147483549,2147483543,2147483497,2147483489,2147483477,2147483423,2147483399,2147483353,2147483323]
def jO:List D:=nz.map D.int
def Au:∀q∈nz,0<q/\q<2147483648:=`d
def oQ (j:Int)(M:Mem):∃q:Int,bP (.lst jO) (.int (j % 13)) M=some (.int q)/\0<q/\q<2147483648:=by
 have h1:0<=j % 13:=RQ _ `d
 have h2:j % 13<13:=RP _ `d
 generalize j % 13=i at h1 h2;obtain⟨k,rfl⟩:=Int.eq_ofNat_of_zero_le h1;have hk:=Int.ofNat_lt.mp h2;refine{nz[k],?_,Au _ (Q4 hk)};show(bC jO.length (k:Int)).bind (λj=>jO[j]?)=_;rw[dI (n:=jO.length) hk];show(nz.map D.int)[k]?=_;rw[QK,QA hk];rfl
section
variable{P:Nat->Option Df}(h:HasP0 P){M:Mem}
include h
omit h in
theorem gZ {x y:Int}(j:a Z M=.ok (.int x) M)(u:b Z M=.ok (.int y) M):ak m .add a b Z M=.ok (.int (x+y)) M:=by
 unfold ak;rw[j];show(b Z M).bind _=_;rw[u];rfl
omit h in
theorem oY {x y:Int}(j:a Z M=.ok (.int x) M)(u:b Z M=.ok (.int y) M)(c:(-(2^64)<x/\x<2^64)\/(-(2^64)<y/\y<2^64)):ak m .mul a b Z M=.ok (.int (x*y)) M:=by
 unfold ak;rw[j];show(b Z M).bind _=_;rw[u];exact if_pos c
omit h in
theorem kQ {x y:Int}(j:a Z M=.ok (.int x) M)(u:b Z M=.ok (.int y) M)(c:0<y):ak m .mod a b Z M=.ok (.int (x % y)) M:=by
 unfold ak;rw[j];show(b Z M).bind _=_;rw[u];exact if_pos c
omit h in
theorem CV {x y:Int}(j:a Z M=.ok (.int x) M)(u:b Z M=.ok (.int y) M)(c:0<=y/\y<=1000000)(d:x.natAbs<2^64):ak m .pow a b Z M=.ok (.int (x^y.toNat)) M:=by
 unfold ak;rw[j];show(b Z M).bind _=_;rw[u];exact if_pos ⟨c.1,c.2,d⟩
omit h in
theorem oR {x q:Int}(hi:Z[i]?.getD none=some (.lst jO))(j:a Z M=.ok (.int x) M)(e:bP (.lst jO) (.int (x % 13)) M=some (.int q)):av (aa i) (ak false .mod a (gI 13)) Z M=.ok (.int q) M:=by
 unfold av;rw[ag hi];show(ak false .mod a _ Z M).bind _=_;rw[kQ j rfl `d];show b8 M _=_;rw[e];rfl
theorem zS {x a:Int}(n:Nat)(R:0<=a)(h1:a<=1000000):ae (ah P (n+1) 28 [.int x,.int a] M) λd M'=>M'=M/\∃v:Int,d=.int v/\0<=v:=by
 refine aq h.law_spread rfl ?_;refine bM rfl (λe=>?_) λe=>?_
 ·exact{rfl,x,rfl,Int.le_trans `d (of_decide_eq_true e)}
 clear e;refine aV (bV rfl) (aV (bV rfl) ?_);obtain⟨S,e1,p1,p2⟩:=oQ a M;obtain⟨U,e2,u,_⟩:=oQ (a+5) M;obtain⟨q3,Q,J,_⟩:=oQ (a+7) M;have y:∀{z c:Int},0<=z->z<=c->c<2^64->z.natAbs<2^64:=λX Y L=>`a
 have lt:∀{z c:Int},0<=z->z<=c->c<2^64->-(2^64)<z/\z<2^64:=λX Y L=>`a
 have r1:=RQ x (show(1000000007:Int)≠0 by decide)
 have r2:=RP x (show(0:Int)<1000000007 by decide)
 obtain⟨m1,m2⟩:=AR r1 (Int.le_of_lt r2) (show 0<=2*a+69069 by omega) (show 2*a+69069<=2069069 by omega)
 refine aV (bV (kQ (CV (gZ (gZ (oY (kQ (ag rfl) rfl `d) (gZ (oY rfl (ag rfl) (.inl `d)) rfl) (.inl (lt r1 (Int.le_of_lt r2) `d))) (oY (ag rfl) rfl (.inl (lt R h1 `d)))) rfl) rfl `d (y (c:=10000000000000000000) `a `a `d)) (oR rfl (ag rfl) e1) p1)) ?_
 generalize (x % 1000000007*(2*a+69069)+a*40503+977)^(3:Int).toNat=B;have j:=RQ B (Int.ne_of_gt p1);have F:=RP B p1;generalize B % S=one at j F;have H:=Int.le_of_lt (Int.lt_trans F p2);obtain⟨m3,m4⟩:=AR j H (show 0<=a+3 by omega) (show a+3<=1000003 by omega)
 refine aV (bV (kQ (CV (gZ (gZ (oY (ag rfl) (gZ (ag rfl) rfl) (.inl (lt j H `d))) (kQ (ag rfl) rfl `d)) rfl) rfl `d (y (c:=10000000000000000000) `a `a `d)) (oR rfl (gZ (ag rfl) rfl) e2) u)) ?_
 generalize (one*(a+3)+x % 65537+5)^(5:Int).toNat=E;have I:=RQ E (Int.ne_of_gt u);have O:=RP E u;generalize E % U=two at I O;refine aV (bV (kQ (CV (gZ (gZ (ag rfl) (kQ (ag rfl) rfl `d)) (ag rfl)) rfl `d (y (c:=10000000000) `a `a `d)) (oR rfl (gZ (ag rfl) rfl) Q) J)) ?_
 generalize (two+one % 1009+a)^(3:Int).toNat=W;have d1:=RQ W (Int.ne_of_gt J);refine bp (gZ (oY (gZ (oY (ag rfl) rfl (.inr `d)) (ag rfl)) rfl (.inr `d)) (ag rfl)) {rfl,_,rfl,?_}
 exact Int.add_nonneg (Int.mul_nonneg (Int.add_nonneg (Int.mul_nonneg j `d) I) `d) d1
omit h in
theorem Pn:bC 3 2=some 2:=rfl
omit h in
theorem rb {l:List Int}{i:Int}(u:0<=i)(h1:i<l.length):∃x,((bC l.length i).bind λj=>Option.map D.int l[j]?)=some (.int x):=by
 obtain⟨k,rfl⟩:=Int.eq_ofNat_of_zero_le u;have hk:k<l.length:=`a
 refine{l[k],?_};rw[dI hk];simp[hk]
def oE:GS:=#v[aw (.one 4) (ak false .mod (av (aa 0) (gI 2)) (aa 1)),fe (aa 0) (gI 2) (ak false .fdiv (av (aa 0) (gI 2)) (aa 1)),aD (aa 4)]
def wm (c:Call):GS:=#v[fe (aa 0) (gI 1) (ak false .add (aa 2) (gI 1)),fe (aa 0) (gI 2) (ai 28 c #[aa 3,aa 2])]
omit h in
theorem Nk {x y:Int}(j:a Z M=.ok (.int x) M)(u:b Z M=.ok (.int y) M)(c:0<y/\y<1073741824):ak m .fdiv a b Z M=.ok (.int (x / y)) M:=by
 unfold ak;rw[j];show(b Z M).bind _=_;rw[u];exact if_pos c
omit h in
theorem bA (j:a Z M=.ok x M)(u:b Z M=.ok y M)(e:bP x y M=some d):av a b Z M=.ok d M:=by
 unfold av;rw[j];show(b Z M).bind _=_;rw[u];show b8 M _=_;rw[e];rfl
omit h in
theorem Ld (e:M[p]?=some [c0,c1,c2]):bP (.cell p) (.int 0) M=some c0/\bP (.cell p) (.int 1) M=some c1/\bP (.cell p) (.int 2) M=some c2:=by
 refine{?_,?_,?_}<;>(show(M[p]?).bind _=_;rw[e];rfl)
omit h in
theorem uK {n:Int}(hd:d Z M=.ok z M')(u:a Z M'=.ok (.cell p) M')(v:b Z M'=.ok (.int n) M')(e:M'[p]?=some ds)(hi:bC ds.length n=some i)(h:ae (rest Z (M'.set p (ds.set i z))) kf):ae (aC (fe a b d) rest Z M) kf:=by
 simp only[ay];unfold fe;rw[hd];show ae ((a Z M').bind _) _;rw[u];show ae ((b Z M').bind _) _;rw[v];show ae (match M'[p]? with|some ds=>(match bC ds.length n with|some j=>Res.ok (Fl.next Z) (M'.set p (ds.set j z))|none=>.bad)|none=>.bad) _
 rw[e];show ae (match bC ds.length n with|some j=>Res.ok (Fl.next Z) (M'.set p (ds.set j z))|none=>.bad) _
 rw[hi];exact h
omit h in
theorem Le (j:t Z M=.ok b M)(h1:b=true->ae (A Z M) (gi rest kf))(h2:b=false->ae (B Z M) (gi rest kf)):ae (aC (aL t A B) rest Z M) kf:=by
 simp only[ay,hU];rw[j];cases b with
 |true=>exact h1 rfl
 |false=>exact h2 rfl
omit h in
theorem rT {j:List Int}{a st:Int}(e1:M1[p]?=some [.cell c,.int a,.int st])(e2:M1[c]?=some (j.map D.int))(lt:c<p)(a0:0<=a)(u:a<=(B+1:Nat))(H:0<=st)(k:aU p M M1)
 (z:0<many) (h1:many<=10000000):ae (oE [some (.cell p),some (nD many),x,y,none] M1) (fL λd M'=>∃v:Nat,d=nD v/\v<many/\aF M' p (B+1)/\aU p M M'):=by
 have E:p<M1.length:=(Qg.mp e1).1;have b0:=Int.ofNat_lt.mpr z;have r1:=RQ st (Int.ne_of_gt b0);have r2:=RP st b0;refine aV (bV (kQ (bA (ag rfl) rfl (Ld e1).2.2) (ag rfl) b0)) (uK (Nk (bA (ag rfl) rfl (Ld e1).2.2) (ag rfl) {b0,`a}) (ag rfl) rfl e1 rfl (bp (ag rfl) ?_))
 obtain⟨v,F⟩:=Int.eq_ofNat_of_zero_le r1;refine{v,congrArg D.int F,`a,{c,j,a,st / many,QW E,?_,lt,a0,u,Int.ediv_nonneg H (Int.le_of_lt b0)},k.trans aU.set}
 rw[QH (Rv lt)];exact e2
theorem wy (n:Nat){p B many:Nat}(R:aF M p B)(hB:B<=1000000)(I:0<many)(h1:many<=10000000):ae (ah P (n+2) 31 [.cell p,nD many] M) λd M'=>∃v:Nat,d=nD v/\v<many/\aF M' p (B+1)/\aU p M M':=by
 obtain⟨c,u,a,st,e1,e2,lt,a0,Y,W⟩:=R.ex;have z:p<M.length:=(Qg.mp e1).1;obtain⟨H,S,U⟩:=Ld e1;refine aq h.law_take rfl ?_;show ae (aC (aL _ (aC _ (aC _ (aC _ (wm (ah P (n+1)))))) _) oE [some (.cell p),some (nD many),none,none,none] M) _;have y:∀(x:Int),ae (wm (ah P (n+1)) [some (.cell p),some (nD many),some (.int a),some (.int x),none] M) (gi oE (fL λd M'=>∃v:Nat,d=nD v/\v<many/\aF M' p (B+1)/\aU p M M')):=by
  intro x;refine uK (gZ (ag rfl) rfl) (ag rfl) rfl e1 rfl ?_;obtain⟨_,_,Q,rfl,v,rfl,X⟩:=ic.mp (zS h n a0 `a)
  refine uK ((aQ (af (ag rfl) (af (ag rfl) rfl))).trans Q) (ag rfl) rfl (QW z) rfl ?_;have ne:=Rv lt;exact rT (QW (by rw[List.length_set];exact z)) (by rw[QH ne,QH ne];exact e2) lt `a `a X (aU.set.trans aU.set) I h1
 have len:aH .len #[av (aa 0) (gI 0)] [some (.cell p),some (nD many),some (.int a),some (.int 0),none] M=.ok (.int (u.length:Nat)) M:=by
  refine aj ?_;simp only[cK];rw[af (bA (ag rfl) rfl H) rfl,aZ];exact oZ.mpr {_,e2,by rw[Qk],rfl}
 refine bM (b:=decide (st<(many:Int))) (a8 (aj ?_)) (λJ=>?_) λJ=>?_
 ·simp only[dw];rw[bA (ag rfl) rfl U,aZ,ag rfl,aZ];exact{_,rfl,rfl,rfl}
 ·refine aV (bV (bA (ag rfl) rfl S)) (aV (bV rfl) ?_);show ae (aC _ _ [some (.cell p),some (nD many),some (.int a),some (.int 0),none] M) _;have E:∀{i:Int}{x:D},((bC u.length i).bind λj=>Option.map D.int u[j]?)=some x->bP (.cell c) (.int i) M=some x:=λ{i x} ex=>by
   show(M[c]?).bind _=_;rw[e2];show((bC (u.map D.int).length i).bind λj=>(u.map D.int)[j]?)=_;simp only[Qk,QK];exact ex
  refine Le (b:=decide (a<(u.length:Int))) (a8 (aj ?_)) (λL=>?_) λ_=>?_
  ·simp only[dw];rw[ag rfl,aZ,len,aZ];exact{_,rfl,rfl,rfl}
  ·obtain⟨x,ex⟩:=rb a0 (of_decide_eq_true L);exact aV (bV (bA (bA (ag rfl) rfl H) (ag rfl) (E ex))) (y x)
  ·refine bM (b:=decide ((0:Int)<(u.length:Int))) (a8 (aj ?_)) (λO=>?_) λ_=>y 0
   ·simp only[dw,cW];rw[len,aZ];exact{_,rfl,rfl,rfl}
   ·have F:=of_decide_eq_true O;obtain⟨x,ex⟩:=rb (RQ (a*5+3) (Int.ne_of_gt F)) (RP _ F);exact aV (bV (kQ (bA (bA (ag rfl) rfl H) (kQ (gZ (oY (ag rfl) rfl (.inr `d)) rfl) len F) (E ex)) (gZ rfl (ag rfl)) (Int.lt_of_lt_of_le `d (Int.le_add_of_nonneg_right a0)))) (y _)
 ·exact rT e1 e2 lt a0 `a W .refl I h1
end
noncomputable def bb.withC:bb->Nat->bb
 |.turn a t _,c=>.turn a t c
 |.join a o t _,c=>.join a o t c
 |.move a o _,c=>.move a o c
 |.put a x _,c=>.put a x c
def BS {w p c:Nat}{d:bb}(h:bQ w p d)(u:eL c):bQ w p (d.withC c):=by
 cases d with
 |turn=>exact⟨h.1,h.2.1,u⟩
 |join=>exact⟨h.1,h.2.1,h.2.2.1,u⟩
 |move=>exact⟨h.1,h.2.1,u⟩
 |put=>exact⟨h.1,h.2.1,u⟩
def Ii {w p:Nat}{d:bb}(h:bQ w p d):eL d.cost:=by
 cases d with
 |turn=>exact h.2.2
 |join=>exact h.2.2.2
 |move=>exact h.2.2
 |put=>exact h.2.2
def DU {d:bb}{c:Nat}{M:Mem}{k:D->Mem->Prop}(hk:k (d.withC c).d M):ae (cM false d.d .non (.int (-1)) M) λx M=>ae (fM false .add x (.tup [nD c]) M) k:=by
 cases d<;>(simp[bb.d,cM,aM,cut];exact{`d,hk})
def Co (n:Nat)(d:bb):aE (n+3) d.d=true:=by
 have v:∀(n:Nat) (l:List Nat),(l.map nD).all (aE n)=true:=λn l=>by
  rw[Qq];intro x u;obtain⟨i,_,rfl⟩:=QS.mp u;cases n<;>rfl
 cases d with
 |turn a t c=>simp[bb.d,aE,aJ,nD];decide +kernel
 |join a o t c=>simp[bb.d,aE,nD,aJ];decide +kernel
 |move a o c=>simp[bb.d,aE,nD];decide +kernel
 |put a x c=>simp[bb.d,aE,nD];decide +kernel
def ne_nil {M:Mem}{q:Nat}{ds:List bb}(e:M[q]?=some (ds.map bb.d)):br .ne (.cell q) (.lst []) M=some (!ds.isEmpty):=by
 have hp:(ds.map bb.d).all (aE 63)=true:=by
  rw[Qq];intro x v;obtain⟨d,_,rfl⟩:=QS.mp v;exact Co 60 d
 have u:view M (.cell q)=.lst (ds.map bb.d):=by simp[view,e]
 have h1:=hp;refine hJ (by rw[u];exact h1) rfl ?_
 rw[u];cases ds<;>rfl
@[simp] theorem Ky {m:Bool}{x:List D}{j:Int}{M:Mem}{k:D->Mem->Prop}:ae (fM m .mul (.tup x) (.int j) M) k↔(x.length*j.toNat<=sz/\-(2^63)<=j/\j<2^63)/\k (.tup (List.replicate j.toNat x).flatten) M:=la
@[simp] theorem Kz {m:Bool}{x:List D}{j:Int}{M:Mem}{k:D->Mem->Prop}:ae (fM m .mul (.lst x) (.int j) M) k↔(x.length*j.toNat<=sz/\-(2^63)<=j/\j<2^63)/\ae (bu m (List.replicate j.toNat x).flatten M) k:=la
def uA {xs:List D}{a:Nat}{M:Mem}{k:D->Mem->Prop}:ae (cM false (.lst xs) .non (.int a) M) k↔(xs.take a).length<=sz/\k (.lst (xs.take a)) M:=by
 have e:cut xs 0 (min a xs.length)=xs.take a:=by
  unfold cut;rcases Nat.le_total a xs.length with h|h
  ·rw[Sd h];simp
  ·rw[Nat.min_eq_right h];simp[Rw h]
 show ae (match aM xs.length 0 D.non,aM xs.length xs.length (.int a) with|some l,some h=>bu false (cut xs l h) M|_,_=>.bad) k↔_
 have e2:aM xs.length xs.length (.int a)=some (min a xs.length):=by
  show some _=_;rw[if_neg `a];simp
 rw[e2];show ae (bu false (cut xs 0 (min a xs.length)) M) k↔_;rw[e,a9]
def uB {xs:List D}{a:Nat}{M:Mem}{k:D->Mem->Prop}:ae (cM false (.lst xs) (.int a) .non M) k↔(xs.drop a).length<=sz/\k (.lst (xs.drop a)) M:=by
 have e:cut xs (min a xs.length) xs.length=xs.drop a:=by
  unfold cut;rcases Nat.le_total a xs.length with h|h
  ·rw[Sd h,Rw `s]
  ·rw[Nat.min_eq_right h];simp[List.drop_eq_nil_of_le h]
 show ae (match aM xs.length 0 (.int a),aM xs.length xs.length D.non with|some l,some h=>bu false (cut xs l h) M|_,_=>.bad) k↔_
 have e2:aM xs.length 0 (.int a)=some (min a xs.length):=by
  show some _=_;rw[if_neg `a];simp
 rw[e2];show ae (bu false (cut xs (min a xs.length) xs.length) M) k↔_;rw[e,a9]
def vF {w:Nat}{ge:GE}{Z:Env}{M:Mem}{u:List D->Mem->Prop}(f:Nat->Nat)(v:w<=100)(hf:∀k,k<w->ge (some (.int (k:Int))::Z) M=.ok (nD (f k)) M)(hk:u (((List.range w).map f).map nD) M) :
 ae (dU (dW (.one 0) (bN ge) (none::Z)) (λ_=>some ((List.range w).map λ(k:Nat)=>D.int (k:Int))) [] M) u:=by
 refine fW (λd=>match d with|.int i=>nD (f i.toNat)|_=>.non) (au `o) rfl (λd hd=>?_) ?_
 ·obtain⟨k,hk,rfl⟩:=QS.mp hd;exact{_,rfl,hf k (List.mem_range.mp hk)}
 ·simpa[Function.comp_def] using hk
def wt {w:Nat}{f:Nat->Nat}(hf:∀k,k<w->f k<w):fT w ((List.range w).map f):={`s,λx u=>by
 obtain⟨k,hk,rfl⟩:=QS.mp u;exact hf k (List.mem_range.mp hk)}
section
variable{P:Nat->Option Df}(h:HasP0 P){M:Mem}
include h
theorem GJ (n:Nat){p B:Nat}(hp:aF M p B):ae (ah P (n+1) 30 [.cell p] M) λd M'=>d=.cell p/\aF M' p B/\aU p M M':=by
 obtain⟨c,u,a,st,e1,e2,lt,a0,y,z⟩:=hp.ex;have ne:=Q3 lt;have v:p<M.length:=(Qg.mp e1).1;refine aq h.law_anew rfl ?_;simp[kU,e1,Pn];refine{{c,u,a,0,by simp[v],?_,lt,a0,y,`a},aU.set}
 rw[QH (Ru ne)];exact e2
theorem tk (n:Nat){p B many:Nat}{k:D->Mem->Prop}(hp:aF M p B)(hB:B<=1000000)(h0:0<many)(h1:many<=10000000)(hk:∀(v:Nat) (M':Mem),v<many->aF M' p (B+1)->aU p M M'->k (nD v) M'):ae (ah P (n+2) 31 [.cell p,nD many] M) k:=
 aA (wy h n hp hB h0 h1) λd M' ⟨v,e,z,y,u⟩=>by subst e;exact hk v M' z y u
end
def bd {B c k m:Nat}(h:B<=c)(e:c+k<=m):B+k<=m:=Qs (Nat.add_le_add_right h k) e
def yx {B k m:Nat}(e:k<=m):B+k<=B+m:=Nat.add_le_add_left e B
def nJ {xs:List D}{v:Nat}{M:Mem}(h:v<xs.length):bP (.lst xs) (nD v) M=some xs[v]:=by
 show(bC xs.length (v:Int)).bind (λj=>xs[j]?)=_;rw[dI h];simp[h]
def yv {Z:Env}{M:Mem}{j v c:Nat}(h:Z[j]?.getD none=some (nD v)):(ao (az .lt (aa j) (gC (.int (c:Int)))):GT) Z M=.ok (decide (v<c)) M:=by
 refine aR ?_;simp only[eV,dw,aK,cW];refine{_,h,_,rfl,_,rfl,?_,trivial};simp
def kG {Z:Env}{M:Mem}{j v c:Nat}(h:Z[j]?.getD none=some (nD v)):(ao (az .eq (aa j) (gC (.int (c:Int)))):GT) Z M=.ok ((v:Int)==(c:Int)) M:=by
 refine aR ?_;simp only[eV,dw,aK,cW];exact{_,h,_,rfl,_,rfl,rfl,trivial}
def Fx {Z:Env}{M:Mem}{j v c:Nat}(h:Z[j]?.getD none=some (nD v)):(ao (az .gt (aa j) (gC (.int (c:Int)))):GT) Z M=.ok (decide ((c:Int)<(v:Int))) M:=by
 refine aR ?_;simp only[eV,dw,aK,cW];exact{_,h,_,rfl,_,rfl,rfl,trivial}
section
variable{Z:Env}{M:Mem}{g a:GE}{rest:GS}{kf:Fl->Mem->Prop}
section
variable{P:Nat->Option Df}(hp_:HasP0 P)(n:Nat){i j p B many:Nat}(hj:Z[j]?.getD none=some (.cell p))(hg:g Z M=.ok (nD many) M)(hp:aF M p B)(hB:B<=1000000)(h0:0<many)(h1:many<=10000000)
include hp_ hj hg hp hB h0 h1
theorem dB:ae (ai 31 (ah P (n+2)) #[aa j,g] Z M) λd M'=>∃v:Nat,d=nD v/\v<many/\aF M' p (B+1)/\aU p M M':=by
 rw[aQ (af (ag hj) (af hg rfl))];exact wy hp_ n hp hB h0 h1
theorem ez (hk:∀(v:Nat) (M':Mem),v<many->aF M' p (B+1)->aU p M M'->ae (rest (Z.set i (some (nD v))) M') kf):ae (aC (aw (.one i) (ai 31 (ah P (n+2)) #[aa j,g])) rest Z M) kf:=by
 refine bq (dB hp_ n hj hg hp hB h0 h1) ?_;rintro x M' ⟨v,rfl,a,b,c⟩;exact hk v M' a b c
theorem Du {xs:List D}(hl:a Z M=.ok (.lst xs) M)(hz:xs.length=many):ae (av a (ai 31 (ah P (n+2)) #[aa j,g]) Z M) λd M'=>d∈xs/\aF M' p (B+1)/\aU p M M':=by
 unfold av;rw[hl,bo,aZ,bo];refine aA (dB hp_ n hj hg hp hB h0 h1) ?_;rintro x M' ⟨v,rfl,a,b,c⟩;rw[nJ `a]
 exact{Q4 _,b,c}
end
end
section
variable{Z:Env}{M:Mem}{k:D->Mem->Prop}
def ft {e:GE}{K:Fl->Mem->Prop}(h:ae (e Z M) λx M=>K (.ret x) M):ae (#v[aD e] Z M) K:=by
 simp only[ay,cu];exact h
def AS {e:GE}{j v w:Nat}(he:e Z M=.ok (nD v) M)(hj:Z[j]?.getD none=some (nD w))(u:0<w):ak false .mod e (aa j) Z M=.ok (nD (v % w)) M:=by
 unfold ak;rw[he];show(aa j Z M).bind _=_;rw[ag hj];show(if (0:Int)<(w:Int) then Res.ok (D.int ((v:Int) % (w:Int))) M else .bad)=_;rw[if_pos `a]
 rfl
def rJ {e f:GE}{v w:Nat}(he:e Z M=.ok (nD v) M)(hf:f Z M=.ok (nD w) M):ak false .add e f Z M=.ok (nD (v+w)) M:=by
 unfold ak;rw[he];show(f Z M).bind _=_;rw[hf];rfl
def Jf {e:GE}{v c:Nat}(he:e Z M=.ok (nD v) M)(u:c<=v):ak false .sub e (gC (.int (c:Int))) Z M=.ok (nD (v-c)) M:=by
 unfold ak;rw[he];show Res.ok (D.int ((v:Int)-(c:Int))) M=_;rw[<- Int.ofNat_sub u]
end
section
variable{P:Nat->Option Df}(h:HasP P){M:Mem}
include h
theorem zR (n:Nat){p B w:Nat}(hp:aF M p B)(hB:B<=900000)(w2:2<=w)(w4:w<=4):ae (ah P (n+3) 32 [.cell p,nD w] M) λd M'=>∃t,d=aJ t/\fT w t/\aF M' p (B+7)/\aU p M M':=by
 have R:0<w:=QI `d w2
 have X:w<=10000000:=Qs w4 (Qx rfl);refine aq h.law_tab rfl ?_;show ae (jK (ah P (n+2)) [some (.cell p),some (nD w),none,none,none,none] M) _;unfold jK;refine ez h n rfl rfl hp (Qs hB `d) `d `d λkind M1 hk p1 k1=>?_
 refine ez h n rfl rfl p1 (bd hB `d) R X λu M2 W p2 k2=>?_
 refine ez h n rfl rfl p2 (bd (k:=2) hB `d) R X λE O ho Y k3=>?_
 have Q:=(k1.trans k2).trans k3;have J:∀(l:List Nat) (M':Mem),fT w l->aF M' p (B+7)->aU p M M'->(l.map nD).length<=sz/\∃t,D.tup (l.map nD)=aJ t/\fT w t/\aF M' p (B+7)/\aU p M M':=λl M' hl F H=>{au (by rw[Qk,hl.1];omega),l,rfl,hl,F,H}
 have S:aF O p (B+7):=Y.mono (yx (k:=3) `d)
 show ae (aC _ _ [some (.cell p),some (nD w),some (nD kind),some (nD u),some (nD E),none] O) _;refine bM (yv rfl) (λ_=>?_) λ_=>?_
 ·simp only[ay,cu,cK,aS,bf,fi,fD,aK];refine{_,rfl,_,rfl,{`a,`a},?_}
  refine comp_map (λi I M'=>∃t:List Nat,I=t.map nD/\(∀x∈t,x<w)/\aF M' p (B+3+i)/\aU p M M') (au `o) (λ_ _ _ _=>rfl) {[],rfl,(λ_ L=>nomatch L),Y,Q} ?_ ?_
  ·rintro i d I M' hd _ ⟨t,rfl,U,F,H⟩;have hi:i<w:=by
    have:=(Qg.mp hd).1;simpa using this
   refine{_,rfl,aA (dB h n rfl rfl F `a R X) ?_}
   rintro _ M4 ⟨v,rfl,hv,p4,k4⟩;refine{t++[v],by rw[RF];rfl,λx L=>?_,p4,H.trans k4}
   rcases QM.mp L with z|z
   ·exact U x z
   ·rw[Qz.mp z];exact hv
  ·rintro I M' hl ⟨t,rfl,U,F,H⟩;simp only[Qk,Rx] at hl F;exact a9.mpr (J t M' ⟨hl,U⟩ (F.mono `a) H)
 refine bM (kG rfl) (λ_=>?_) λ_=>?_
 ·simp only[ay,cu,cK,aS,bf,fi,fD,aK];refine{_,rfl,_,rfl,{`a,`a},?_}
  exact vF (λk=>(k+1+u) % w) `a (λk hk=>AS (rJ (rJ (ag rfl) rfl) (ag rfl)) rfl R) (a9.mpr (J _ O (wt λk _=>Nat.mod_lt _ R) S Q))
 refine bM (kG rfl) (λ_=>?_) λ_=>?_
 ·simp only[ay,cu,cK,aS,bf,fi,fD,aK];refine{_,rfl,_,rfl,{`a,`a},?_}
  refine vF (λk=>if k=u then E else k) `a (λk hk=>?_) (a9.mpr (J _ O (wt λk hk=>by split<;>assumption) S Q))
  have e:(ao (az .eq (aa 0) (aa 4)):GT) [some (.int (k:Int)),some (.cell p),some (nD w),some (nD kind),some (nD u),some (nD E),none] O=.ok ((k:Int)==(u:Int)) O:=rfl;by_cases ck:k=u
  ·rw[if_pos ck];exact gq (k:=true) (e.trans (by rw[ck,beq_self_eq_true])) (λ_=>rfl) (λz=>nomatch z)
  ·rw[if_neg ck];exact gq (k:=false) (e.trans (by rw[Q8.mpr `a])) (λz=>nomatch z) (λ_=>rfl)
 refine bM (kG rfl) (λ_=>ft ?_) λ_=>?_
 ·simp only[cx,gu,aS,bf,aK];refine{_,rfl,au (n:=1) `d,_,rfl,Ky.mpr {{au `o,`a,`a},List.replicate w u,?_,{List.length_replicate,λx L=>by rw[List.eq_of_mem_replicate L];exact W},S,Q}}
  simp[aJ,nD]
 ·simp only[ay,gD,HN,aK,Ak,cu,cK,aS,bf,cH];simp;refine{`a,au `a,u,dI W,E,dI ho,((List.range w).set u E).set E u,?_,{`s,λx L=>?_},S.app,Q.trans aU.app}
  ·simp[aJ,nD,List.map_set]
  ·rcases List.mem_or_eq_of_mem_set L with z|rfl
   ·rcases List.mem_or_eq_of_mem_set z with y|rfl
    ·exact List.mem_range.mp y
    ·exact ho
   ·exact W
theorem Cy (n:Nat){p B w pl:Nat}(hp:aF M p B)(hB:B<=800000)(w2:2<=w)(w4:w<=4)(p1:1<=pl)(p2:pl<=2):ae (ah P (n+4) 33 [.cell p,nD w,nD pl] M) λd M'=>∃e:bb,d=e.d/\bQ w pl e/\aF M' p (B+40)/\aU p M M':=by
 have X:pl<=10000000:=Qs p2 (Qx rfl);refine aq h.law_deed rfl ?_;show ae (jf (ah P (n+3)) [some (.cell p),some (nD w),some (nD pl),none,none,none,none] M) _;unfold jf;refine ez h (n+1) rfl rfl hp (Qs hB `d) `d `d λkind Y hk q1 k1=>?_
 refine bq (k:=λd M'=>∃v:Nat,d=nD (1+v)/\v<3/\aF M' p (B+2)/\aU p Y M') ?_ ?_
 ·rw[cx];simp only[cW];refine aA (dB h (n+1) rfl rfl q1 (bd hB `d) `d `d) ?_
  rintro _ M2 ⟨v,rfl,J,q,kk⟩;exact iG.mpr {v,by show D.int (1+(v:Int))=D.int ((1+v:Nat):Int);rw[Se];rfl,J,q,kk}
 rintro _ M2 ⟨price,rfl,hc,q2,k2⟩;refine ez h (n+1) rfl rfl q2 (bd hB `d) p1 X λat_ M3 O q3 k3=>?_
 refine ez h (n+1) rfl rfl q3 (bd (k:=3) hB `d) p1 X λu F ho Q U=>?_
 have L:=((k1.trans k2).trans k3).trans U;have co:eL (1+price):={`a,`a}
 have W:aF F p (B+40):=Q.mono (yx (k:=4) `d)
 show ae (aC _ _ [some (.cell p),some (nD w),some (nD pl),some (nD kind),some (nD (1+price)),some (nD at_),some (nD u)] F) _;refine bM (yv rfl) (λ_=>ft ?_) λ_=>?_
 ·simp only[gu,aS,bf,cW,aK,iz];refine{_,rfl,_,rfl,_,rfl,aA (zR h n Q (bd (k:=4) hB `d) w2 w4) λd M' ⟨t,e,I,y,E⟩=>{_,rfl,au (n:=4) `d,.turn at_ t (1+price),?_,⟨O,I,co⟩,y.mono (yx (k:=11) `d),L.trans E}}
  subst e;rfl
 refine bM (yv rfl) (λ_=>ft ?_) λ_=>?_
 ·obtain⟨o,eo,R⟩:∃o:Nat,cT (ao (az .eq (aa 3) (gI 3))) (ak false .mod (ak false .add (aa 5) (gI 1)) (aa 2)) (aa 6) [some (.cell p),some (nD w),some (nD pl),some (nD kind),some (nD (1+price)),some (nD at_),some (nD u)] F=.ok (nD o) F/\o<pl:=by
   have e:(ao (az .eq (aa 3) (gI 3)):GT) [some (.cell p),some (nD w),some (nD pl),some (nD kind),some (nD (1+price)),some (nD at_),some (nD u)] F=.ok ((kind:Int)==3) F:=kG rfl;cases q:(kind:Int)==3 with
   |true=>rw[q] at e;exact{(at_+1) % pl,gq e (λ_=>AS (rJ (ag rfl) rfl) rfl p1) (λz=>nomatch z),Nat.mod_lt _ p1}
   |false=>rw[q] at e;exact{u,gq e (λz=>nomatch z) (λ_=>ag rfl),ho}
  simp only[gu,aS,bf,cW,aK];refine{_,rfl,?_};rw[eo,aZ];exact{_,rfl,au (n:=4) `d,.move at_ o (1+price),rfl,⟨O,R,co⟩,W,L}
 refine bM (kG rfl) (λ_=>ft ?_) λ_=>?_
 ·simp only[gu,aS,bf,cW];show ae (ah P (n+3) 31 [.cell p,nD w] F) _;refine tk h (n+1) Q (bd (k:=4) hB `d) (QI `d w2) (Qs w4 (Qx rfl)) λv M5 J q5 k5=>?_
  exact{au (n:=4) `d,.put at_ v (1+price),rfl,⟨O,J,co⟩,q5.mono (yx (k:=5) `d),L.trans k5}
 ·simp only[ay,cu,gu,aS,bf,cW,cK,fi,fD,aK];refine{_,rfl,_,rfl,_,rfl,_,rfl,{`a,`a},?_}
  refine comp_map (λi H M'=>∃t:List (List Nat),H=t.map aJ/\(∀x∈t,fT w x)/\aF M' p (B+4+i*7)/\aU p M M') (au `o) (λ_ _ _ _=>rfl) {[],rfl,(λ_ S=>nomatch S),Q,L} ?_ ?_
  ·rintro i d H M' hd _ ⟨t,rfl,I,y,E⟩;have hi:i<w:=by
    have:=(Qg.mp hd).1;simpa using this
   refine{_,rfl,?_};rw[aQ (af (ag rfl) (af (ag rfl) rfl))];refine aA (zR h n y `a w2 w4) ?_
   rintro _ F ⟨v,rfl,J,p4,U⟩;refine{t++[v],by rw[RF];rfl,λx S=>?_,p4.mono `a,E.trans U}
   rcases QM.mp S with z|z
   ·exact I x z
   ·rw[Qz.mp z];exact J
  ·rintro H M' hl ⟨t,rfl,I,y,E⟩;simp only[Qk,Rx] at hl y;exact a9.mpr {au (by rw[Qk];omega),_,rfl,au (n:=5) `d,.join at_ u t (1+price),rfl,{O,ho,⟨hl,I⟩,co},y.mono `a,E}
theorem xT (n:Nat){p B W Pl mo:Nat}(hp:aF M p B)(hB:B<=700000)(W2:2<=W)(W4:W<=4)(P1:1<=Pl)(P2:Pl<=2)(m1:1<=mo)(m6:mo<=6):ae (ah P (n+5) 34 [.cell p,nD W,nD Pl,nD mo] M) λd M'=>∃m:ba,d=m.d/\bh m/\m.words<=W/\m.places<=Pl/\m.deeds.length<=mo/\aF M' p (B+300)/\aU p M M':=by
 refine aq h.law_machine rfl ?_;show ae (gv (ah P (n+4)) [some (.cell p),some (nD W),some (nD Pl),some (nD mo),none,none,none,none] M) _;unfold gv;have plus:∀{Z:Env}{M:Mem}{g:GE}{B c many:Nat}{rest:GS}{K:Fl->Mem->Prop}{i:Nat},Z[0]?.getD none=some (.cell p)->g Z M=.ok (nD many) M->aF M p B->B<=1000000->0<many->many<=10000000->(∀(v:Nat) (M':Mem),v<many->aF M' p (B+1)->aU p M M'->ae (rest (Z.set i (some (nD (c+v)))) M') K)->ae (aC (aw (.one i) (ak false .add (gC (.int (c:Int))) (ai 31 (ah P (n+4)) #[aa 0,g]))) rest Z M) K:=by
  intro Z M g B c many rest K i e0 eg hp hB h0 h1 hk;refine bq (k:=λd M'=>∃v:Nat,d=nD (c+v)/\v<many/\aF M' p (B+1)/\aU p M M') ?_ ?_
  ·rw[cx];simp only[cW];refine aA (dB h (n+2) e0 eg hp hB h0 h1) ?_;rintro _ M2 ⟨v,rfl,hv,q,kk⟩;exact iG.mpr {v,by show D.int ((c:Int)+(v:Int))=D.int ((c+v:Nat):Int);rw[Se],hv,q,kk}
  ·rintro _ M' ⟨v,rfl,a,b,c⟩;exact hk v M' a b c
 refine plus rfl (Jf (c:=1) (ag rfl) `a) hp (Qs hB `d) `a `a λw M1 hw q1 k1=>?_
 refine plus rfl (ag rfl) q1 (bd hB `d) P1 (Qs P2 (Qx rfl)) λpl M2 hpl q2 k2=>?_
 have pl2:=q2.lt;have K2:=k1.trans k2;have ML:=K2.len;have w2:2<=2+w:=Nat.le_add_right _ _;have w4:2+w<=4:=`a
 have l1:1<=1+pl:=Nat.le_add_right _ _;have l2:1+pl<=2:=`a
 generalize hW:2+w=w' at w2 w4;generalize hP:1+pl=p' at l1 l2;refine bq (k:=λd M'=>d=.cell M2.length/\M'=M2++[[]]) ?_ ?_
 ·simp only[iy,bf];exact iV.mpr {RN _,rfl,rfl}
 rintro _ _ ⟨rfl,rfl⟩;show ae (aC _ _ [some (.cell p),some (nD w'),some (nD p'),some (nD mo),some (.cell M2.length),none,none,none] (M2++[[]])) _;simp only[ay,cP,fD,cx,cW];refine aA (dB h (n+2) rfl rfl q2.app (bd (k:=2) hB `d) m1 (Qs m6 (Qx rfl))) ?_
 rintro _ M3 ⟨many,rfl,hmany,q3,k3⟩;have e3:=k3.get (RM) `a
 have K3:=K2.trans (aU.app.trans k3);generalize hq:M2.length=q at *;refine iG.mpr {_,rfl,{`a,`a},?_}
 rw[show(1+(many:Int)).toNat=1+many by omega]
 refine cV (λi Z M'=>∃ds:List bb,M'[q]?=some (ds.map bb.d)/\ds.length=i/\(∀d∈ds,bQ w' p' d)/\aF M' p (B+3+i*45)/\aU p M M'/\∃a b c,Z=[some (.cell p),some (nD w'),some (nD p'),some (nD mo),some (.cell q),a,b,c])
  (λ_ _ _ _=>rfl) {[],e3,rfl,(λ_ hd=>nomatch hd),q3,K3,none,none,none,rfl} ?_ ?_
 ·rintro i d Z M' hd ⟨ds,e4,hl,hds,q4,K4,a,b,c,rfl⟩;have hi:i<1+many:=by
   have:=(Qg.mp hd).1;simpa using this
  have hi6:i<=5:=`a
  have hB4:B+3+i*45<=700228:=`a
  have hqM:=ML;have hpq:=pl2;refine{_,rfl,?_};refine ez h (n+2) rfl rfl q4 (Qs hB4 `d) `d `d λagain M5 ha q5 k5=>?_
  have e5:=k5.get e4 (Rv hpq);refine bq (k:=λd M'=>∃e:bb,d=e.d/\bQ w' p' e/\aF M' p (B+3+i*45+41)/\aU p M5 M') ?_ ?_
  ·rw[aQ (af (ag rfl) (af (ag rfl) (af (ag rfl) rfl)))];exact aA (Cy h n q5 (bd hB4 `d) w2 w4 l1 l2) (by rintro d M' ⟨e,a,b,c,d⟩;exact⟨e,a,b,c,d⟩)
  rintro _ M6 ⟨e,rfl,he,q6,k6⟩;have e6:=k6.get e5 (Rv hpq);have K6:=(K4.trans k5).trans k6;have hsm:(ds.map bb.d).length<sz:=Sf (show(ds.map bb.d).length<=50 by rw[Qk,hl];omega) `d
  have fin:∀(e:bb) (M'':Mem) (x5 x6:Option D),bQ w' p' e->M''[q]?=some (ds.map bb.d)->aF M'' p (B+3+(i+1)*45)->aU p M M''->
   ae (#v[iR (aa 4) (aa 7)] [some (.cell p),some (nD w'),some (nD p'),some (nD mo),some (.cell q),x5,x6,some e.d] M'') λfl M'=>∃ρ',fl=.next ρ'/\∃ds:List bb,M'[q]?=some (ds.map bb.d)/\ds.length=i+1/\(∀d∈ds,bQ w' p' d)/\aF M' p (B+3+(i+1)*45)/\aU p M M'/\∃a b c,ρ'=[some (.cell p),some (nD w'),some (nD p'),some (nD mo),some (.cell q),a,b,c]:=by
   intro e M'' x5 x6 he e7 q7 K7;simp only[ay,pR,aK];refine{_,rfl,_,rfl,q,ds.map bb.d,rfl,e7,hsm,_,rfl,ds++[e],?_,by rw[QJ,hl];rfl,λd hd=>?_,q7.setq hpq,K7.setq hqM,_,_,_,rfl}
   ·rw[QW (Qg.mp e7).1,RF];rfl
   ·rcases QM.mp hd with z|z
    ·exact hds d z
    ·rw[Qz.mp z];exact he
  show ae (aC _ _ [some (.cell p),some (nD w'),some (nD p'),some (nD mo),some (.cell q),some d,some (nD again),some e.d] M6) _;have en:(ao (az .ne (aa 4) (aG false b9)):GT) [some (.cell p),some (nD w'),some (nD p'),some (nD mo),some (.cell q),some d,some (nD again),some e.d] M6=.ok (!ds.isEmpty) M6:=by
   refine a8 ?_;unfold az;show(b8 M6 (br .ne (.cell q) (.lst []) M6)).bind _=_;rw[ne_nil e6];rfl
  refine bM (n6 (kG rfl) en) (λcc=>?_) λ_=>fin e M6 _ _ he e6 (q6.mono `a) K6
  have hpos:0<ds.length:=by
   rw[Qh] at cc;cases ds with
   |nil=>exact absurd cc.2 `d
   |cons _ _=>exact Nat.succ_pos _
  simp only[ay,gD,cx,jc,jI,gu,aS,bf,Fz,cW];have el:aH .len #[aa 4] [some (.cell p),some (nD w'),some (nD p'),some (nD mo),some (.cell q),some d,some (nD again),some e.d] M6=.ok (nD ds.length) M6:=by
   refine aj ?_;simp only[cK,aS,bf,aK];exact{_,rfl,oZ.mpr {_,e6,by rw[Qk],rfl}}
  show ae (ai 31 (ah P (n+4)) #[aa 0,aH .len #[aa 4]] [some (.cell p),some (nD w'),some (nD p'),some (nD mo),some (.cell q),some d,some (nD again),some e.d] M6) _;refine aA (dB h (n+2) rfl el q6 (bd hB4 `d) hpos `a) ?_
  rintro _ M7 ⟨v,rfl,hv,q7,k7⟩;have e7:=k7.get e6 (Rv hpq);refine{(ds.getD v e).d,?_,1,rfl,rfl,rfl,?_}
  ·show(M7[q]?).bind (λds=>(bC ds.length (v:Int)).bind λj=>ds[j]?)=_;rw[e7];show(bC (ds.map bb.d).length (v:Int)).bind (λj=>(ds.map bb.d)[j]?)=_;rw[dI (by rw[Qk];exact hv)]
   simp[Rk,hv]
  ·refine aA (DU ?_) λx1 M3 hx=>{1,rfl,nD e.cost,Bc,au (n:=1) `d,hx}
   exact fin _ M7 _ _ (BS (hds _ (getD_mem hv)) (Ii he)) e7 (q7.mono `a) (K6.trans k7)
 ·rintro Z M' ⟨ds,e4,hl,hds,q4,K4,a,b,c,rfl⟩;simp only[Qk,Rx] at hl q4;refine ft ?_;simp only[gu,aS,bf,cK,aK];refine{_,rfl,_,rfl,_,rfl,pI.mpr {_,e4,au (n:=3) `d,⟨w',p',ds⟩,rfl,{w2,w4,l1,l2,?_,?_,hds},?_,?_,?_,q4.mono `a,K4}}
  ·show 1<=ds.length;omega
  ·show ds.length<=6;omega
  ·show w'<=W;omega
  ·show p'<=Pl;omega
  ·show ds.length<=mo;omega
omit h in
theorem Hy {g:GE}{Z:Env}{l:List bb}(e:g Z M=.ok (.tup (l.map bb.d)) M):aH .len #[g] Z M=.ok (nD l.length) M:=by
 refine aj ?_;simp only[cK];rw[af e rfl,aZ];exact{congrArg (λ(n:Nat)=>D.int n) (Qk _),rfl}
theorem nt (h35:P 35=some {3,6,d4})(n:Nat){p B mo:Nat}{m:ba}(hm:bh m)(hp:aF M p B)(hB:B<=700000)(O:mo<=40):ae (ah P (n+3) 35 [.cell p,m.d,nD mo] M) λd M'=>∃r:List Nat,d=.lst (r.map nD)/\bZ m r/\r.length<=mo/\aF M' p (B+50)/\aU p M M':=by
 refine aq h35 rfl ?_;show ae (d4 (ah P (n+2)) [some (.cell p),some m.d,some (nD mo),none,none,none] M) _;unfold d4;refine ez h n rfl rfl hp `a `d `d λkind J _ Y k1=>?_
 refine bq (k:=λd M'=>∃v:Nat,d=nD v/\v<=mo/\aF M' p (B+2)/\aU p M M') ?_ ?_
 ·show ae (cT _ _ _ [some (.cell p),some m.d,some (nD mo),some (nD kind),none,none] J) _;have t0:(ao (az .eq (aa 3) (gI 0)):GT) [some (.cell p),some m.d,some (nD mo),some (nD kind),none,none] J=.ok ((kind:Int)==((0:Nat):Int)) J:=kG rfl;rw[FA,t0,aZ];split
  ·exact{mo,rfl,Qo _,Y.mono `a,k1}
  ·refine aA (dB h n (many:=mo+1) rfl rfl Y `a (Nat.succ_pos _) `a) (by rintro d M' ⟨v,e,Q,a,b⟩;exact{v,e,Nat.le_of_lt_succ Q,a,k1.trans b})
 intro x M2 R;show ae (aC _ _ [some (.cell p),some m.d,some (nD mo),some (nD kind),some x,none] M2) _;obtain⟨many,ex,F,q2,k2⟩:=R;rw[ex];clear ex;simp only[ay,gD,fi,fD,aK];have S:=Qs F O;refine{_,rfl,_,rfl,{Int.le_trans `d (Int.natCast_nonneg _),Int.lt_of_le_of_lt (Int.ofNat_le.mpr S) `d},?_}
 rw[Int.toNat_natCast];refine comp_map (λi y M'=>∃t:List Nat,y=t.map nD/\(∀x∈t,x<m.deeds.length)/\aF M' p (B+2+i)/\aU p M M') (au (by rw[Qk,Rx];omega)) (λ_ _ _ _=>rfl) {[],rfl,(λ_ z=>nomatch z),q2,k2} ?_ ?_
 ·rintro i d y M' hd _ ⟨t,rfl,I,u,E⟩;have W:i<many:=by
   have:=(Qg.mp hd).1
   rwa [Qk,Rx] at this
  refine{_,rfl,?_};refine aA (dB h n rfl (Hy (bA (ag rfl) rfl KO)) u `a hm.d1 (by have:=hm.d6;omega)) ?_
  rintro _ U ⟨v,rfl,Q,p4,k4⟩;refine{t++[v],by rw[RF];rfl,λx R=>?_,p4,E.trans k4}
  rcases QM.mp R with z|z
  ·exact I x z
  ·rw[Qz.mp z];exact Q
 ·rintro y M' hl ⟨t,rfl,I,u,E⟩;rw[Qk,Qk,Rx] at hl;rw[Qk,Rx] at u;have q3:=u.mono (show B+2+many<=B+50 by omega)
  have X:=E;have hl:=Nat.le_of_eq hl;refine a9.mpr {au (by rw[Qk];omega),?_}
  show ae (aC _ _ [some (.cell p),some m.d,some (nD mo),some (nD kind),some (nD many),some (.lst (t.map nD))] M') _;refine bM (kG rfl) (λ_=>?_) λ_=>bp (ag rfl) {t,rfl,{`a,I},`a,q3,X}
  refine bq (k:=λd U=>U=M'/\d=.lst ((((List.replicate many (t.take 2)).flatten).take many).map nD)) ?_ ?_
  ·have l2:((t.map nD).take 2).length<=2:=by rw[Rj];exact Nat.min_le_left _ _
   simp only[jc,cx,aK,cW];refine{_,rfl,rfl,rfl,(uA (a:=2)).mpr {au `a,_,rfl,Kz.mpr {{?_,`a,`a},a9.mpr {?_,?_}}}}
   ·exact Qs (Nat.mul_le_mul l2 (show many<=40 by omega)) `d
   ·rw[Int.toNat_natCast,List.length_flatten,List.map_replicate,List.sum_replicate_nat];exact Qs (Nat.mul_le_mul (show many<=40 by omega) l2) `d
   ·refine{_,rfl,rfl,rfl,uA.mpr {au (by rw[Rj];exact Qs (Nat.min_le_left _ _) `a),rfl,?_}}
    rw[Int.toNat_natCast,List.map_take,List.map_flatten,List.map_replicate,List.map_take]
  rintro _ _ ⟨rfl,rfl⟩;have lm:(((List.replicate many (t.take 2)).flatten).take many).length<=many:=by rw[Rj];exact Nat.min_le_left _ _
  refine pQ.mpr (cH.mpr (bp (ag rfl) {_,rfl,{`a,λi W=>?_},`a,q3,X}))
  obtain⟨l,L,H⟩:=List.mem_flatten.mp (Q9 W);rw[(List.mem_replicate.mp L).2] at H;exact I i (Q9 H)
end
def GL {a b:Nat}:ae (cM false (.frz xs) (.int a) (.int b) M) k↔(cut xs (min a xs.length) (min b xs.length)).length<=sz/\k (.lst (cut xs (min a xs.length) (min b xs.length))) M:=by
 show ae (match aM xs.length 0 (.int a),aM xs.length xs.length (.int b) with|some l,some h=>bu false (cut xs l h) M|_,_=>.bad) k↔_
 have e1:aM xs.length 0 (.int a)=some (min a xs.length):=by
  show some _=_;rw[if_neg `a];simp
 have e2:aM xs.length xs.length (.int b)=some (min b xs.length):=by
  show some _=_;rw[if_neg `a];simp
 rw[e1,e2];exact a9
def CF {b:Nat}:ae (cM false (.frz xs) .non (.int b) M) k↔(cut xs 0 (min b xs.length)).length<=sz/\k (.lst (cut xs 0 (min b xs.length))) M:=by
 show ae (match aM xs.length 0 D.non,aM xs.length xs.length (.int b) with|some l,some h=>bu false (cut xs l h) M|_,_=>.bad) k↔_
 have e2:aM xs.length xs.length (.int b)=some (min b xs.length):=by
  show some _=_;rw[if_neg `a];simp
 rw[e2];exact a9
def xw {j u:Type}(f:j->u)(l:List j)(a b:Nat):cut (l.map f) a b=(cut l a b).map f:=by simp[cut,List.map_take,List.map_drop]
def rq {j:Type}(l:List j)(a b:Nat):(cut l a b).length<=l.length:=by simp[cut];omega
section
variable{P:Nat->Option Df}(h:HasP0 P){M:Mem}
include h
theorem Gz (n:Nat){ns:List Int}(hn:ns.length<=63):ae (ah P (n+1) 29 [.frz (ns.map D.int)] []) λd M'=>d=.cell 1/\aF M' 1 0:=by
 refine aq h.law_open rfl ?_;simp[kT,cv];refine(CF).mpr {?_,?_}
 ·exact au (Qs (rq _ _ _) `o)
 simp only[j6,iV];refine{au (Qs (rq _ _ _) `o),(GL).mpr {au (Qs (rq _ _ _) `o),rfl,?_}}
 rw[xw,xw];simp only[Qk,List.length_nil,R1];have j:min 63 ns.length=ns.length:=`a
 rw[j];refine cV (λi v M'=>∃l:List Int,M'=[l.map D.int]/\l.length=min 12 ns.length/\∃a b,v=[some (.frz (ns.map D.int)),some (.cell 0),a,b]) (λ_ _ _ _=>rfl) {cut ns 0 (min 12 ns.length),rfl,by simp[cut],none,none,rfl} ?_ ?_
 ·rintro i d v M' hd ⟨l,rfl,hl,a,b,rfl⟩;rw[cj,QK] at hd;cases e:(cut ns (min 12 ns.length) ns.length)[i]? with
  |none=>rw[e] at hd;cases hd
  | some x=>
    rw[e] at hd;have hd:=Qp hd;subst hd;have B:=(Qg.mp e).1;have E:12<ns.length:=by
     by_cases c:12<ns.length
     ·exact c
     ·have:min 12 ns.length=ns.length:=`a
      rw[this] at B;simp[cut] at B
    have u:l.length=12:=`a
    have r1:=RQ (i:Int) (show(12:Int)≠0 by decide)
    have r2:=RP (i:Int) (show(0:Int)<12 by decide)
    obtain⟨y,z⟩:=rb r1 (by rw[u];exact r2)
    obtain⟨k,F⟩:∃k:Nat,(i:Int) % 12=(k:Int):={((i:Int) % 12).toNat,`a}
    refine{_,rfl,?_};simp;rw[F] at z ⊢;have hk:k<l.length:=`a
    refine{_,z,?_};refine{l.map D.int,rfl,k,?_,l.set k (y+x),?_,by simp[hl]}
    ·simpa using dI hk
    ·simp[List.map_set]
 ·rintro v M' ⟨l,rfl,hl,a,b,rfl⟩;simp;exact{`d,{0,l,0,0,rfl,rfl,`d,`d,`d,`d}}
end
def Sub.keep (h:Sub M M'):aU p M M':={h.len,λk hk _=>h.at' k hk}
def Sub.pen (h:Sub M M')(u:aF M p B):aF M' p B:=by
 obtain⟨c,j,a,st,e1,e2,r⟩:=u.ex;exact{c,j,a,st,h.get e1,h.get e2,r}
def oO (n:Nat)(l:List Nat):aE (n+1) (aJ l)=true:=by
 show(l.map nD).all (aE n)=true;rw[Qq];intro x j;obtain⟨i,_,rfl⟩:=QS.mp j;cases n<;>rfl
def kv (n:Nat)(l:List (List Nat)):(l.map aJ).all (aE (n+1))=true:=by
 rw[Qq];intro x j;obtain⟨i,_,rfl⟩:=QS.mp j;exact oO n i
structure HasB (P:Nat->Option Df):Prop where
 after:P 41=some {2,4,iE}
 begins:P 42=some {1,1,jA}
structure jh (P:Nat->Option Df):Prop where
 same:P 40=some {2,2,cw}
noncomputable def rL:∀ds:List D,jx ds ds=ds.map λd=>.tup [d,d]
 |[]=>rfl
 |d::r=>by simp[jx,rL r]
def qc {ds:List D}:br .notin (.bl false) (.lst (ds.map λ_=>.bl true)) M=some true:=by
 show(jC (.bl false) (ds.map λ_=>.bl true)).map (!·)=_;unfold jC;rw[if_pos]
 ·have:(ds.map λ_=>D.bl true).any (λy=>dt y (.bl false))=false:=by
   rw[List.any_eq_false];intro x j;obtain⟨_,_,rfl⟩:=QS.mp j;exact QF
  rw[this];rfl
 ·simp[aE]
@[simp] theorem vb:ae (eQ (.list m) [.tup ds] M) k↔ae (bu m ds M) k:=Rl
def cn (e:qt (.str x) (.str y)=some b)(M:Mem):br .eq (.str x) (.str y) M=some b:=by
 show mW M (.str x) (.str y)=some b;unfold mW;rw[show qt (view M (.str x)) (view M (.str y))=some b from e]
def yQ (hd:bQ m.words m.places d)(hs:g7 m s):fj d s=s.set d.at' (eF d s):=by
 have a0:=tV hd;rw[List.set_eq_take_append_cons_drop,if_pos (by rw[hs.1];exact a0)]
 simp[fj]
def pT {a b d:GE}{rest:GS}{Z:Env}{M:Mem}{k:Fl->Mem->Prop}{z:D}{q i j:Nat}{ds:List D}(hd:d Z M=.ok z M)(v:a Z M=.ok (.cell q) M)(y:b Z M=.ok (nD i) M)(u:M[q]?=some ds)(B:bC ds.length (i:Int)=some j)(h:ae (rest Z (M.set q (ds.set j z))) k):ae (#v[fe a b d] Z M) (gi rest k):=by
 refine ay.mpr (Ak.mpr ?_);rw[hd,aZ,v,aZ,y];exact{_,_,_,_,rfl,rfl,u,B,h}
def eE (u:Z[0]?=some (some D0))(j:bP D0 (.int 0) M=some (.str nm))(c:br .eq (.str nm) (.str w) M=some false)(h:ae (rest Z M) k):ae (aC (aL (ao (az .eq (av (aa 0) (gI 0)) (gC (.str w)))) A aB) rest Z M) k:=by
 simp[u,j,c,h]
def nk (u:Z[0]?=some (some D0))(j:bP D0 (.int 0) M=some (.str nm))(c:br .eq (.str nm) (.str w) M=some true)(h:ae (A Z M) (gi rest k)):ae (aC (aL (ao (az .eq (av (aa 0) (gI 0)) (gC (.str w)))) A aB) rest Z M) k:=by
 simp[u,j,c,h]
def uG (c:Call):GS:=#v[aL (ao (az .ne (aH .len #[aa 0]) (aH .len #[aa 1]))) rF aB,aD (az .notin sE (bL false 2 (.tup [0,1]) (nK (aa 0) (aa 1)) (bN (ai 40 c #[aa 0,aa 1]))))]
section
variable{P:Nat->Option Df}(h:jh P){M:Mem}
include h
theorem zV (n:Nat)(i:Nat):ah P (n+1) 40 [nD i,nD i] M=.ok (.bl true) M:=by
 refine aj (aq h.same rfl ?_);show ae (cw (ah P n) [some (nD i),some (nD i)] M) _;exact ax rfl (ax rfl (bt rfl (v:=.bl ((i:Int)==(i:Int))) rfl {`s,rfl}))
theorem Ag (n:Nat)(j:b7 M x=some ds)(u:b7 M y=some ds)(hz:ds.length<=sz)(hs:∀d∈ds,ah P n 40 [d,d] M=.ok (.bl true) M)(hk:kl (ds.map λ_=>.bl true) M) :
 ae (dU (dW (.tup [0,1]) (bN (ai 40 (ah P n) #[aa 0,aa 1])) (none::none::Z)) (pG x y) [] M) kl:=by
 refine fW (ds:=ds.map λd=>.tup [d,d]) (λ_=>.bl true) (by simpa using hz) ?_ ?_ ?_
 ·simp[pG,j,u,rL]
 ·intro d hd;obtain⟨e,he,rfl⟩:=QS.mp hd;refine{_,rfl,?_};refine aj ?_;simp;rw[hs e he];exact⟨rfl,rfl⟩
 ·simpa[Function.comp_def] using hk
theorem uF (n:Nat)(j:b7 M x=some ds)(u:b7 M y=some ds)(lx:eQ .len [x] M=.ok (.int ds.length) M)(v:eQ .len [y] M=.ok (.int ds.length) M)(z:dN x=true)(B:dN y=true)(hz:ds.length<=sz)(hs:∀d∈ds,ah P n 40 [d,d] M=.ok (.bl true) M) :
 ae (uG (ah P n) [some x,some y] M) (fL λd M'=>d=.bl true/\M'=M):=by
 simp[uG,lx,v,z,B];exact Ag h n j u hz hs {by simpa using hz,qc,rfl}
theorem zU (n:Nat)(j:bF M x r)(u:bF M y r)(hz:r.length<=100000):ah P (n+2) 40 [x,y] M=.ok (.bl true) M:=by
 refine aj (aq h.same rfl ?_);show ae (cw (ah P (n+1)) [some x,some y] M) _;have l:∀{z:D},bF M z r->eQ .len [z] M=.ok (.int (r.map nD).length) M:=λhz=>aj (hz.len.mpr {by rw[Qk],rfl})
 have z:=uF h (n+1) j.seq u.seq (l j) (l u) j.is.1 u.is.1 (au `o) λd hd=>by obtain⟨i,_,rfl⟩:=QS.mp hd;exact zV h n i
 rcases j with rfl|⟨q,rfl,e⟩<;>rcases u with rfl|⟨B,rfl,v⟩<;>exact ax rfl (ax rfl (ax rfl (ax rfl (ax rfl z))))
end
section
variable{P:Nat->Option Df}(h:HasB P){M:Mem}
include h
set_option maxHeartbeats 2000000 in
theorem jL (n:Nat)(ha:a<s.length)(hz:s.length<=100)(j:∀M,bP D0 (.int 0) M=some (.str nm))(e1:∀M,bP D0 (.int 1) M=some (nD a))
 (J F H I:Bool) (U:∀M,br .eq (.str nm) (.str "turn") M=some J) (O:∀M,br .eq (.str nm) (.str "join") M=some F) (Q:∀M,br .eq (.str nm) (.str "move") M=some H) (R:∀M,br .eq (.str nm) (.str "put") M=some I)
 (hb:(J=true/\F=false/\H=false/\I=false/\∀M,∃t,bP D0 (.int 2) M=some t/\bP t (nD (s.getD a 0)) M=some (nD v))
  \/(J=false/\F=true/\H=false/\I=false/\∀M,∃t u o,bP D0 (.int 3) M=some t/\bP t (nD (s.getD a 0)) M=some u/\bP D0 (.int 2) M=some (nD o)/\o<s.length/\bP u (nD (s.getD o 0)) M=some (nD v))
  \/(J=false/\F=false/\H=true/\I=false/\∀M,∃o,bP D0 (.int 2) M=some (nD o)/\o<s.length/\v=s.getD o 0)
  \/(J=false/\F=false/\H=false/\I=true/\∀M,bP D0 (.int 2) M=some (nD v))) :
 ah P (n+1) 41 [D0,aJ s] M=.ok (aJ (s.set a v)) (M++[(s.set a v).map nD]):=by
 refine aj (aq h.after rfl ?_);have S:∀M i,i<s.length->bP (aJ s) (nD i) M=some (nD (s.getD i 0)):=λM i hi=>iv hi;have T:ae (eQ (.list true) [aJ s] M) (λx E=>x=.cell M.length/\E=M++[s.map nD]):=by
  show ae (eQ (.list true) [.tup (s.map nD)] M) _;rw[vb,iV];exact{au `o,rfl,rfl}
 show ae (iE (ah P n) [some D0,some (aJ s),none,none] M) _;unfold iE;refine bq (k:=λx E=>x=.cell M.length/\E=M++[s.map nD]) (cK.mpr ?_) ?_
 ·rw[af (x:=aJ s) (ag rfl) rfl];exact T
 rintro _ _ ⟨rfl,rfl⟩;have q:=S (M++[s.map nD]) a ha;refine aV (bV (bA (x:=aJ s) rfl (bA rfl rfl (e1 _)) q)) ?_;have y:∀Z:Env,Z[2]?=some (some (.cell M.length))->ae (#v[aD (aH .tuple #[aa 2])] Z ((M++[s.map nD]).set M.length ((s.map nD).set a (nD v)))) (fL λx E=>x=aJ (s.set a v)/\E=M++[(s.set a v).map nD]):=λZ Y=>by
  simp[Y];simp[aJ,List.map_set]
 have W:(M++[s.map nD])[M.length]?=some (s.map nD):=RM;have X:bC (s.map nD).length (a:Int)=some a:=dI (by simpa using ha)
 rcases hb with⟨rfl,rfl,rfl,rfl,z⟩|⟨rfl,rfl,rfl,rfl,z⟩|⟨rfl,rfl,rfl,rfl,z⟩|⟨rfl,rfl,rfl,rfl,z⟩
 ·obtain⟨t,B,L⟩:=z (M++[s.map nD]);exact nk rfl (j _) (U _) (pT (bA (bA rfl rfl B) rfl L) rfl (bA rfl rfl (e1 _)) W X (eE rfl (j _) (O _) (eE rfl (j _) (Q _) (eE rfl (j _) (R _) (y _ rfl)))))
 ·obtain⟨t,u,o,B,L,v3,v4,v5⟩:=z (M++[s.map nD]);exact eE rfl (j _) (U _) (nk rfl (j _) (O _) (pT (bA (bA (bA rfl rfl B) rfl L) (bA rfl (bA rfl rfl v3) (S _ _ v4)) v5) rfl (bA rfl rfl (e1 _)) W X (eE rfl (j _) (Q _) (eE rfl (j _) (R _) (y _ rfl)))))
 ·obtain⟨o,B,L,v3⟩:=z (M++[s.map nD]);subst v3;exact eE rfl (j _) (U _) (eE rfl (j _) (O _) (nk rfl (j _) (Q _) (pT (bA rfl (bA rfl rfl B) (S _ _ L)) rfl (bA rfl rfl (e1 _)) W X (eE rfl (j _) (R _) (y _ rfl)))))
 ·have B:=z (M++[s.map nD]);exact eE rfl (j _) (U _) (eE rfl (j _) (O _) (eE rfl (j _) (Q _) (nk rfl (j _) (R _) (pT (bA rfl rfl B) rfl (bA rfl rfl (e1 _)) W X (y _ rfl)))))
theorem CC (n:Nat)(hm:bh m)(hd:bQ m.words m.places d)(hs:g7 m s):ah P (n+1) 41 [d.d,aJ s] M=.ok (aJ (fj d s)) (M++[(fj d s).map nD]):=by
 rw[yQ hd hs];have l0:=hs.1;have p2:=hm.p2;have g:∀i,i<m.places->s.getD i 0<m.words:=λi u=>hs.2 _ (getD_mem `a)
 have a0:=tV hd;have j:d.at'<s.length:=`a
 cases d with
 |turn a t c=>exact jL h n j `a (λ_=>rfl) (λ_=>rfl) true false false false (cn `k) (cn `k) (cn `k) (cn `k) (.inl {rfl,rfl,rfl,rfl,λM=>{aJ t,rfl,iv (by rw[hd.2.1.1];exact g _ hd.1)}})
 | join a o t c=>
   refine jL h n j `a (λ_=>rfl) (λ_=>rfl) false true false false (cn `k) (cn `k) (cn `k) (cn `k) (.inr (.inl {rfl,rfl,rfl,rfl,λM=>{.tup (t.map aJ),aJ (t.getD (s.getD a 0) []),o,rfl,Bb (by rw[hd.2.2.1.1];exact g _ hd.1),rfl,by rw[l0];exact hd.2.1,iv ?_}}))
   rw[(hd.2.2.1.2 _ (getD_mem (by rw[hd.2.2.1.1];exact g _ hd.1))).1]
   exact g _ hd.2.1
 |move a o c=>exact jL h n j `a (λ_=>rfl) (λ_=>rfl) false false true false (cn `k) (cn `k) (cn `k) (cn `k) (.inr (.inr (.inl {rfl,rfl,rfl,rfl,λM=>{o,rfl,by rw[l0];exact hd.2.1,rfl}})))
 |put a x c=>exact jL h n j `a (λ_=>rfl) (λ_=>rfl) false false false true (cn `k) (cn `k) (cn `k) (cn `k) (.inr (.inr (.inr {rfl,rfl,rfl,rfl,λM=>rfl})))
theorem z9 (n:Nat)(hm:bh m):ah P (n+1) 42 [m.d] M=.ok (.lst ((cE m).map aJ)) M:=by
 refine aj (aq h.begins rfl ?_);simp[jA];have p1:=hm.p1;have p2:=hm.p2;have w2:=hm.w2;have w4:=hm.w4;refine{_,rfl,?_};have F:m.places=1\/m.places=2:=`a
 have z:m.words=2\/m.words=3\/m.words=4:=`a
 rcases F with u|u
 ·refine .inr {by rw[u];rfl,_,rfl,_,rfl,`a,?_}
  refine fW (ds:=(List.range m.words).map λ(k:Nat)=>D.int (k:Int)) (λd=>.tup [d]) (au `o) `s (λd hd=>{_,rfl,aj (by simp;exact au `a)}) {au `o,?_,rfl}
  unfold cE;rw[u];rcases z with e|e|e<;>rw[e]<;>rfl
 ·refine .inl {by rw[u];rfl,_,rfl,_,rfl,?_}
  simp;refine{`a,?_}
  have B:((m.words:Int)*(m.words:Int)).toNat=m.words*m.words:=by rw[<- Int.natCast_mul];rfl
  have H:=Nat.mul_le_mul w4 w4;rw[B];refine{{by rw[<- Int.natCast_mul];omega,by rw[<- Int.natCast_mul];omega},?_}
  have y:∀k:Nat,(bc #[ak false oA.fdiv (aa 0) (av (aa 1) (gC (D.int 0))),ak false oA.mod (aa 0) (av (aa 1) (gC (D.int 0)))]) [some (nD k),some m.d] M=.ok (aJ [k / m.words,k % m.words]) M:=by
   intro k;refine aj ?_;simp;refine{_,rfl,?_};simp;refine{`a,_,rfl,?_}
   simp;exact{`a,au `a,rfl}
  refine comp_map (λi j v=>v=M/\j=((List.range (m.words*m.words)).take i).map λk=>aJ [k / m.words,k % m.words]) (au (by simpa using by omega)) (λ_ _ _ _=>rfl) ⟨rfl,rfl⟩ ?_ ?_
  ·rintro i d j v hd _ ⟨rfl,rfl⟩;have E:=(Qg.mp hd).1;simp at E;have:d=nD i:=by
    rw[QK,Sa `a] at hd
    exact(Qp hd).symm
   subst this;refine{_,rfl,?_};rw[show List.set [none,some m.d] 0 (some (nD i))=[some (nD i),some m.d] from rfl,y i];refine{rfl,?_};rw[RC,Sa `a]
   simp
  ·rintro j v _ ⟨rfl,rfl⟩;simp;refine{au `a,?_}
   unfold cE;rw[u];rcases z with e|e|e<;>rw[e]<;>rfl
end
section
variable{Z:Env}{M:Mem}{a b d:GE}{k:D->Mem->Prop}{kw:Walk->Mem->Prop}{kf:Fl->Mem->Prop}
def xX {t rest:GS}{Z ρ':Env}{M M1:Mem}{kf:Fl->Mem->Prop}(e:t Z M=.ok (.next ρ') M1)(h:ae (rest ρ' M1) kf):ae (aC t rest Z M) kf:=by
 refine ay.mpr ?_;rw[e];exact h
def Ir {i:Nat}{a:GE}{Z:Env}{M M1:Mem}{x:D}(e:a Z M=.ok x M1):aw (.one i) a Z M=.ok (.next (Z.set i (some x))) M1:=by unfold aw;rw[e];rfl
def vU {i:Nat}{a:GE}{Z:Env}{M M1:Mem}{x:D}(e:a Z M=.ok x M1):hX (.one i) a Z M=.ok (.next (Z.set i (some x))) M1:=by unfold hX;rw[e];rfl
def sL {f:Nat}{c:Call}{s:GA}{Z:Env}{M:Mem}{xs:List D}(e:s Z M=.ok xs M):cU f c s Z M=c f xs M:=by unfold cU;rw[e]
@[simp] theorem IJ:ae (qo a b d Z M) kw↔ae (a Z M) λx M=>ae (b Z M) λy M=>ae (d Z M) λz M=>(dN x&&dN y&&dN z)=true/\kw (pF x y z) M:=by
 simp only[qo,bo];refine iff_of_eq ?_;congr 1;funext x M;congr 1;funext y M;congr 1;funext z M;split<;>simp_all
@[simp] theorem Np:ae (kS m a Z M) k↔ae (a Z M) λx M=>ae (ya m x M) k:=by simp[kS]
@[simp] theorem P6:ae (ya m (.lst xs) M) k↔ae (bu m xs.reverse M) k:=Rl
@[simp] theorem GU:ae (ya m (.tup xs) M) k↔k (.tup xs.reverse) M:=Rl
@[simp] theorem Js:ae (qM i j gs Z M) kf↔ae (gs Z M) λds M=>∃a b,ds=[a,b]/\kf (.next ((Z.set i (some a)).set j (some b))) M:=by
 simp only[qM,bo];refine iff_of_eq ?_;congr 1;funext ds M
 match ds with
 |[]=>simp
 |[_]=>simp
 |[_,_]=>simp;exact{λq=>{_,_,⟨rfl,rfl⟩,q},λ⟨_,_,⟨e1,e2⟩,q⟩=>by subst e1 e2;exact q}
 |_::_::_::_=>simp
def nN (I:Nat->Env->Mem->Prop)(R:D->Mem->Prop)(B:∀i Z M,I i Z M->w M=some ds)(v:∀d M,R d M->w M=some ds)(z:I 0 Z M)
 (hs:∀i d Z M,ds[i]?=some d->I i Z M->∃ρ1,cy t d Z=some ρ1/\ae (gb ρ1 M) λfl M=>(∃ρ',fl=.next ρ'/\I (i+1) ρ' M)\/∃d,fl=.ret d/\R d M) (hk:∀Z M,I ds.length Z M->kf (.next Z) M) (hr:∀d M,R d M->kf (.ret d) M) :
 ae (dU (i8 t gb) w (.next Z) M) kf:=by
 refine eM (λi fl M=>(∃Z,fl=.next Z/\I i Z M)\/∃d,fl=.ret d/\R d M) (λi fl M h=>h.elim ((by rintro⟨Z,_,h⟩;exact B i Z M h)) (by rintro⟨d,_,h⟩;exact v d M h)) (.inl ⟨Z,rfl,z⟩) ?_ ?_
 ·rintro i d fl M hd (⟨Z,rfl,j⟩|⟨y,rfl,u⟩)
  ·obtain⟨ρ1,e,h⟩:=hs i d Z M hd j;simp only[i8,bo,j0,e];exact⟨ρ1,rfl,h⟩
  ·exact .inr ⟨y,rfl,u⟩
 ·rintro fl M (⟨Z,rfl,j⟩|⟨d,rfl,u⟩)
  ·exact hk Z M j
  ·exact hr d M u
end
def LV (i j:Nat):dt (nD i) (nD j)=decide (i=j):=by
 show((i:Int)==(j:Int))=_;rw[RR];simp;omega
noncomputable def qz:∀l r:List Nat,fN (l.map nD) (r.map nD)=decide (l=r)
 |[],[]=>rfl
 |[],_::_=>rfl
 |_::_,[]=>rfl
 | i::l,j::r=>by
   show(dt (nD i) (nD j)&&fN (l.map nD) (r.map nD))=_;rw[LV,qz l r,RR];simp
def BI (l r:List Nat):dt (aJ l) (aJ r)=decide (l=r):=qz l r
noncomputable def vP:∀l r:List (List Nat),fN (l.map aJ) (r.map aJ)=decide (l=r)
 |[],[]=>rfl
 |[],_::_=>rfl
 |_::_,[]=>rfl
 | i::l,j::r=>by
   show(dt (aJ i) (aJ j)&&fN (l.map aJ) (r.map aJ))=_;rw[BI,vP l r,RR];simp
def lQ (n:Nat)(l:List Nat):aE (n+1) (.lst (l.map nD))=true:=by
 show(l.map nD).all (aE n)=true;rw[Qq];intro x j;obtain⟨i,_,rfl⟩:=QS.mp j;cases n<;>rfl
def D5:br .ne (aJ l) (aJ r) M=some (!decide (l=r)):=hJ (oO 63 l) (oO 63 r) (BI l r)
def BH {l r:List (List Nat)}:br .eq (.tup (l.map aJ)) (.tup (r.map aJ)) M=some (decide (l=r)):=nV (kv 62 l) (kv 62 r) (vP l r)
def sM {l r:List (List Nat)}:br .ne (.tup (l.map aJ)) (.tup (r.map aJ)) M=some (!decide (l=r)):=hJ (kv 62 l) (kv 62 r) (vP l r)
def BG {l r:List Nat}:br .ne (.lst (l.map nD)) (.lst (r.map nD)) M=some (!decide (l=r)):=hJ (lQ 63 l) (lQ 63 r) (qz l r)
def ends (m:ba)(r:List Nat):List (List Nat):=(cE m).map (cm m r)
section
variable{P:Nat->Option Df}(h:HasB P){M:Mem}
include h
theorem wa (he:P 44=some {2,5,da})(n:Nat)(H:bF M x r)(hm:bh m)(hr:∀i∈r,i<m.deeds.length):ae (ah P (n+2) 44 [m.d,x] M) λd M'=>d=.tup ((ends m r).map aJ)/\Sub M M':=by
 have U:=z9 h n (M:=M++[[]]) hm;have bl:=vQ hm;refine aq he rfl ?_;show ae (da (ah P (n+1)) [some m.d,some x,none,none,none] M) _;unfold da;refine bq (k:=λd M'=>d=.cell M.length/\M'=M++[[]]) (iy.mpr (bf.mpr (iV.mpr {RN _,rfl,rfl}))) ?_;rintro _ _ ⟨rfl,rfl⟩;refine ay.mpr (cP.mpr (lF.mpr ?_));rw[gO rfl U,aZ];refine{rfl,?_};have R:(M++[([]:List D)])[M.length]?=some []:=RM;have l0:M.length<(M++[([]:List D)]).length:=by rw[QJ];exact Nat.lt_succ_self _
 generalize Y:M.length=q at R l0;refine cV (ds:=(cE m).map aJ) (λi Z M'=>M'[q]?=some (((cE m).take i).map λs=>aJ (cm m r s))/\Sub M M'/\q<M'.length/\∃Q y,Z=[some m.d,some x,some (.cell q),Q,y]) (λ_ _ _ _=>rfl) ⟨R,Sub.app,l0,none,none,rfl⟩ ?_ ?_
 ·rintro i d Z M' hd ⟨E,I,B,Q,y,rfl⟩;rw[QK] at hd;cases e:(cE m)[i]? with
  |none=>rw[e] at hd;cases hd
  | some s=>
    rw[e] at hd;cases Qp hd;have hs:=xB s (QG e);refine{_,rfl,?_};refine ay.mpr (cP.mpr (lF.mpr (aK.mpr {_,rfl,H.is.1,?_})));refine cV (ds:=r.map nD) (λj Z v=>v[q]?=some (((cE m).take i).map λs=>aJ (cm m r s))/\Sub M v/\q<v.length/\∃y,Z=[some m.d,some x,some (.cell q),some (aJ (cm m (r.take j) s)),y]) (λ_ _ _ e=>(H.sub e.2.1).seq) ⟨E,I,B,y,rfl⟩ ?_ ?_
    ·rintro j X Z v z ⟨L,J,u,W,rfl⟩;rw[QK] at z;cases F:r[j]? with
     |none=>rw[F] at z;cases z
     | some k=>
       rw[F] at z;cases Qp z;have hk:=hr k (QG F);have O:g7 m (cm m (r.take j) s):=rk hm (λx H=>hr x (Q9 H)) hs;have S:=CC h n (M:=v) hm (lH hm hk) O;refine{_,rfl,?_};show ae (aC (aw _ (ai 41 _ #[av (av (aa 0) (gI 2)) (aa 4),aa 3])) _ [some m.d,some x,some (.cell q),some (aJ (cm m (r.take j) s)),some (nD k)] v) _;refine xX (Ir ((aQ (af (bA (bA rfl rfl KO) rfl (vn hk)) (af (ag rfl) rfl))).trans S)) ?_;exact{_,rfl,by rw[QR u,L],J.trans Sub.app,by rw[QJ];omega,_,by rw[RC,F,vq];rfl}
    ·rintro Z v ⟨L,J,u,W,rfl⟩;rw[Qk,List.take_length];refine cH.mpr (ay.mpr (pR.mpr (aK.mpr {_,rfl,aK.mpr {_,rfl,q,_,rfl,L,Sf (show _<=50 by simp;omega) `d,?_}})))
     exact{_,rfl,by rw[QW u,RC,e,RF];rfl,J.setq `a,by rw[List.length_set];exact u,_,_,rfl}
 ·rintro Z M' ⟨E,I,B,Q,y,rfl⟩;rw[Qk,List.take_length] at E;refine cH.mpr (ft (cK.mpr ?_));rw[af (x:=.cell q) (ag rfl) rfl];exact pI.mpr {_,E,by rw[ends,List.map_map];rfl,I}
theorem iP (he:P 44=some {2,5,da})(n:Nat)(hm:bh m)(hr:∀i∈r,i<m.deeds.length):ae (ah P (n+2) 44 [m.d,.lst (r.map nD)] M) λd M'=>d=.tup ((ends m r).map aJ)/\Sub M M':=wa h he n .l hm hr
end
def ib (m:ba)(a b:List Nat):Option (List Nat):=(cE m).find? λs=>!decide (cm m a s=cm m b s)
def J7:Option (List Nat)->D
 |some s=>aJ s
 |none=>.non
noncomputable def oB {j:Type}(f g e:j->D):∀l:List j,f9 (l.map f) (l.map g) (l.map e)=l.map λs=>.tup [f s,g s,e s]
 |[]=>rfl
 |a::l=>by simp[f9,oB f g e l]
def AB (hi:(cE m)[i]?=some s)(h:∀t∈(cE m).take i,cm m a t=cm m b t)(hs:cm m a s≠cm m b s):ib m a b=some s:=by
 have e:cE m=(cE m).take i++s::(cE m).drop (i+1):=by
  obtain⟨h1,h2⟩:=Qg.mp hi;rw[<- h2,<- List.drop_eq_getElem_cons h1,List.take_append_drop]
 unfold ib;rw[e,List.find?_append];have:((cE m).take i).find? (λs=>!decide (cm m a s=cm m b s))=none:=by
  rw[List.find?_eq_none];intro t j;simp[h t j]
 rw[this];simp[List.find?_cons,hs]
def AA (h:∀t∈cE m,cm m a t=cm m b t):ib m a b=none:=by
 unfold ib;rw[List.find?_eq_none];intro t j;simp[h t j]
def mi:ib m a b=none↔ends m a=ends m b:=by
 unfold ib ends;rw[List.find?_eq_none,List.map_inj_left];simp
structure pC (P:Nat->Option Df):Prop where
 h15:P 15=some {1,6,fm}
 h27:P 27=some {2,2,je}
 h46:P 46=some {2,2,jt}
 parted:P 48=some {3,8,md}
section
variable{P:Nat->Option Df}{M:Mem}
def ur (h:HasM P)(j:pC P)(n:Nat)(S:bF M x a)(U:bF M y b)(hm:bh m)(h1:bZ m a)(h2:bZ m b):ae (ah P (n+12) 48 [m.d,x,y] M) λd M'=>d=J7 (ib m a b)/\Sub M M':=by
 have Q:=r6 h j.h15 j.h27 j.h46 n S hm h1;have J:=r6 h j.h15 j.h27 j.h46 n (U.sub (Sub.app (X:=(cE m).map λs=>(ff m a s).map aJ))) hm h2;generalize B:(M++(cE m).map λs=>(ff m a s).map aJ)++((cE m).map λs=>(ff m b s).map aJ)=I at J;have O:Sub M I:=by subst B;rw[List.append_assoc];exact Sub.app
 have R:=wB h.toHasM0.toHasB0 j.h15 (n+2) (M:=I) hm;refine aq j.parted rfl ?_;show ae (md (ah P (n+11)) [some m.d,some x,some y,none,none,none,none,none] M) _;unfold md;refine xX (vU ((sL (af (ag rfl) (af (ag rfl) rfl))).trans Q)) (xX (vU ((sL (af (ag rfl) (af (ag rfl) rfl))).trans J)) ?_);refine ay.mpr (cP.mpr (IJ.mpr ?_));rw[gO rfl R,aZ];refine aK.mpr {_,rfl,aK.mpr {_,rfl,rfl,?_}};refine nN (ds:=(cE m).map λs=>.tup [aJ s,aJ (cm m a s),aJ (cm m b s)]) (λi Z M'=>(∀t∈(cE m).take i,cm m a t=cm m b t)/\Sub M M'/\∃E F H,Z=[some m.d,some x,some y,some (pz m a),some (pz m b),E,F,H]) (λd M'=>d=J7 (ib m a b)/\Sub M M') ?_ ?_ {(λ_ h=>nomatch h),O,none,none,none,rfl} ?_ ?_ ?_
 ·rintro i Z M' _;simp[pF,b7,pz,oB]
 ·rintro d M' _;simp[pF,b7,pz,oB]
 ·rintro i d Z M' hd ⟨v,u,E,F,H,rfl⟩;rw[QK] at hd;cases e:(cE m)[i]? with
  |none=>rw[e] at hd;cases hd
  | some s=>
    rw[e] at hd;cases Qp hd;refine{_,rfl,?_};refine bM (a8 (i4 (ag rfl) (ag rfl) D5)) (λz=>?_) λz=>?_
    ·have c:¬ cm m a s=cm m b s:=of_decide_eq_false (EU z);refine bp (ag (x:=aJ s) rfl) ?_;exact Or.inr {_,rfl,by rw[AB e v c];rfl,u}
    ·have c:cm m a s=cm m b s:=of_decide_eq_true (EV z);refine Or.inl {_,rfl,λt L=>?_,u,_,_,_,rfl};rw[RC,e] at L;rcases QM.mp L with z|z
     ·exact v t z
     ·rw[Qz.mp z];exact c
 ·rintro Z M' ⟨v,u,E,F,H,rfl⟩;rw[Qk,List.take_length] at v;exact cH.mpr (bp rfl {by rw[AA v];rfl,u})
 ·rintro d M' ⟨rfl,u⟩;exact⟨rfl,u⟩
end
def Sub.to (k:aU p M M1)(h:Sub M1 M'):aU p M M':=k.trans h.keep
def qK:ae (cM false (.lst xs) .non (nD a) M) k↔(xs.take a).length<=sz/\k (.lst (xs.take a)) M:=uA
def pairD (p:List Nat×List Nat):D:=.tup [.lst (p.1.map nD),.lst (p.2.map nD)]
structure lB (m:ba) (k:Nat) (p:List Nat×List Nat):Prop where
 r1:bZ m p.1
 r2:bZ m p.2
 l1:p.1.length<=k
 l2:p.2.length<=k
 al:ends m p.1=ends m p.2
def n9 (m:ba)(k:Nat)(h:List (List Nat×List Nat)):Prop:=∀pr∈h,lB m k pr
section
variable{P:Nat->Option Df}(hp_:HasP P)(h35:P 35=some {3,6,d4})(hs_:HasB P)(he:P 44=some {2,5,da})(hal:P 49=some {2,7,cZ}){M:Mem}
include hp_ h35 hs_ he hal
theorem CB (n:Nat)(hm:bh m)(hp:aF M p B)(hB:B<=600000):ae (ah P (n+4) 49 [.cell p,m.d] M) λd M'=>∃q u,d=.cell q/\M.length<=q/\M'[q]?=some (u.map pairD)/\u≠[]/\u.length<=200/\n9 m 3 u/\aF M' p (B+450)/\aU p M M':=by
 refine aq hal rfl ?_;show ae (cZ (ah P (n+3)) [some (.cell p),some m.d,none,none,none,none,none] M) _;unfold cZ;have X:∀r:List Nat,r.length<=41->(r.map nD).length<=sz:=λr h=>au (by rw[Qk];omega)
 refine bq (k:=λd M'=>∃o:List (List Nat),d=.lst (o.map aP)/\o.length=11/\(∀r∈o,bZ m r/\r.length<=3)/\aF M' p (B+450)/\aU p M M') ?_ ?_
 ·refine cx.mpr (fi.mpr (fD.mpr (cW.mpr {9,rfl,`d,?_})))
  refine comp_map (λi H M'=>∃rs:List (List Nat),H=rs.map aP/\rs.length=i/\(∀r∈rs,bZ m r/\r.length<=3)/\aF M' p (B+i*50)/\aU p M M') (au `s) (λ_ _ _ _=>rfl) {[],rfl,rfl,(λ_ h=>nomatch h),by simpa using hp,.refl} ?_ ?_
  ·rintro i d H M' hd _ ⟨rs,rfl,hl,hr,hp',hk'⟩;have W:i<9:=by
    have:=(Qg.mp hd).1;simpa using this
   refine{_,rfl,?_};show ae (ai 35 _ _ _ M') _;rw[aQ (af (ag rfl) (af (ag rfl) (af rfl rfl)))];refine aA (nt hp_ h35 n hm hp' `a `d) ?_;rintro d M5 ⟨one,e1,h1,l1,q5,k5⟩
   subst e1;refine{rs++[one],by rw[RF];rfl,by simp[hl],λr L=>?_,q5.mono `a,hk'.trans k5}
   rcases QM.mp L with z|z
   ·exact hr r z
   ·rw[Qz.mp z];exact⟨h1,l1⟩
  ·rintro H v _ ⟨rs,rfl,hl,hr,p1,k1⟩;simp at hl p1;refine a9.mpr {au `o,?_}
   rw[eB (xs:=[aP [],aP [0]]) (af rfl (af rfl rfl)) (Qx rfl),aZ];refine ju.mpr (a9.mpr {au `o,rs++[[],[0]],by rw[RF];rfl,by simp[hl],λr L=>?_,p1.mono `a,k1})
   rcases QM.mp L with z|z
   ·exact hr r z
   ·rcases Qu.mp z with z|z
    ·rw[z];exact{{RN _,λi W=>by cases W},RN _}
    ·rw[Qz.mp z];exact{{`d,λi W=>by rw[Qz.mp W];exact hm.d1},`d}
 rintro _ v ⟨o,rfl,lo,I,p1,k1⟩;obtain⟨r0,rr,er⟩:∃r0 rr,o=r0::rr:=by
  cases o with
  |nil=>cases lo
  |cons a b=>exact⟨a,b,rfl⟩
 have h0:=I r0 (by rw[er];exact Qv)
 refine bq (k:=λd M'=>d=.cell v.length/\M'=v++[[pairD (r0,r0)]]) ?_ ?_
 ·show ae (aG _ _ [some (.cell p),some m.d,some (.lst (o.map aP)),none,none,none,none] v) _;have i0:av (aa 2) (gI 0) [some (.cell p),some m.d,some (.lst (o.map aP)),none,none,none,none] v=.ok (.lst (r0.map nD)) v:=by
   refine bA rfl rfl ?_;rw[er];show((bC (aP r0::rr.map aP).length ((0:Nat):Int)).bind λj=>(aP r0::rr.map aP)[j]?)=_;rw[dI `s];rfl
  have l0:aH (.list false) #[av (aa 2) (gI 0)] [some (.cell p),some m.d,some (.lst (o.map aP)),none,none,none,none] v=.ok (.lst (r0.map nD)) v:=by
   refine aj (cK.mpr ?_);rw[af i0 rfl];exact j6.mpr (a9.mpr {X r0 `a,rfl,rfl})
  refine iy.mpr ?_;rw[af (x:=pairD (r0,r0)) (aj (gu.mpr (by rw[af i0 (af l0 rfl)];exact{au (n:=2) `d,rfl,rfl}))) rfl,aZ]
  exact iV.mpr {au (n:=1) `d,rfl,rfl}
 rintro _ _ ⟨rfl,rfl⟩;show ae (aC _ _ [some (.cell p),some m.d,some (.lst (o.map aP)),some (.cell v.length),none,none,none] _) _;refine ay.mpr (cP.mpr (fE.mpr (aK.mpr {_,rfl,rfl,?_})));have e0:(v++[[pairD (r0,r0)]])[v.length]?=some ([(r0,r0)].map pairD):=RM;generalize hq:v.length=q at *;have pq:p<q:=by have:=p1.lt;omega
 have k1l:=k1.len;refine cV (ds:=dH 0 (o.map aP)) (λi U M'=>(∃u,M'[q]?=some (u.map pairD)/\u≠[]/\u.length<=1+i*11/\n9 m 3 u)/\aF M' p (B+450)/\aU p M M'/\∃x4 x5 R,U=[some (.cell p),some m.d,some (.lst (o.map aP)),some (.cell q),x4,x5,R]) (λ_ _ _ _=>rfl) ?_ ?_ ?_
 ·refine{{[(r0,r0)],e0,(λz=>nomatch z),Qx rfl,λpr J=>?_},p1.app,k1.trans .app,none,none,none,rfl};rw[Qz.mp J];exact⟨h0.1,h0.1,h0.2,h0.2,rfl⟩
 ·rintro i d U M' hd ⟨⟨u,e1,e2,F,y⟩,p2,k2,x4,x5,R,rfl⟩;rw[cj,QK] at hd;cases Y:o[i]? with
  |none=>rw[Y] at hd;cases hd
  | some one=>
    rw[Y] at hd;have hd:=Qp hd;subst hd;have W:i<11:=by rw[<- lo];exact(Qg.mp Y).1
    have ho:=I one (QG Y);refine{_,rfl,?_};rw[RS];show ae (aC _ _ [some (.cell p),some m.d,some (.lst (o.map aP)),some (.cell q),some (nD i),some (aP one),R] M') _;refine ay.mpr (cP.mpr (lF.mpr (jc.mpr (aK.mpr {_,rfl,cW.mpr (aK.mpr {_,rfl,rfl,rfl,qK.mpr {au `o,rfl,?_}})}))))
    rw[<- List.map_take];refine cV (ds:=(o.take i).map aP) (λj U M'=>(∃u,M'[q]?=some (u.map pairD)/\u≠[]/\u.length<=1+i*11+j/\n9 m 3 u)/\aF M' p (B+450)/\aU p M M'/\∃R,U=[some (.cell p),some m.d,some (.lst (o.map aP)),some (.cell q),some (nD i),some (aP one),R]) (λ_ _ _ _=>rfl) {⟨u,e1,e2,F,y⟩,p2,k2,R,rfl} ?_ ?_
    ·rintro j d U M3 hd ⟨⟨u,e1,e2,F,y⟩,Q,O,y6,rfl⟩;rw[QK] at hd;cases E:(o.take i)[j]? with
     |none=>rw[E] at hd;cases hd
     | some other=>
       rw[E] at hd;cases Qp hd;have hj:j<i:=by
        have:=(Qg.mp E).1;simp at this;omega
       have h2:=I other (Q9 (QG E));refine{_,rfl,?_};show ae (aC _ _ [some (.cell p),some m.d,some (.lst (o.map aP)),some (.cell q),some (nD i),some (aP one),some (aP other)] M3) _;refine ay.mpr (hU.mpr (ED.mpr (eV.mpr (dw.mpr (aK.mpr {_,rfl,aK.mpr {_,rfl,_,BG,_,rfl,?_}})))));have l2:1+i*11+j<=1+i*11+(j+1):=Sg _;by_cases c:one=other
       ·rw[decide_eq_true c,if_neg (show ¬ (!true)=true from λz=>nomatch z),if_neg (λz=>nomatch z)];exact{_,rfl,{u,e1,e2,Qs F l2,y},Q,O,_,rfl}
       ·rw[decide_eq_false c,if_pos (show(!false)=true from rfl)];refine eV.mpr (dw.mpr ?_);rw[aQ (af (ag rfl) (af (ag rfl) rfl))];refine aA (iP hs_ he (n+1) hm ho.1.2) ?_;rintro d M4 ⟨rfl,S4⟩;rw[aQ (af (ag rfl) (af (ag rfl) rfl))];refine aA (iP hs_ he (n+1) hm h2.1.2) ?_;rintro d M5 ⟨rfl,S5⟩;have S:=S4.trans S5;have e5:=S.get e1;refine{_,BH,_,rfl,?_};by_cases c2:ends m one=ends m other
        ·rw[decide_eq_true c2,if_pos rfl];refine ay.mpr (pR.mpr (aK.mpr {_,rfl,gu.mpr (aS.mpr (aK.mpr {_,rfl,aS.mpr (cK.mpr ?_)}))}));rw[af (x:=.lst (other.map nD)) (ag rfl) rfl];refine j6.mpr (a9.mpr {X other `a,au (n:=2) `d,q,u.map pairD,rfl,e5,Sf (show _<=1000 by rw[Qk];omega) `d,?_})
         refine{_,rfl,{u++[(one,other)],?_,`s,by simp;omega,λpr J=>?_},(S.pen Q).setq pq,(S.to O).setq `a,_,rfl}
         ·rw[QW (Qg.mp e5).1,RF];rfl
         ·rcases QM.mp J with z|z
          ·exact y pr z
          ·rw[Qz.mp z];exact⟨ho.1,h2.1,ho.2,h2.2,c2⟩
        ·rw[decide_eq_false c2,if_neg (λz=>nomatch z)];exact{_,rfl,{u,e5,e2,Qs F l2,y},S.pen Q,S.to O,_,rfl}
    ·rintro U M3 ⟨⟨u,e1,e2,F,y⟩,Q,O,y6,rfl⟩;refine{_,rfl,{u,e1,e2,?_,y},Q,O,_,_,_,rfl};simp at F;omega
 ·rintro U M3 ⟨⟨u,e1,e2,F,y⟩,Q,O,x4,x5,R,rfl⟩;refine cH.mpr ?_;refine bp (ag (x:=.cell q) rfl) {q,u,rfl,`a,e1,e2,?_,y,Q,O}
  rw[dm,Qk,lo] at F;omega
end
abbrev eR:=List Nat×List Nat
structure BO where
 place:Nat
 num:Nat
 back:Bool
noncomputable def BO.d (s:BO):D:=.tup [nD s.place,nD s.num,.bl s.back]
noncomputable def eR.way (r:eR)(b:Bool):eR:=if b then(r.2,r.1) else r
noncomputable def fw (row:List Nat)(p:Nat)(g t:List Nat):List Nat:=row.take p++t++row.drop (p+g.length)
def fF (rules:List eR)(row:List Nat)(s:BO):Option (List Nat):=
 if s.place<=row.length/\s.num<rules.length then
  let r:=eR.way (rules.getD s.num ([],[])) s.back
  if (row.drop s.place).take r.1.length=r.1 then
   let made:=fw row s.place r.1 r.2
   if made.length<=40 then some made else none
  else none
 else none
structure eG (m:ba) (rules:List eR):Prop where
 ok:n9 m 40 rules
 len:rules.length<=10
def eG.at (h:eG m rules)(hi:i<rules.length):lB m 40 (rules.getD i ([],[])):=h.ok _ (getD_mem hi)
def ua {p:eR}(h:lB m k p)(b:Bool):lB m k (p.way b):=by
 cases b
 ·exact h
 ·exact⟨h.r2,h.r1,h.l2,h.l1,h.al.symm⟩
set_option tactic.hygienic true in
def zM (u:eG m rules)(hr:bZ m row)(e:fF rules row s=some made):bZ m made:=by
 unfold fF at e;split at e
 ·next c=>
  dsimp only at e;split at e
  ·split at e
   ·next j=>
    cases e;refine{j,λi h=>?_};have w:=ua (u.at c.2) s.back;simp only[fw,QM] at h;rcases h with(z|z)|z
    ·exact hr.2 i (Q9 z)
    ·exact w.r2.2 i z
    ·exact hr.2 i (RT z)
   ·cases e
  ·cases e
 ·cases e
def mY (f:D->Bool)(g:D->D)(hz:ds.length<=sz)(y:w M=some ds)
 (hs:∀d∈ds,∃ρ1,cy tg d ρ0=some ρ1/\gc ρ1 M=.ok (f d) M/\(f d=true->ge ρ1 M=.ok (g d) M)) (hk:kl ((ds.filter f).map g) M):ae (dU (dW tg (ll gc (bN ge)) ρ0) w [] M) kl:=by
 refine eM (λi j u=>u=M/\j=((ds.take i).filter f).map g) (λi j u h=>by rw[h.1];exact y) ⟨rfl,rfl⟩ ?_ ?_
 ·rintro i d j u hd ⟨rfl,rfl⟩;obtain⟨ρ1,e1,e2,v⟩:=hs d (QG hd);have z:i<ds.length:=(Qg.mp hd).1;simp only[dW,e1,C4,Res.bind_ok,ll,e2];rw[RC,hd];cases q:f d with
  | false=>
    simp[q]
  | true=>
    rw[if_pos rfl];have len:(((ds.take i).filter f).map g).length<=i:=by
     rw[Qk];exact Qs (List.length_filter_le _ _) `o
    simp only[bN,v q,Res.bind_ok];rw[if_pos `a]
    simp[q]
 ·rintro j u ⟨rfl,rfl⟩;simpa using hk
structure Ef (P:Nat->Option Df):Prop where
 is_row:P 52=some {2,2,gX}
 is_rule:P 53=some {2,4,m7}
 need_rules:P 54=some {2,4,eC}
 behind:P 55=some {3,10,fJ}
 stepped:P 56=some {4,8,d7}
 copied:P 57=some {1,1,fK}
def Ab (u:bF M x r)(hl:r.length<=100000):ae (cM false x (nD a) (nD (a+b)) M) k↔k (.lst (((r.drop a).take b).map nD)) M:=by
 have e:cM false x (nD a) (nD (a+b)) M=bu false (cut (r.map nD) (min a r.length) (min (a+b) r.length)) M:=by
  have e1:aM (r.map nD).length 0 (nD a)=some (min a r.length):=by
   show some _=_;rw[if_neg `a];simp
  have e2:aM (r.map nD).length (r.map nD).length (nD (a+b))=some (min (a+b) r.length):=by
   show some _=_;rw[if_neg `a];simp
   congr 1
  have:cM false x (nD a) (nD (a+b)) M=match gE M x with|some xs=>(match aM xs.length 0 (nD a),aM xs.length xs.length (nD (a+b)) with|some l,some h=>bu false (cut xs l h) M|_,_=>.bad)|none=>.bad:=by
   rcases u with rfl|⟨q,rfl,_⟩<;>rfl
  rw[this,u.rd];dsimp only;rw[e1,e2]
 have c:cut (r.map nD) (min a r.length) (min (a+b) r.length)=((r.drop a).take b).map nD:=by
  unfold cut;rw[List.map_take,List.map_drop];rcases Nat.le_total a r.length with q|q
  ·rw[Sd q];rcases Nat.le_total (a+b) r.length with j|j
   ·rw[Sd j];congr 1;omega
   ·rw[Nat.min_eq_right j,Rw `s,Rw `o]
  ·rw[Nat.min_eq_right q,List.drop_eq_nil_of_le `s,List.drop_eq_nil_of_le (by simpa using q)];simp
 rw[e,c,a9];exact{λz=>z.2,λz=>{au `o,z}}
def r8 (j:bF M x r)(hl:r.length<=100000):ae (cM false x .non (nD a) M) k↔k (.lst ((r.take a).map nD)) M:=by
 have:cM false x .non (nD a) M=cM false (.lst (r.map nD)) .non (nD a) M:=by
  have h2:∀y,(y=x\/y=.lst (r.map nD))->cM false y .non (nD a) M=match gE M y with|some xs=>(match aM xs.length 0 D.non,aM xs.length xs.length (nD a) with|some l,some h=>bu false (cut xs l h) M|_,_=>.bad)|none=>.bad:=λy u=>by
   rcases u with rfl|rfl
   ·rcases j with rfl|⟨q,rfl,_⟩<;>rfl
   ·rfl
  rw[h2 x (.inl rfl),h2 _ (.inr rfl),j.rd];rfl
 rw[this,qK,List.map_take];exact{λz=>z.2,λz=>{au `o,z}}
def oh (j:bF M x r)(hl:r.length<=100000):ae (cM false x (nD a) .non M) k↔k (.lst ((r.drop a).map nD)) M:=by
 have:cM false x (nD a) .non M=cM false (.lst (r.map nD)) (nD a) .non M:=by
  have h2:∀y,(y=x\/y=.lst (r.map nD))->cM false y (nD a) .non M=match gE M y with|some xs=>(match aM xs.length 0 (nD a),aM xs.length xs.length D.non with|some l,some h=>bu false (cut xs l h) M|_,_=>.bad)|none=>.bad:=λy u=>by
   rcases u with rfl|rfl
   ·rcases j with rfl|⟨q,rfl,_⟩<;>rfl
   ·rfl
  rw[h2 x (.inl rfl),h2 _ (.inr rfl),j.rd];rfl
 rw[this];rw[uB,List.map_drop];exact{λz=>z.2,λz=>{au `o,z}}
def n8 {r t:List Nat}:ae (fM m .add (.lst (r.map nD)) (.lst (t.map nD)) M) k↔ae (bu m ((r++t).map nD) M) k:=by
 rw[ju,RF]
def vm {rules:List eR}(hi:i<rules.length):bP (.lst (rules.map pairD)) (nD i) M=some (pairD (rules.getD i ([],[]))):=by
 show(bC (rules.map pairD).length (i:Int)).bind (λj=>(rules.map pairD)[j]?)=_;rw[dI (by simpa using hi)]
 simp[QA hi,Rk]
def xA (j:bF M x a)(u:bF M y b):br .ne x y M=some (!decide (a=b)):=
 hJ (by rw[j.vw];exact lQ 63 a) (by rw[u.vw];exact lQ 63 b) (by rw[j.vw,u.vw];exact qz a b)
def nZ:GS:=#v[aw (.one 8) (ak false .add (aa 3) (aH .len #[aa 6])),aL (ao (az .ne (bG false true true (aa 1) (aa 3) (aa 8)) (aa 6))) #v[aD gN] aB,aw (.one 9) (ak true .add (ak false .add (bG false false true (aa 1) gN (aa 3)) (aa 7)) (bG false true false (aa 1) (aa 8) gN)),aD (cT (ao (az .le (aH .len #[aa 9]) (gI 40))) (aa 9) gN)]
def BK (c:Call):fJ c=aC (aw (.tup [3,4,5]) (aa 2)) (aC (aL (cq (bB (ao (ai 0 c #[aa 3,gI 0,aH .len #[aa 1]]))) (bB (ao (ai 0 c #[aa 4,gI 0,ak false .sub (aH .len #[aa 0]) (gI 1)])))) #v[aD gN] aB) (aC (aw (.tup [6,7]) (av (aa 0) (aa 4))) (aC (aL (ao (aa 5)) #v[qM 6 7 #[aa 7,aa 6]] aB) (nZ)))):=rfl
def so:(fw row p g t).length<=row.length+t.length:=by unfold fw;simp;omega
def sm (row g t:List Nat)(p:Nat):(row.take p++t++row.drop (p+g.length)).map nD=(fw row p g t).map nD:=rfl
def Ea (j:bF M x row)(hl:row.length<=100)(v:g.length<=100)(y:t.length<=100) :
 ae (nZ [x0,some x,x2,some (nD p),x4,x5,some (.lst (g.map nD)),some (.lst (t.map nD)),x8,x9] M) (fL λd M'=>Sub M M'/\if (row.drop p).take g.length=g then(if (fw row p g t).length<=40 then ∃q,d=.cell q/\M.length<=q/\M'[q]?=some ((fw row p g t).map nD) else d=.non) else d=.non):=by
 unfold nZ;simp;rw[<- Se];refine{rfl,rfl,(Ab j `a).mpr ?_}
 rw[xA .l .l];have z:=so (row:=row) (g:=g) (t:=t) (p:=p);by_cases c:(row.drop p).take g.length=g
 ·simp[c];refine{rfl,rfl,(r8 j `a).mpr ?_}
  rw[n8,a9,<- Se];refine{au `o,rfl,rfl,(oh j `a).mpr ?_}
  rw[n8,iV,sm];refine{au `o,?_}
  simp;by_cases u:(fw row p g t).length<=40
  ·simp[u];exact .inr {`a,Sub.app}
  ·simp[u];exact{`a,Sub.app,`a}
 ·simp[c];exact .refl
section
variable{P:Nat->Option Df}(h:HasM P)(ha:pC P)(hr_:Ef P){M:Mem}
include h hr_
set_option tactic.hygienic true in
theorem zZ (n:Nat)(H:bF M x row)(R:eG m rules)(hr:bZ m row):ae (ah P (n+2) 55 [.lst (rules.map pairD),x,s.d] M) λd M'=>Sub M M'/\match fF rules row s with
 |some r=>∃q,d=.cell q/\M.length<=q/\M'[q]?=some (r.map nD)
 |none=>d=.non:=by
 refine aq hr_.behind rfl ?_;have l1:=hr.1;show ae (fJ (ah P (n+1)) [some (.lst (rules.map pairD)),some x,some (.tup [nD s.place,nD s.num,.bl s.back]),none,none,none,none,none,none,none] M) _;rw[BK];refine aV rfl ?_;show ae (aC _ _ [some (.lst (rules.map pairD)),some x,some (.tup [nD s.place,nD s.num,.bl s.back]),some (nD s.place),some (nD s.num),some (.bl s.back),none,none,none,none] M) _;have Q:aH .len #[aa 1] [some (.lst (rules.map pairD)),some x,some (.tup [nD s.place,nD s.num,.bl s.back]),some (nD s.place),some (nD s.num),some (.bl s.back),none,none,none,none] M=.ok (nD row.length) M:=aj (cK.mpr (by rw[af (x:=x) (ag rfl) rfl];exact H.len.mpr ⟨rfl,rfl⟩))
 refine bM (ja (bz (a8 ((aQ (af (ag rfl) (af rfl (af Q rfl)))).trans (dX h.toHasM0.toHasB0 n _ _ _)))) (bz (a8 ((aQ (af (ag rfl) (af rfl (af rfl rfl)))).trans (dX h.toHasM0.toHasB0 n _ _ _))))) (λz=>?_) λz=>?_
 ·refine bp rfl {.refl,?_};unfold fF;rw[if_neg (λc=>by simp at z;omega)]
 obtain⟨J,L⟩:=AK z;rw[Qh] at J L;have O:s.place<=row.length:=Int.ofNat_le.mp (of_decide_eq_true J.2);have v:s.num<rules.length:=by
  have:=of_decide_eq_true L.2;rw[Qk] at this;omega
 refine ay.mpr (Al.mpr ?_);rw[bA rfl rfl (vm v),aZ];refine{_,_,rfl,rfl,cH.mpr ?_};have U:=R.at v;have F:=ua U s.back;have j:∀(I:Option D) (kk:D->Mem->Prop),(∀d M',(Sub M M'/\match fF rules row s with|some r=>∃q,d=.cell q/\M.length<=q/\M'[q]?=some (r.map nD)|none=>d=.non)->kk d M')->ae (nZ [some (.lst (rules.map pairD)),some x,some (.tup [nD s.place,nD s.num,.bl s.back]),some (nD s.place),some (nD s.num),I,some (.lst (((rules.getD s.num ([],[])).way s.back).1.map nD)),some (.lst (((rules.getD s.num ([],[])).way s.back).2.map nD)),none,none] M) (fL kk):=by
  intro I kk hk;refine aA (Ea H `a (by have:=F.l1;omega) (by have:=F.l2;omega)) λfl M' q=>?_
  have u:∀d,(Sub M M'/\if (row.drop s.place).take ((rules.getD s.num ([],[])).way s.back).1.length=((rules.getD s.num ([],[])).way s.back).1 then(if (fw row s.place ((rules.getD s.num ([],[])).way s.back).1 ((rules.getD s.num ([],[])).way s.back).2).length<=40 then ∃q,d=.cell q/\M.length<=q/\M'[q]?=some ((fw row s.place ((rules.getD s.num ([],[])).way s.back).1 ((rules.getD s.num ([],[])).way s.back).2).map nD) else d=.non) else d=.non)->kk d M':=by
   rintro d ⟨S,q⟩;refine hk d M' {S,?_};unfold fF;rw[if_pos ⟨O,v⟩];split at q
   ·next y=>
    rw[if_pos y];split at q
    ·next B=>rw[if_pos B];exact q
    ·next B=>rw[if_neg B];exact q
   ·next y=>rw[if_neg y];exact q
  cases fl with
  |next W=>exact u .non q
  |ret d=>exact u d q
  |exc x W=>exact q.elim
 refine bM (b:=s.back) (a8 (ag rfl)) (λE=>?_) λE=>?_
 ·have q:=j (some (.bl s.back)) _ λd M' z=>z;refine ay.mpr (Js.mpr ?_);rw[af (ag rfl) (af (ag rfl) rfl),aZ];refine{_,_,rfl,?_};rw[E] at q ⊢;exact q
 ·have q:=j (some (.bl s.back)) _ λd M' z=>z;rw[E] at q ⊢;exact q
end
structure ki (P:Nat->Option Df):Prop where
 whole:P 67=some {1,1,kJ}
 is_in:P 68=some {3,3,m8}
 numbers:P 69=some {4,4,i7}
 is_deed:P 70=some {3,3,eh}
 is_machine:P 71=some {1,1,gz}
noncomputable def pH:D->Bool
 |.int _=>true
 |_=>false
def eq_empty (j:l.all (aE 63)=true):br .eq (.lst l) (.lst []) M=some l.isEmpty:=by
 refine nV j rfl ?_;cases l<;>rfl
noncomputable def l4 (f:D->Bool):∀ds:List D,((ds.filter λd=>!f d).map λ_=>D.int 1).isEmpty=ds.all f
 |[]=>rfl
 | d::r=>by
   have j:=l4 f r;cases q:f d with
   |true=>simpa[q] using j
   |false=>simp[q]
def qU (f:D->Bool)(j:ae (w Z M) λwk M'=>M'=M/\wk M=some ds)(hz:ds.length<=sz)(he:∀d∈ds,gc (some d::Z) M=.ok (!f d) M)(hk:k (.bl (ds.all f)) M) :
 ae (az .eq (bL false 1 (.one 0) w (ll gc (bN (gI 1)))) (aG false b9) Z M) k:=by
 simp only[dw,fi,iy,bf,a9];refine aA j ?_;rintro wk M' ⟨e1,e2⟩;subst e1;refine mY (λd=>!f d) (λ_=>.int 1) hz e2 (λd hd=>{some d::Z,rfl,he d hd,λ_=>rfl}) ?_;refine{Qs (by rw[Qk];exact List.length_filter_le _ _) hz,au `d,_,eq_empty ?_,?_}
 ·rw[Qq];intro x u;obtain⟨_,_,rfl⟩:=QS.mp u;rfl
 ·rw[l4];exact hk
section
variable{P:Nat->Option Df}(h:ki P){M:Mem}{k L:Nat}{d:D}
include h
theorem kn (n:Nat)(hd:Th k L d):ah P (n+1) 67 [d] M=.ok (.bl (pH d)) M:=by
 refine aj (aq h.whole rfl ?_);cases d with
 |fn j=>cases k<;>exact hd.elim
 |exc y p=>cases k<;>exact hd.elim
 |_=>exact cQ rfl
theorem ji (n:Nat)(hd:Th k L d)(lo hi:Int):ah P (n+2) 68 [d,.int lo,.int hi] M=.ok (.bl (aW lo hi d)) M:=by
 refine aj (aq h.is_in rfl ?_);have e:ai 67 (ah P (n+1)) #[aa 0] [some d,some (.int lo),some (.int hi)] M=.ok (.bl (pH d)) M:=gO rfl (kn h n hd);cases d with
 |fn j=>cases k<;>exact hd.elim
 |exc y p=>cases k<;>exact hd.elim
 |int i=>exact bp (iF e λ_=>vG rfl rfl rfl) ⟨rfl,rfl⟩
 |_=>exact bp (iF (y:=false) e λz=>by cases z) ⟨rfl,rfl⟩
noncomputable def qS (many:Nat)(lo hi:Int):D->Bool
 |.tup j=>j.length==many&&j.all (aW lo hi)
 |_=>false
theorem qJ (n:Nat)(hd:Th k L d)(E:L<=100)(lo hi:Int):ah P (n+3) 69 [d,nD many,.int lo,.int hi] M=.ok (.bl (qS many lo hi d)) M:=by
 refine aj (aq h.numbers rfl ?_);cases d with
 |fn j=>cases k<;>exact hd.elim
 |exc y p=>cases k<;>exact hd.elim
 | tup u=>
   have B:=hd.tup;simp only[i7,ay,pQ,cu,cH,Cf,hU,pL,eV,Ck,cW,aK,Bm,Sb,List.map_nil,List.cons_append,R1,Q5,Q6,Ri,Rp,exists_eq_left'];refine{true,rfl,true,rfl,?_};rw[if_neg `d]
   refine dw.mpr (cK.mpr (aS.mpr (aK.mpr {_,rfl,bf.mpr (xg.mpr (aK.mpr {_,rfl,_,NN,_,rfl,?_}))})));by_cases z:u.length=many
   ·have v:(!((u.length:Int)==(many:Int)))=false:=by simp[z]
    rw[v,if_neg `d]
    refine qU (aW lo hi) (by simp;exact⟨rfl,rfl⟩) (au `a) (λd hd=>aR (by simp[ji h n (B.2 d hd)])) ?_
    exact{by simp[qS,z],rfl}
   ·have v:(!((u.length:Int)==(many:Int)))=true:=by simp;omega
    rw[v,if_pos `d]
    exact{by simp[qS,z],rfl}
 |_=>exact cQ rfl
end
noncomputable abbrev dz:List D:=[.str "turn",.str "join",.str "move",.str "put"]
def AN (j:Th k L x)(hk:k<=60):br .notin x (.tup dz) M=some (!(dz.any λy=>dt y x)):=by
 have u:aE 64 x=true:=(j.mono `a (Qo L)).pure
 have e:br .notin x (.tup dz) M=((b7 M (.tup dz)).bind (jC (view M x))).map (!·):=by cases x<;>rfl
 rw[e,j.view];show Option.map _ (jC x dz)=_;unfold jC;rw[u,show dz.all (aE 63)=true by decide +kernel]
 rfl
section
variable{P:Nat->Option Df}(h:ki P){M:Mem}{k L:Nat}{d:D}
include h
theorem AY (n:Nat)(hl:xs.length≠4/\xs.length≠5):ah P (n+4) 70 [.tup xs,nD w,nD p] M=.ok (.bl false) M:=by
 refine aj (aq h.is_deed rfl ?_);refine bt (aR ?_) rfl ⟨rfl,rfl⟩;have e:br .notin (.int xs.length) (.tup [.int 4,.int 5]) M=some true:=by
  have e1:dt (.int 4) (.int xs.length)=false:=by simp[yW];omega
  have e2:dt (.int 5) (.int xs.length)=false:=by simp[yW];omega
  show(some ([D.int 4,D.int 5].any λy=>dt y (.int xs.length))).map (!·)=_;simp[e1,e2]
 simp[bY,e];exact au `d
theorem yz (n:Nat)(j:Th k L x)(hk:k<=60)(hl:xs.length=3\/xs.length=4)(hn:(dz.any λy=>dt y x)=false):ah P (n+4) 70 [.tup (x::xs),nD w,nD p] M=.ok (.bl false) M:=by
 refine aj (aq h.is_deed rfl ?_);have e:br .notin (.int (x::xs).length) (.tup [.int 4,.int 5]) M=some false:=by
  show(some ([D.int 4,D.int 5].any λy=>dt y (.int (x::xs).length))).map (!·)=_;rcases hl with e|e<;>simp[yW,e]
 have e2:=AN (M:=M) j hk;rw[hn] at e2;refine ax (aR ?_) (bt (aR ?_) rfl ⟨rfl,rfl⟩)
 ·simp at e;simp[bY,e];exact au `d
 ·simp[bC,e2];exact au `d
theorem FD (n:Nat)(j:L+1<=100)(y:bP (.tup xs) (.int 1) M=some a)(il:bP (.tup xs) (.int (-1)) M=some c)(u:Th k L a)(v:Th k L c) :
 (cq (bB (ao (ai 69 (ah P (n+3)) #[bc #[av (aa 0) (gI 1)],gI 1,gI 0,ak false .sub (aa 2) (gI 1)]))) (bB (ao (ai 68 (ah P (n+3)) #[av (aa 0) (dZ (gI 1)),gI 1,gI 3]))):GT) [some (.tup xs),some (nD w),some (nD p)] M=.ok (!(aW 0 ((p:Int)-1) a&&aW 1 3 c)) M:=by
 have z:ah P (n+3) 69 [.tup [a],.int 1,.int 0,.int ((p:Int)-1)] M=.ok (.bl (qS 1 0 ((p:Int)-1) (.tup [a]))) M:=qJ h n (d:=.tup [a]) (k:=k+1) ({`s,λd hd=>by rw[Qz.mp hd];exact u.mono (Qo k) (Sg L)}) j 0 _
 have B:=ji h (n+1) (M:=M) v 1 3;have E:1<=sz:=au `d
 refine aR ?_;simp[-jQ,y,il,z,B,E,qS];cases aW 0 ((p:Int)-1) a<;>cases aW 1 3 c<;>simp
end
def Hm:br .notin (.str "turn") (.tup dz) M=some false:=by
 show(jC (.str "turn") dz).map (!·)=_;decide +kernel
def Ho:br .notin (.str "join") (.tup dz) M=some false:=by
 show(jC (.str "join") dz).map (!·)=_;decide +kernel
def Hn:br .notin (.str "move") (.tup dz) M=some false:=by
 show(jC (.str "move") dz).map (!·)=_;decide +kernel
def Ks:br .notin (.str "put") (.tup dz) M=some false:=by
 show(jC (.str "put") dz).map (!·)=_;decide +kernel
def ET:br .ne (.bl x) (.bl y) M=some (x != y):=by cases x<;>cases y<;>rfl
def Lh:br .notin (.int 4) (.tup [.int 4,.int 5]) M=some false/\br .notin (.int 5) (.tup [.int 4,.int 5]) M=some false:=⟨rfl,rfl⟩
section
variable{P:Nat->Option Df}(h:ki P){M:Mem}{k L:Nat}{d:D}
include h
theorem yy (n:Nat)(u:L+1<=100)(y:Th k L a)(z:Th k L b)(B:Th k L c):ah P (n+4) 70 [.tup [.str "turn",a,b,c],nD w,nD p] M=.ok (.bl (km w p [a,b,c])) M:=by
 refine aj (aq h.is_deed rfl ?_);show ae (eh _ [some (.tup [.str "turn",a,b,c]),some (nD w),some (nD p)] M) _;refine ax (by kernel_rfl) (ax (by kernel_rfl) ?_)
 have j:=FD h n (w:=w) (p:=p) (M:=M) (xs:=[.str "turn",a,b,c]) u rfl rfl y B;cases A:(aW 0 ((p:Int)-1) a&&aW 1 3 c) with
 | false=>
   rw[A] at j;refine bt j rfl {?_,rfl};simp only[km];rcases Bool.and_eq_false_iff.mp A with q|q<;>simp[q]
 | true=>
   rw[A] at j;simp only[Qh] at A;refine ax j ?_;have q:=qJ h n (M:=M) (many:=w) z `a 0 ((w:Int)-1)
   refine bt (v:=.bl (gy w b)) (by kernel_rfl) (aj (by simp[bC,q];cases b<;>rfl)) {?_,rfl}
   simp[km,A.1,A.2]
theorem AW (n:Nat)(u:L+1<=100)(y:Th k L a)(z:Th k L b)(B:Th k L c):ah P (n+4) 70 [.tup [.str "put",a,b,c],nD w,nD p] M=.ok (.bl (mE w p [a,b,c])) M:=by
 refine aj (aq h.is_deed rfl ?_);show ae (eh _ [some (.tup [.str "put",a,b,c]),some (nD w),some (nD p)] M) _;refine ax (by kernel_rfl) (ax (by kernel_rfl) ?_)
 have j:=FD h n (w:=w) (p:=p) (M:=M) (xs:=[.str "put",a,b,c]) u rfl rfl y B;cases A:(aW 0 ((p:Int)-1) a&&aW 1 3 c) with
 | false=>
   rw[A] at j;refine bt j rfl {?_,rfl};simp only[mE];rcases Bool.and_eq_false_iff.mp A with q|q<;>simp[q]
 | true=>
   rw[A] at j;simp only[Qh] at A;refine ax j ?_;have q:=ji h (n+1) (M:=M) z 0 ((w:Int)-1);refine ax (by kernel_rfl) (bt (v:=.bl (aW 0 ((w:Int)-1) b)) (by kernel_rfl) (aj (by simp[bC,q])) {?_,rfl})
   simp[mE,A.1,A.2]
theorem yA (n:Nat)(u:L+1<=100)(v:Th k L a)(y:Th k L b)(z:Th k L c):ah P (n+4) 70 [.tup [.str "move",a,b,c],nD w,nD p] M=.ok (.bl (jE w p [a,b,c])) M:=by
 refine aj (aq h.is_deed rfl ?_);show ae (eh _ [some (.tup [.str "move",a,b,c]),some (nD w),some (nD p)] M) _;refine ax (by kernel_rfl) (ax (by kernel_rfl) ?_)
 have j:=FD h n (w:=w) (p:=p) (M:=M) (xs:=[.str "move",a,b,c]) u rfl rfl v z;cases A:(aW 0 ((p:Int)-1) a&&aW 1 3 c) with
 | false=>
   rw[A] at j;refine bt j rfl {?_,rfl};simp only[jE];rcases Bool.and_eq_false_iff.mp A with q|q<;>simp[q]
 | true=>
   rw[A] at j;simp only[Qh] at A;refine ax j ?_;have q:=ji h (n+1) (M:=M) y 0 ((p:Int)-1);refine ax (by kernel_rfl) (ax (by kernel_rfl) ?_)
   cases B:aW 0 ((p:Int)-1) b with
   | false=>
     rw[B] at q;exact bt (aR (by simp[bC,q])) rfl {by simp[jE,B],rfl}
   | true=>
     rw[B] at q;refine ax (aR (by simp[bC,q])) (bt (by kernel_rfl) rfl {?_,rfl})
     simp[jE,A.1,A.2,B]
theorem yB (n:Nat)(F:L+1<=100)(H:Th k L a)(I:Th k L b)(he:Th k L e)(J:Th k L c):ah P (n+4) 70 [.tup [.str "join",a,b,e,c],nD w,nD p] M=.ok (.bl (jb w p [a,b,e,c])) M:=by
 refine aj (aq h.is_deed rfl ?_);show ae (eh _ [some (.tup [.str "join",a,b,e,c]),some (nD w),some (nD p)] M) _;refine ax (by kernel_rfl) (ax (by kernel_rfl) ?_)
 have u:=FD h n (w:=w) (p:=p) (M:=M) (xs:=[.str "join",a,b,e,c]) F rfl rfl H J;cases A:(aW 0 ((p:Int)-1) a&&aW 1 3 c) with
 | false=>
   rw[A] at u;refine bt u rfl {?_,rfl};simp only[jb];rcases Bool.and_eq_false_iff.mp A with q|q<;>simp[q]
 | true=>
   rw[A] at u;simp only[Qh] at A;refine ax u ?_;have q:=ji h (n+1) (M:=M) I 0 ((p:Int)-1);refine ax (by kernel_rfl) (ax (by kernel_rfl) ?_)
   cases B:aW 0 ((p:Int)-1) b with
   | false=>
     rw[B] at q;exact bt (aR (by simp[bC,q])) rfl {by simp[jb,B],rfl}
   | true=>
     rw[B] at q;refine ax (aR (by simp[bC,q])) (ax (by kernel_rfl) ?_)
     have E:jb w p [a,b,e,c]=jd w e:=by simp[jb,A.1,A.2,B]
     rw[E];cases e with
     |fn j=>exact absurd he (by cases k<;>exact id)
     |exc y p=>exact absurd he (by cases k<;>exact id)
     | tup z=>
       have O:=he.tup;by_cases v:z.length=w
       ·refine ax (aR (by simp[bC,bY,v])) ?_
        simp only[ay,cu];refine qU (gy w) (by simp[bC];exact⟨rfl,rfl⟩) (au `a) (λd hd=>aR (by
         have q:=qJ h n (M:=M) (many:=w) (O.2 d hd) `a 0 ((w:Int)-1)
         have:qS w 0 ((w:Int)-1) d=gy w d:=by cases d<;>rfl
         rw[this] at q;simp[q])) ?_
        exact{by simp[jd,v],rfl}
       ·have:¬ ((z.length:Int)=(w:Int)):=`a
        exact bt (aR (by simp[bC,bY,this])) rfl {by simp[jd,v],rfl}
     |_=>exact bt rfl rfl ⟨rfl,rfl⟩
omit h in
theorem Az (hl:ds.length≠3/\ds.length≠4):cD w p s ds=false:=by
 have t:km w p ds=false:=by
  match ds,hl with
  |[],_=>rfl
  |[_],_=>rfl
  |[_,_],_=>rfl
  |[_,_,_],hl=>simp at hl
  |_::_::_::_::_,_=>rfl
 have j:jb w p ds=false:=by
  match ds,hl with
  |[],_=>rfl
  |[_],_=>rfl
  |[_,_],_=>rfl
  |[_,_,_],_=>rfl
  |[_,_,_,_],hl=>simp at hl
  |_::_::_::_::_::_,_=>rfl
 have m:jE w p ds=false:=by
  match ds,hl with
  |[],_=>rfl
  |[_],_=>rfl
  |[_,_],_=>rfl
  |[_,_,_],hl=>simp at hl
  |_::_::_::_::_,_=>rfl
 have u:mE w p ds=false:=by
  match ds,hl with
  |[],_=>rfl
  |[_],_=>rfl
  |[_,_],_=>rfl
  |[_,_,_],hl=>simp at hl
  |_::_::_::_::_,_=>rfl
 unfold cD;rw[t,j,m,u];split<;>first|rfl|(split<;>first|rfl|(split<;>first|rfl|(split<;>rfl)))
theorem kB (n:Nat)(hs:br .notin (.str s) (.tup dz) M=some false)(j:br .eq (.str s) (.str "join") M=some bj)(hl:xs.length=3/\bj=true\/xs.length=4/\bj=false):ah P (n+4) 70 [.tup (.str s::xs),nD w,nD p] M=.ok (.bl false) M:=by
 refine aj (aq h.is_deed rfl ?_);have u:2<=sz:=au `d
 have v:4<=sz:=au `d
 rcases hl with⟨e,rfl⟩|⟨e,rfl⟩
 ·refine ax (aR (by simp[bY,e,Lh.1,u])) (bt (aR ?_) rfl ⟨rfl,rfl⟩)
  simp[bC,hs,v,j,ET,e]
 ·refine ax (aR (by simp[bY,e,Lh.2,u])) (bt (aR ?_) rfl ⟨rfl,rfl⟩)
  simp[bC,hs,v,j,ET,e]
theorem AX (n:Nat)(hi:bY .tuple d=some false):ah P (n+4) 70 [d,nD w,nD p] M=.ok (.bl false) M:=by
 refine aj (aq h.is_deed rfl ?_);exact bt (aR (by simp[hi])) rfl ⟨rfl,rfl⟩
theorem zW (n:Nat)(hd:Th k L d)(hk:k<=60)(E:L+1<=100):ah P (n+4) 70 [d,nD w,nD p] M=.ok (.bl (fO w p d)) M:=by
 cases d with
 |fn j=>exact absurd hd (by cases k<;>exact id)
 |exc y p=>exact absurd hd (by cases k<;>exact id)
 | tup xs=>
   have H:=hd.tup;by_cases hl:xs.length≠4/\xs.length≠5
   ·rw[AY h n hl];cases xs with
    |nil=>rfl
    | cons x v=>
      simp at hl;cases x with
      |str s=>show _=Res.ok (D.bl (cD w p s v)) M;rw[Az {`a,`a}]
      |_=>rfl
   ·have hl:xs.length=4\/xs.length=5:=`a
    cases xs with
    |nil=>simp at hl
    | cons x v=>
      have F:=H.2 x Qv;have u:=λd hd=>H.2 d (Qm _ hd);have hl:v.length=3\/v.length=4:=by simp at hl;omega
      by_cases hn:(dz.any λy=>dt y x)=false
      ·rw[yz h n F hk hl hn];cases x with
       | str s=>
         show _=Res.ok (D.bl (cD w p s v)) M;have q:∀z:Str,D.str z∈dz->¬ s=z:=λz B e=>by
          subst e;rw[List.any_eq_false] at hn;exact hn _ B (by simp[FN])
         rw[uS (q _ `s) (q _ `s) (q _ `s) (q _ `s)]
       |_=>rfl
      ·have hn:(dz.any λy=>dt y x)=true:=(Bool.not_eq_false _).mp hn;obtain⟨z,B,e⟩:=List.any_eq_true.mp hn;have F:∃s:Str,x=.str s/\D.str s∈dz:=by
        simp only[dz,Qu,QL,or_false] at B;cases x with
        |str s=>rcases B with rfl|rfl|rfl|rfl<;>(rw[FN,beq_iff_eq] at e;subst e;exact{_,rfl,`s})
        |_=>rcases B with rfl|rfl|rfl|rfl<;>cases e
       obtain⟨s,rfl,hs⟩:=F;show _=Res.ok (D.bl (cD w p s v)) M;simp only[dz,Qu,QL,or_false,D.str.injEq] at hs
       match v,u,hl with
       | [a,b,c],u,_=>
         simp only[Qu,QL,or_false,forall_eq_or_imp,forall_eq] at u;rcases hs with rfl|rfl|rfl|rfl
         ·rw[mK];exact yy h n E u.1 u.2.1 u.2.2
         ·rw[mJ];exact kB h n Ho (cn `k M) (.inl ⟨rfl,rfl⟩)
         ·rw[mI];exact yA h n E u.1 u.2.1 u.2.2
         ·rw[mH];exact AW h n E u.1 u.2.1 u.2.2
       | [a,b,e,c],u,_=>
         simp only[Qu,QL,or_false,forall_eq_or_imp,forall_eq] at u;rcases hs with rfl|rfl|rfl|rfl
         ·rw[mK];exact kB h n Hm (cn `k M) (.inr ⟨rfl,rfl⟩)
         ·rw[mJ];exact yB h n E u.1 u.2.1 u.2.2.1 u.2.2.2
         ·rw[mI];exact kB h n Hn (cn `k M) (.inr ⟨rfl,rfl⟩)
         ·rw[mH];exact kB h n Ks (cn `k M) (.inr ⟨rfl,rfl⟩)
       |[],_,hl=>simp at hl
       |[_],_,hl=>simp at hl
       |[_,_],_,hl=>simp at hl
       |_::_::_::_::_::_,_,hl=>simp at hl
 |_=>exact AX h n rfl
theorem rZ (n:Nat)(hd:Th k L d)(hk:k<=60)(U:L+1<=100):ah P (n+5) 71 [d] M=.ok (.bl (ik d)) M:=by
 refine aj (aq h.is_machine rfl ?_);show ae (gz _ [some d] M) _;by_cases hn:fV 3 d=false
 ·rw[u9 hn];cases d with
  |fn j=>exact absurd hd (by cases k<;>exact id)
  |exc y p=>exact absurd hd (by cases k<;>exact id)
  | tup xs=>
    have hn:(xs.length==3)=false:=hn;have O:((xs.length:Int)==3)=false:=Q8.mpr λz=>ne_of_beq_false hn (Int.ofNat.inj z);exact dR (gK (bz (b:=true) rfl) (qa (a8 (i4 (jG rfl) rfl (show some (!((xs.length:Int)==3))=some true by rw[O];rfl))))) (bp rfl ⟨rfl,rfl⟩)
  |_=>exact bt rfl rfl ⟨rfl,rfl⟩
 ·match d,hd,hn with
  | .tup [a,b,c],hd,_=>
    have E:=hd.tup.2;have v:=E c (Qm _ (Qm _ Qv));have I:=ji h (n+2) (M:=M) (E a Qv) 2 4;have J:=ji h (n+2) (M:=M) (E b (Qm _ Qv)) 1 2;show ae _ (fL λx H=>x=.bl (aW 2 4 a&&(aW 1 2 b&&(iX c&&(qi c).all (fO (fx a) (fx b)))))/\H=M);refine bM (gK (bz (b:=true) rfl) (gK (a8 (b:=false) rfl) (bz (a8 ((aQ (af (bA rfl rfl rfl) (af rfl (af rfl rfl)))).trans I))))) (λz=>?_) (λz=>?_)
    ·rw[EU z];exact bp rfl ⟨rfl,rfl⟩
    have F:=EV z;rw[F];have t2:bB (ao (ai 68 (ah P (n+4)) #[av (aa 0) (gI 1),gI 1,gI 2])) [some (.tup [a,b,c])] M=.ok (!aW 1 2 b) M:=bz (a8 ((aQ (af (bA rfl rfl rfl) (af rfl (af rfl rfl)))).trans J));cases B:aW 1 2 b with
    | false=>
      rw[B] at t2;exact dR (qa t2) (bp rfl ⟨rfl,rfl⟩)
    | true=>
      rw[B] at t2;obtain⟨Q,_,_⟩:=nY F `d
      obtain⟨R,_,_⟩:=nY B `d
      by_cases u:∃ds,c=.tup ds
      ·obtain⟨ds,rfl⟩:=u;have W:=v.tup;have S:(decide ((1:Int)<=(ds.length:Int))&&decide ((ds.length:Int)<=6))=iX (.tup ds):=by
        show _=(decide (1<=ds.length)&&decide (ds.length<=6));rw[decide_eq_decide.mpr (show(1:Int)<=(ds.length:Int)↔1<=ds.length by omega),decide_eq_decide.mpr (show(ds.length:Int)<=6↔ds.length<=6 by omega)]
       have X:bB (ao (j8 .le .le (gI 1) (aH .len #[av (aa 0) (gI 2)]) (gI 6))) [some (.tup [a,b,.tup ds])] M=.ok (!iX (.tup ds)) M:=by
        rw[<- S];exact bz (a8 (vG (i:=(ds.length:Int)) rfl rfl rfl))
       refine bM (gK t2 (gK (bz (b:=true) rfl) X)) (λz=>?_) (λz=>?_)
       ·rw[EU z];exact bp rfl ⟨rfl,rfl⟩
       ·rw[EV z,ay,cu];refine qU (fO (fx a) (fx b)) (ds:=ds) ?_ (au `a) (λd hd=>?_) ⟨rfl,rfl⟩
        ·rw[lF,bA (d:=.tup ds) rfl rfl rfl,aZ];exact⟨rfl,rfl,rfl⟩
        ·have q:=zW h n (w:=fx a) (p:=fx b) (M:=M) (W.2 d hd) hk U;rw[<- Q,<- R] at q;exact bz (a8 ((aQ (af rfl (af (bA rfl rfl rfl) (af (bA rfl rfl rfl) rfl)))).trans q))
      ·have e1:iX c=false:=by cases c<;>first|rfl|exact absurd {_,rfl} u
       have e2:=pd v (.inr ⟨u,rfl⟩);rw[e1];exact dR (gK t2 (qa (bz (b:=false) (a8 (rg (bA rfl rfl rfl) e2))))) (bp rfl ⟨rfl,rfl⟩)
  |.tup [],_,hn=>exact absurd rfl hn
  |.tup [_],_,hn=>exact absurd rfl hn
  |.tup [_,_],_,hn=>exact absurd rfl hn
  |.tup (_::_::_::_::r),_,hn=>exact absurd (by simp[fV]) hn
  |.non,_,hn=>exact absurd rfl hn
  |.bl _,_,hn=>exact absurd rfl hn
  |.int _,_,hn=>exact absurd rfl hn
  |.str _,_,hn=>exact absurd rfl hn
  |.lst _,_,hn=>exact absurd rfl hn
  |.frz _,_,hn=>exact absurd rfl hn
  |.cell _,_,hn=>exact absurd rfl hn
  |.fn _,_,hn=>exact absurd rfl hn
  |.exc _ _,_,hn=>exact absurd rfl hn
end
structure HasT0 (P:Nat->Option Df):Prop where
 but:P 64=some {2,4,fQ}
 any:P 65=some {1,1,fS}
structure HasT (P:Nat->Option Df):Prop extends HasT0 P where
 signed:P 66=some {2,3,gP}
 bent:P 72=some {3,9,jg}
instance coeHasT {P:Nat->Option Df}:Coe (HasT P) (HasT0 P):=⟨HasT.toHasT0⟩
section
variable{Z:Env}{M:Mem}{a b lo hi:GE}{k:D->Mem->Prop}{kw:Walk->Mem->Prop}
@[simp] theorem IL:ae (qp a Z M) kw↔ae (a Z M) λx M=>∃z,x=.str z/\kw (λ_=>some (signs z)) M:=by
 simp only[qp,bo];refine iff_of_eq ?_;congr 1;funext x M;cases x<;>simp
set_option tactic.hygienic true in
def Lr {hl hh:Bool}:ae (nM hl hh a lo hi Z M) k↔ae (a Z M) λx M=>ae (lo Z M) λl M=>ae (hi Z M) λh M=>cv hl l=true/\cv hh h=true/\∃z i j,x=.str z/\z.cps.size<=sz/\aM z.cps.size 0 l=some i/\aM z.cps.size z.cps.size h=some j/\k (.str (i1 z i j)) M:=by
 simp only[nM,bo];refine iff_of_eq ?_
 congr 1;funext x M;congr 1;funext l M;congr 1;funext h M
 cases cv hl l<;>cases cv hh h<;>simp;cases x<;>simp;rename_i z;by_cases u:z.cps.size<=sz
 ·simp[u];cases aM z.cps.size 0 l<;>cases aM z.cps.size z.cps.size h<;>simp
 ·simp[u]
end
def gQ (L:Nat)(z:Str):Prop:=z.cps.size<=L/\z.cps.all (· < 0x110000)=true
def gQ.th {n L:Nat}{z:Str}(h:gQ L z):Th n L (.str z):=by cases n<;>exact h
def Bu {L:Nat}{z:Str}{i j:Nat}(h:gQ L z):gQ (j-i) (i1 z i j)/\(i1 z i j).cps.size<=z.cps.size-i:=by
 refine{{?_,?_},?_}
 ·simp[i1,cut];omega
 ·have h2:=h.2;rw[<- Array.all_toList,Qq] at h2;simp only[i1];rw[List.all_toArray,Qq];intro x u;exact h2 x (RT (Q9 u))
 ·simp[i1,cut];omega
def add_str {m:Bool}{x y:Str}{M:Mem}{k:D->Mem->Prop}(h:x.cps.size+y.cps.size<=sz):ae (fM m .add (.str x) (.str y) M) k↔k (.str {x.cps++y.cps}) M:=by
 show ae (if x.cps.size+y.cps.size<=sz then Res.ok (D.str {x.cps++y.cps}) M else .bad) k↔_;rw[if_pos h];exact Rl
noncomputable abbrev N8:Str:=" !\"#$&'()*+,-./0123456789:;<=>?@ABCDEFGHIJKLMNOPQRSTUVWXYZ[\\]^_`"
noncomputable abbrev N7:Str:="abcdefghijklmnopqrstuvwxyz{|}~\t\n"
def allSigns:Str:={N8.cps++N7.cps}
def Iv {M:Mem}{k:D->Mem->Prop}:ae (fM false .add (.str N8) (.str N7) M) k↔k (.str allSigns) M:=add_str (Qs `k (au (n:=200) `d))
def jj:(0<(signs allSigns).length/\(signs allSigns).length<=200)/\allSigns.cps.size<=200/\((signs allSigns).all λd=>match d with|.str z=>!my z ""&&z.cps.size==1&&z.cps.all (· < 0x110000)|_=>false)=true:=`k
def sign_is {d:D}(h:d∈signs allSigns):∃z:Str,d=.str z/\my z ""=false/\gQ 1 z:=by
 have q:=Qq.mp jj.2.2 d h;cases d with
 | str z=>
   simp only[Qh,RI,beq_iff_eq] at q;exact{z,rfl,q.1.1,by rw[q.1.2];exact Qo 1,q.2}
 |_=>cases q
section
variable{P:Nat->Option Df}(hp_:HasP0 P)(ht_:HasT0 P){M:Mem}
include hp_ ht_
theorem Jh (n:Nat){p B:Nat}(F:aF M p B)(H:B<=900000):ae (ah P (n+4) 65 [.cell p] M) λd M'=>∃z:Str,d=.str z/\gQ 1 z/\aF M' p (B+1)/\aU p M M':=by
 refine aq ht_.any rfl ?_;show ae (fS _ [some (.cell p)] M) _;simp only[fS,ay,cu,iz,aS,bf,aK,cW,Q5,Ri,Rp,exists_eq_left'];refine aq ht_.but rfl ?_;show ae (fQ _ [some (.cell p),some (.str ""),none,none] M) _;simp only[fQ,ay,pQ,gD,cH,cu,cW,cx,aK,Q5,Q6,Ri,Rp,exists_eq_left',List.set_cons_zero,List.set_cons_succ];refine Iv.mpr ?_;simp only[fi,IL,aK,Q5,Q6,Ri,Rp,exists_eq_left',D.str.injEq];refine mY (λ_=>true) (λd=>d) (ds:=signs allSigns) (au (by have:=jj.1.2;omega)) rfl (λd hd=>?_) ?_
 ·obtain⟨z,rfl,u,_⟩:=sign_is hd;refine{_,rfl,aR ?_,λ_=>rfl};simp;show some (!my z "")=_;rw[u];rfl
 have E:(List.filter (λ_=>true) (signs allSigns)).map (λd=>d)=signs allSigns:=`s
 rw[E];refine a9.mpr {au (by have:=jj.1.2;omega),?_}
 simp only[cH,ay,cu,jI,iz,aS,bf,cK,aK,Q5,Q6,Ri,Rp,exists_eq_left',List.set_cons_zero,List.set_cons_succ,Hx];refine tk hp_ n F `a jj.1.1 (by have:=jj.1.2;omega) λv M' h q kk=>?_
 obtain⟨z,e,_,u⟩:=sign_is (Q4 h);refine{.str z,?_,z,rfl,u,q,kk};show(bC (signs allSigns).length (v:Int)).bind (λj=>(signs allSigns)[j]?)=_;rw[dI h];simp[h,e]
end
section
variable{P:Nat->Option Df}(hp_:HasP P)(ht_:HasT P){M:Mem}
include hp_ ht_
omit hp_ ht_ in
theorem BC {A B:Nat}{x y:Str}(h:gQ A x)(j:gQ B y):gQ (x.cps.size+y.cps.size) {x.cps++y.cps}:=by
 refine{`s,?_}
 have h1:=h.2;have h2:=j.2;simp only[Array.all_append,h1,h2,Bool.and_self]
theorem zT (n:Nat){p B L:Nat}{z:Str}(hz:gQ L z)(hL:L<=100)(U:aF M p B)(hB:B<=800000):ae (ah P (n+5) 66 [.cell p,.str z] M) λd M'=>∃O:Str,d=.str O/\gQ (L+1) O/\aF M' p (B+3)/\aU p M M':=by
 refine aq ht_.signed rfl ?_;show ae (gP _ [some (.cell p),some (.str z),none] M) _;have zl:=hz.1;have h:z.cps.size<=sz:=au `a
 simp only[gP,ay,pQ,gD,cH,cu,iz,aS,bf,cW,cx,aK,cK,Lr,Q5,Q6,Ri,Rp,exists_eq_left',List.set_cons_zero,List.set_cons_succ];have R:∀{k:D->Mem->Prop},k (.int z.cps.size) M->ae (eQ .len [.str z] M) k:=λhk=>by
  show ae (if z.cps.size<=sz then Res.ok (D.int z.cps.size) M else .bad) _;rw[if_pos h];exact hk
 refine R ?_;rw[iG];rw[show((z.cps.size:Int)+1)=((z.cps.size+1:Nat):Int) by omega]
 refine tk hp_ (n+2) U `a `a `a λat_ M1 S X k1=>?_
 refine{rfl,rfl,z,0,at_,rfl,h,rfl,?_,?_}
 ·show some (if (at_:Int)<0 then _ else min (at_:Int).toNat z.cps.size)=_;rw[if_neg `a]
  congr 1
  simp;omega
 refine aA (Jh hp_ ht_ (M:=M1) (B:=B+1) (p:=p) n X `a) ?_;rintro d M2 ⟨y,Q,I,Y,k2⟩
 subst Q;have F:=Bu (i:=0) (j:=at_) hz;have u:=BC F.1 I;have s1:=F.1.1;have s2:=I.1;have w1:(i1 z 0 at_).cps.size+y.cps.size<=sz:=au `a
 refine(add_str w1).mpr ?_;refine tk hp_ (n+2) (many:=2) Y `a `d `d λv M3 hv q3 W=>?_
 rw[iG];rw[show((at_:Int)+(v:Int))=((at_+v:Nat):Int) by omega]
 refine{rfl,rfl,z,min (at_+v) z.cps.size,z.cps.size,rfl,h,?_,rfl,?_}
 ·show some (if ((at_+v:Nat):Int)<0 then _ else min ((at_+v:Nat):Int).toNat z.cps.size)=_;rw[if_neg `a]
  congr 1
 have H:=Bu (i:=min (at_+v) z.cps.size) (j:=z.cps.size) hz;have E:=BC u H.1;have s3:=H.2;have J:=u.1;simp only at J;have w2:((i1 z 0 at_).cps++y.cps).size+(i1 z (min (at_+v) z.cps.size) z.cps.size).cps.size<=sz:=au (by simp only[Array.size_append] at J ⊢;omega)
 refine(add_str w2).mpr ?_;refine{_,rfl,{?_,E.2},q3,(k1.trans k2).trans W};have:=E.1;simp only[Array.size_append] at this ⊢;omega
end
noncomputable def fu:List D:=[.non,.bl true,.bl false,.str "",.str "turn",.str "join",.str "move",.str "put",.str "Turn",.tup [],.lst [],.int (10^20),.int (-1),.int 0,.int 1,.int 4,.tup [.int 0],.lst [.int 0],.str "0",.int 7]
def AH {x:D}(h:x∈fu):Th 1 4 x:=by
 have st:∀z:Str,(z.cps.size<=4&&z.cps.all (· < 0x110000))=true->Th 1 4 (.str z):=λz j=>by
  simp only[Qh,decide_eq_true_eq] at j;exact j
 simp only[fu,Qu,QL,or_false] at h;rcases h with rfl|rfl|rfl|rfl|rfl|rfl|rfl|rfl|rfl|rfl|rfl|rfl|rfl|rfl|rfl|rfl|rfl|rfl|rfl|rfl
 all_goals first
  |trivial
  |exact st _ `k
  |exact{`d,λd hd=>absurd hd QL}
  |exact{`d,λd hd=>by rw[Qz.mp hd];trivial}
def wC {lo hi:D}{hl hh:Bool}{xs:List D}{M:Mem}{k:D->Mem->Prop}(h1:cv hl lo=true)(h2:cv hh hi=true)(hk:∀i j,k (.tup (cut xs i j)) M):ae (cM false (.tup xs) lo hi M) k:=by
 have q:∀{n d:Nat}{b:Bool}{x:D},cv b x=true->∃i,aM n d x=some i:=λ{n d b x} h=>by
  cases b<;>cases x<;>first|exact{_,rfl}|cases h
 obtain⟨i,e1⟩:=q (n:=xs.length) (d:=0) h1;obtain⟨j,e2⟩:=q (n:=xs.length) (d:=xs.length) h2;show ae (match aM xs.length 0 lo,aM xs.length xs.length hi with|some l,some h=>Res.ok (D.tup (cut xs l h)) M|_,_=>.bad) k
 rw[e1,e2];exact hk i j
def jT {xs:List D}{i j:Nat}:(cut xs i j).length<=xs.length/\(cut xs i j).length<=j/\∀d∈cut xs i j,d∈xs:=by
 refine{?_,?_,λd hd=>RT (Q9 hd)}
 ·unfold cut;rw[Rj,R8];omega
 ·unfold cut;rw[Rj];omega
def Mw {xs:List D}{M:Mem}{k:D->Mem->Prop}(hk:∀ys:List D,ys.length<=1->(∀d∈ys,d∈xs)->k (.tup ys) M):ae (cM false (.tup xs) .non (.int 1) M) k:=by
 show ae (Res.ok (D.tup (cut xs 0 (min 1 xs.length))) M) k;exact hk _ (Qs jT.2.1 `a) jT.2.2
def Jj {xs:List D}{a:Nat}{M:Mem}{k:D->Mem->Prop}(h:a<xs.length)(hk:k (.tup (xs.take a)) M):ae (cM false (.tup xs) .non (nD a) M) k:=by
 show ae (Res.ok (D.tup (cut xs 0 (if (a:Int)<0 then _ else min (a:Int).toNat xs.length))) M) k;rw[if_neg `a]
 have:cut xs 0 (min (a:Int).toNat xs.length)=xs.take a:=by
  unfold cut;rw[show min (a:Int).toNat xs.length-0=a by simp;omega,List.drop_zero]
 rw[this];exact hk
def CD {xs:List D}{a:Nat}{M:Mem}{k:D->Mem->Prop}(h:a<xs.length)(hk:k (.tup (xs.drop (a+1))) M):ae (cM false (.tup xs) (.int ((a:Int)+1)) .non M) k:=by
 show ae (Res.ok (D.tup (cut xs (if (a:Int)+1<0 then _ else min ((a:Int)+1).toNat xs.length) xs.length)) M) k;rw[if_neg `a]
 have:cut xs (min ((a:Int)+1).toNat xs.length) xs.length=xs.drop (a+1):=by
  unfold cut;rw[show min ((a:Int)+1).toNat xs.length=a+1 by omega,Rw `s]
 rw[this];exact hk
def Th.tup_of {k L:Nat}{xs:List D}(hl:xs.length<=L)(h:∀d∈xs,Th k L d):Th (k+1) L (.tup xs):=⟨hl,h⟩
def Th.lst_of {k L:Nat}{xs:List D}(hl:xs.length<=L)(h:∀d∈xs,Th k L d):Th (k+1) L (.lst xs):=⟨hl,h⟩
def pw (c:Call):GS:=#v[aL (gU (ao (bD .str (aa 1))) (ao (az .lt (aa 3) (gI 3)))) #v[aD (ai 66 c #[aa 0,aa 1])] aB,aD (av (aa 7) (aa 4))]
section
variable{Z:Env}{M M1 M2:Mem}{a b:GE}{s:GA}{xs ys:List D}{x y:D}
def DY (h:a Z M=.ok x M1)(es:s Z M1=.ok xs M2):ix a s Z M=.ok (x::xs) M2:=by
 unfold ix;rw[h];show(s Z M1).bind _=_;rw[es];rfl
def Gm (e:s Z M=.ok xs M1)(hl:xs.length<=100):bc s Z M=.ok (.tup xs) M1:=by
 unfold bc;rw[e];exact if_pos (au `a)
def xE (h:a Z M=.ok (.tup xs) M1)(j:b Z M1=.ok (.tup ys) M2)(hl:(xs++ys).length<=100):ak false .add a b Z M=.ok (.tup (xs++ys)) M2:=by
 unfold ak;rw[h];show(b Z M1).bind _=_;rw[j];exact if_pos (au `a)
def Jo {v i j:Nat}(h1:Z[i]?.getD none=some (.tup xs))(h2:Z[j]?.getD none=some (nD v))(h:v<xs.length):bG false false true (aa i) gN (aa j) Z M=.ok (.tup (xs.take v)) M:=by
 refine aR ?_;rw[jc,ag h1,aZ,cW,ag h2,aZ];exact{rfl,rfl,Jj h ⟨rfl,rfl⟩}
def CG {v i j:Nat}(h1:Z[i]?.getD none=some (.tup xs))(h2:Z[j]?.getD none=some (nD v))(h:v<xs.length):bG false true false (aa i) (ak false .add (aa j) (gI 1)) gN Z M=.ok (.tup (xs.drop (v+1))) M:=by
 refine aR ?_;rw[jc,ag h1,aZ,cx,ag h2,aZ,cW];exact iG.mpr {rfl,rfl,CD h ⟨rfl,rfl⟩}
end
section
variable{P:Nat->Option Df}(hp_:HasP P)(ht_:HasT P)(hw_:ki P){M:Mem}
include hp_ ht_ hw_
theorem BJ (n:Nat){k L p B kind h:Nat}{d:D}{x2 x5 x6 x8:Option D}(hd:Th k L d)(hk:k<=50)(O:6<=L)(Q:L<=50)(H:aF M p B)(I:B<=800000)(F:h<20) :
 ae (pw (ah P (n+5)) [some (.cell p),some d,x2,some (nD kind),some (nD h),x5,x6,some (.lst fu),x8] M) (fL λE M'=>Th (k+1) (L+1) E/\aF M' p (B+3)/\aU p M M'):=by
 have u:ae (#v[aD (av (aa 7) (aa 4))] [some (.cell p),some d,x2,some (nD kind),some (nD h),x5,x6,some (.lst fu),x8] M) (fL λE M'=>Th (k+1) (L+1) E/\aF M' p (B+3)/\aU p M M'):=by
  have hl:h<fu.length:=F;exact bp (v:=fu[h]) (aj (by simp[-HE,nJ hl])) {(AH (Q4 hl)).mono `a `a,H.mono `a,.refl}
 unfold pw;cases d with
 |fn j=>exact absurd hd (by cases k<;>exact id)
 |exc y p=>exact absurd hd (by cases k<;>exact id)
 | str z=>
   have J:gQ L z:=by cases k<;>exact hd
   by_cases c:(kind:Int)<3
   ·simp only[ay,hU,ED,eV,Bm,aK,dw,cW,Q5,Q6,Ri,Rp,exists_eq_left',cu,iz,aS,bf];refine{true,rfl,true,rfl,?_};rw[if_pos rfl];refine{_,rfl,_,rfl,?_};rw[decide_eq_true c,if_pos rfl];exact aA (zT hp_ ht_ n J `a H I) (by rintro E M' ⟨R,e,h1,h2,h3⟩;exact{by rw[e];exact h1.th.mono (Qo _) (Qo _),h2,h3})
   ·refine ax (aR ?_) u;simp[bY];omega
 |_=>exact ax rfl u
omit hp_ ht_ hw_ in
theorem sj {k:Fl->Mem->Prop}{rest:GS}{M:Mem}{x0 x1 x2 x3 x4 x5 x6 x7 x8:Option D}(hk:ae (rest [x0,x1,x2,x3,x4,x5,x6,some (.lst fu),x8] M) k) :
 ae (aC (aw (.one 7) (aG false #[gN,sD,sE,gS "",gS "turn",gS "join",gS "move",gS "put",gS "Turn",bc b9,aG false b9,ak false .pow (gI 10) (gI 20),dZ (gI 1),gI 0])) (aC (aw (.one 7) (ak false .add (aa 7) (aG false #[gI 1,gI 4,bc #[gI 0],aG false #[gI 0],gS "0",gI 7]))) rest) [x0,x1,x2,x3,x4,x5,x6,x7,x8] M) k:=by
 simp only[ay,gD];have e:((aG false #[gN,sD,sE,gS "",gS "turn",gS "join",gS "move",gS "put",gS "Turn",bc b9,aG false b9,ak false .pow (gI 10) (gI 20),dZ (gI 1),gI 0]):GE) [x0,x1,x2,x3,x4,x5,x6,x7,x8] M=.ok (.lst (fu.take 14)) M:=`r
 rw[e];show ae (aC _ rest [x0,x1,x2,x3,x4,x5,x6,some (.lst (fu.take 14)),x8] M) k;simp only[ay,gD];have e2:((ak false .add (aa 7) (aG false #[gI 1,gI 4,bc #[gI 0],aG false #[gI 0],gS "0",gI 7])):GE) [x0,x1,x2,x3,x4,x5,x6,some (.lst (fu.take 14)),x8] M=.ok (.lst fu) M:=`r
 rw[e2];exact hk
def jU (c:Call):GS:=aC (aL (ao (bD .tuple (aa 1))) #v[aw (.one 8) (aG false #[aH (.list false) #[aa 1],ak false .add (aa 1) (bG false false true (aa 1) gN (gI 1)),bG false false true (aa 1) gN (dZ (gI 1)),kS false (aa 1),ak false .add (aa 1) (bc #[aa 5]),bG false true false (aa 1) (gI 1) gN,bc #[aa 1]]),aD (av (ak false .add (aa 8) (aG false #[av (aa 7) (aa 4)])) (aa 3))] aB) (aC (aL (ao (ai 67 c #[aa 1])) #v[aD (av (aG false #[ak false .add (aa 1) (gI 1),ak false .sub (aa 1) (gI 1),ak false .sub (gI 0) (aa 1),aa 5,aa 5,az .eq (aa 1) (gI 1),ak false .sub (gI 3) (aa 1),av (aa 7) (aa 4)]) (aa 3))] aB) (pw c))
theorem D9 (n:Nat){k L p B kind u:Nat}{num:Int}{d:D}{x2 x6 x8:Option D}(hd:Th k L d)(hk:k<=50)(X:6<=L)(hL:L<=50)(S:aF M p B)(Y:B<=800000)(hkd:kind<8)(F:u<20) :
 ae (jU (ah P (n+5)) [some (.cell p),some d,x2,some (nD kind),some (nD u),some (.int num),x6,some (.lst fu),x8] M) (fL λW M'=>Th (k+1) (L+1) W/\aF M' p (B+3)/\aU p M M'):=by
 have hl:u<fu.length:=F;have ho:Th (k+1) (L+1) fu[u]:=(AH (Q4 hl)).mono `a `a
 have E:∀{xs:List D},xs.length=8->(∀x∈xs,Th (k+1) (L+1) x)->∃x,bP (.lst xs) (nD kind) M=some x/\Th (k+1) (L+1) x:=λ{xs} h8 h=>{_,nJ `a,h _ (Q4 _)}
 unfold jU;have O:=BJ hp_ ht_ hw_ n (x2:=x2) (x5:=some (.int num)) (x6:=x6) (x8:=x8) (kind:=kind) hd hk X hL S Y F;cases d with
 |fn j=>exact absurd hd (by cases k<;>exact id)
 |exc y p=>exact absurd hd (by cases k<;>exact id)
 | tup xs=>
   refine dR (aR (by simp[bY])) ?_
   simp only[ay,gD,cu,iy,aS,bf,aK,cK,cx,jc,gu,Fz,Np,cW,jI,Q5,Q6,Ri,Rp,exists_eq_left',List.set_cons_zero,List.set_cons_succ];have H:=hd.tup;have hxl:=H.1;have J:∀d∈xs,Th k (L+1) d:=λd hd=>(H.2 d hd).mono (Qo _) `a
   have Q:∀{ys:List D},ys.length<=L+1->(∀d∈ys,d∈xs\/Th k (L+1) d)->Th (k+1) (L+1) (.tup ys):=λ{ys} hl h=>.tup_of hl λd hd=>by
    rcases h d hd with z|z
    ·exact J d z
    ·exact z
   refine vb.mpr (a9.mpr {au `a,rfl,rfl,Mw λys y1 y2=>?_})
   refine qC.mpr {au `o,1,rfl,rfl,rfl,wC (hl:=false) (hh:=true) rfl rfl λi2 j2=>GU.mpr {au `s,qC.mpr {au `o,rfl,rfl,wC (hl:=true) (hh:=false) rfl rfl λi3 j3=>{au `s,a9.mpr {au `s,?_}}}}}
   obtain⟨x,e1,e2⟩:=E (xs:=[.lst xs,.tup (xs++ys),.tup (cut xs i2 j2),.tup xs.reverse,.tup (xs++[.int num]),.tup (cut xs i3 j3),.tup [.tup xs]]++[fu[u]]) rfl (λx I=>by
    simp only[List.cons_append,R1,Qu,QL,or_false] at I;rcases I with rfl|rfl|rfl|rfl|rfl|rfl|rfl|rfl
    ·exact .lst_of `a J
    ·exact Q `o λd hd=>(QM.mp hd).elim .inl λz=>.inl (y2 d z)
    ·exact Q (Qs jT.1 `a) λd hd=>.inl (jT.2.2 d hd)
    ·exact Q `o λd hd=>.inl (List.mem_reverse.mp hd)
    ·exact Q `o λd hd=>by
      rcases QM.mp hd with z|z
      ·exact .inl z
      ·rw[Qz.mp z];exact .inr (by cases k<;>trivial)
    ·exact Q (Qs jT.1 `a) λd hd=>.inl (jT.2.2 d hd)
    ·exact .tup_of `s λd R=>by rw[Qz.mp R];exact hd.mono (Qo _) `a
    ·exact ho)
   refine bp (v:=x) (aj ?_) {e2,S.mono `a,.refl}
   simp only[jI,cx,aK,iy,aS,bf];exact{_,rfl,_,rfl,_,rfl,_,nJ hl,a9.mpr {au `s,ju.mpr (a9.mpr {au `s,_,rfl,x,e1,rfl,rfl})}}
 | int i=>
   have U:=kn hw_ (n+4) (M:=M) hd;refine ax (aR (by simp[bY])) (dR (aR (by simp[U,pH])) ?_)
   simp only[ay,cu,iy,aS,bf,aK,cx,cW,jI,dw,Q5,Q6,Ri,Rp,exists_eq_left',iG,mx];refine{_,rfl,_,nJ hl,a9.mpr {au `s,?_}}
   obtain⟨x,e1,e2⟩:=E (xs:=[.int (i+1),.int (i-1),.int (0-i),.int num,.int num,.bl (i==1),.int (3-i),fu[u]]) rfl (λx H=>by
    simp only[Qu,QL,or_false] at H;rcases H with rfl|rfl|rfl|rfl|rfl|rfl|rfl|rfl
    all_goals first|exact ho|trivial)
   exact{x,e1,e2,S.mono `a,.refl}
 | _=>
   have U:=kn hw_ (n+4) (M:=M) hd;exact ax (aR (by simp[bY])) (ax (aR (by simp[U,pH])) O)
omit hp_ ht_ hw_ in
theorem C9 {k L:Nat}{xs:List D}(h:Th k L (.tup xs))(hk:k<=60):br .ne (.tup xs) (.tup []) M=some (!xs.isEmpty):=by
 refine hJ (h.mono (n':=64) `a (Qo L)).pure rfl ?_
 cases xs<;>rfl
set_option tactic.hygienic true in
theorem sV (n h:Nat){k L p B:Nat}{d:D}(hd:Th k L d)(hk:k<=50)(h6:6<=L)(hL:L<=50)(hp:aF M p B)(hB:B<=700000)
 (ih:0<h->∀{k' O:Nat}{F:D}{M':Mem},Th k' L F->k'<=50->aF M' p O->O<=B+4->ae (ah P (n+h+5) 72 [.cell p,F,.int ((h:Int)-1)] M') λe H=>Th (k'+1) (L+1) e/\aF H p (O+6*h)/\aU p M' H) :
 ae (ah P (n+h+6) 72 [.cell p,d,nD h] M) λF M'=>Th (k+1) (L+1) F/\aF M' p (B+6*(h+1))/\aU p M M':=by
 refine aq ht_.bent rfl ?_;show ae (aC _ (aC _ (aC _ (aC (aL _ _ aB) (aC _ (aC _ (jU (ah P (n+h+5)))))))) [some (.cell p),some d,some (nD h),none,none,none,none,none,none] M) _;refine ez hp_.toHasP0 (n+h+3) (many:=8) rfl rfl hp `a `d `d λkind M1 R q1 k1=>?_
 refine ez hp_.toHasP0 (n+h+3) (many:=20) rfl rfl q1 `a `d `d λJ M2 S q2 k2=>?_
 refine bq (k:=λx M'=>∃v:Nat,x=.int ((v:Int)-2)/\aF M' p (B+1+1+1)/\aU p M2 M') ?_ ?_
 ·rw[cx];refine aA (dB hp_.toHasP0 (n+h+3) (many:=9) rfl rfl q2 `a `d `d) ?_
  rintro _ M' ⟨v,rfl,_,q,k⟩;exact⟨v,rfl,q,k⟩
 rintro _ U ⟨num,rfl,W,k3⟩;have Q:=(k1.trans k2).trans k3;have I:ae (aC _ (aC _ (jU (ah P (n+h+5)))) [some (.cell p),some d,some (nD h),some (nD kind),some (nD J),some (.int ((num:Int)-2)),none,none,none] U) (fL λF M'=>Th (k+1) (L+1) F/\aF M' p (B+6*(h+1))/\aU p M M'):=
  sj (aA (D9 hp_ ht_ hw_ (n+h) hd hk h6 hL W `a R S) λfl M' hf=>by
   cases fl with
   |next Z=>exact{hf.1,hf.2.1.mono `a,Q.trans hf.2.2}
   |ret e=>exact{hf.1,hf.2.1.mono `a,Q.trans hf.2.2}
   |exc x Z=>exact hf.elim)
 cases d with
 |fn j=>exact absurd hd (by cases k<;>exact id)
 |exc y p=>exact absurd hd (by cases k<;>exact id)
 | tup xs=>
   have ne:=C9 (M:=U) hd `a
   refine bM (n6 (x:=true) (a8 rfl) (n6 (a8 (i4 rfl rfl ne)) (n6 (Fx (c:=0) rfl) (Fx (c:=4) rfl)))) (λz=>?_) λ_=>I;rw[Bool.true_and,Qh,Qh] at z;have Y:xs≠[]:=by
    rintro rfl;exact nomatch z.1
   have c2:0<h:=Int.ofNat_lt.mp (of_decide_eq_true z.2.1);have lx:0<xs.length:=List.length_pos_iff.mpr Y;have hxl:=hd.tup.1;cases k with
   |zero=>exact hd.elim
   | succ k'=>
     have E:∀d∈xs,Th k' L d:=hd.2;refine ez hp_.toHasP0 (n+h+3) (many:=xs.length) rfl (jG rfl) W `a lx `a λat_ X u q4 k4=>?_
     obtain⟨e,M5,ee,he,q5,k5⟩:=ic.mp (ih c2 (E _ (Q4 u)) `a q4 `a)
     refine ft ?_;have l1:(xs.take at_).length+1<=L+1:=by rw[Rj];omega
     have l2:(xs.take at_++[e]).length+(xs.drop (at_+1)).length<=L+1:=by rw[QJ,Rj,R8,List.length_singleton];omega
     have ei:bP (.tup xs) (nD at_) X=some xs[at_]:=by
      show(bC xs.length (at_:Int)).bind (λj=>xs[j]?)=_;rw[dI u];exact QA u
     rw[xE (xE (Jo rfl rfl u) (Gm (DY ((aQ (af rfl (af (bA rfl rfl ei) (af rfl rfl)))).trans ee) rfl) (Qx rfl)) (by rw[QJ];exact Qs l1 `a)) (CG (v:=at_) rfl rfl u) (by rw[QJ];exact Qs l2 `a),aZ]
     show Th _ _ _/\_/\_;refine{.tup_of (by rw[QJ];exact l2) λd hd=>?_,q5.mono `a,(Q.trans k4).trans k5}
     rcases QM.mp hd with z|z
     ·rcases QM.mp z with z|z
      ·exact(E d (Q9 z)).mono `a `a
      ·rw[Qz.mp z];exact he
     ·exact(E d (RT z)).mono `a `a
 |_=>exact ax rfl I
theorem wA:∀(h n:Nat) {k L p B:Nat}{d:D}{M:Mem},h<=9->Th k L d->k<=50->6<=L->L<=50->aF M p B->B+10*h<=700000->
 ae (ah P (n+h+6) 72 [.cell p,d,nD h] M) λE M'=>Th (k+1) (L+1) E/\aF M' p (B+6*(h+1))/\aU p M M'
 |0,n,k,L,p,B,d,M,F,hd,hk,j,u,v,H=>sV hp_ ht_ hw_ n 0 hd hk j u v `a (λz=>absurd z `d)
 |h+1,n,k,L,p,B,d,M,F,hd,hk,j,u,v,H=>sV hp_ ht_ hw_ n (h+1) hd hk j u v `a (λ_ {J I E M'} h1 h2 h3 h4=>by
  rw[show(((h+1:Nat):Int)-1)=(h:Int) by omega]
  exact wA h n `a h1 h2 j u h3 `a)
end
section
variable{P:Nat->Option Df}{M:Mem}{k L:Nat}{d:D}
def lR (h:ze P)(h13:P 13=some {1,1,dE})(n:Nat)(hd:Th k L d)(j:L<=100)(u:ik d=true):ah P (n+8) 13 [d] M=.ok .non M:=by
 refine aj (aq h13 rfl ?_);simp[dE,uv h n hd j,u]
def AL (h:ze P)(h13:P 13=some {1,1,dE})(n:Nat)(hd:Th k L d)(j:L<=100)(u:ik d=false):ah P (n+8) 13 [d] M=.err (.exc 3 none) M:=by
 refine fo (eP h13 rfl ?_);simp[dE,uv h n hd j,u];decide
end
section
variable{P:Nat->Option Df}(h:jh P){M:Mem}
include h
theorem ko (n:Nat){z:Str}(hz:aE 64 (.str z)=true):ah P (n+1) 40 [.str z,.str z] M=.ok (.bl true) M:=by
 refine aj (aq h.same rfl ?_);have e:br .eq (.str z) (.str z) M=some true:=nV hz hz (by show(z==z)=true;exact beq_self_eq_true z)
 show ae (cw (ah P n) [some (.str z),some (.str z)] M) _;unfold cw;refine ax rfl (ax rfl (ax rfl (bt rfl ?_ ⟨rfl,rfl⟩)));show((b8 M (br .eq (.str z) (.str z) M)).bind λb M=>Res.ok (D.bl b) M)=_;rw[e];rfl
end
noncomputable def jz (i:Int):List D:=[.exc 0 (some i),.exc 1 (some i),.exc 2 (some i),.exc 3 none,.exc 4 none,.exc 5 none,.exc 6 none,.exc 7 none,.exc 8 none,.exc 9 none,.exc 10 none,.exc 11 none,.exc 12 none,.exc 13 none]
noncomputable def lP:D->D
 |.exc 0 (some i)=>.lst [.str "row",.int i]
 |.exc 1 (some i)=>.lst [.str "rule",.int i]
 |.exc 2 (some i)=>.lst [.str "step",.int i]
 |.exc 3 _=>.lst [.str "machine"]
 |.exc 4 _=>.lst [.str "long"]
 |.exc 5 _=>.lst [.str "word"]
 |.exc 6 _=>.lst [.str "work"]
 |.exc 7 _=>.lst [.str "bound"]
 |.exc 8 _=>.lst [.str "many"]
 |.exc 9 _=>.lst [.str "place"]
 |.exc 10 _=>.lst [.str "deed"]
 |.exc 11 _=>.lst [.str "nothing"]
 |.exc 12 _=>.lst [.str "text"]
 |.exc 13 _=>.lst [.str "line"]
 |_=>.non
def rG {f:Str}{c j:Nat}{i:Int}{Z:Env}{M:Mem}(h:Z[j]?.getD none=some (.exc c (some i)))(e:fU c=f):j9 f (aa j) Z M=.ok (.int i) M:=by
 unfold j9 aa;rw[h];show(if fU c=f then Res.ok (D.int i) M else .bad)=_;rw[if_pos e]
def yw {x:D}{a:GE}{Z:Env}{M:Mem}{y:D}(e:a Z M=.ok y M):aG false #[gC x,a] Z M=.ok (.lst [x,y]) M:=by
 exact eB (af rfl (af e rfl)) (Qx rfl)
section
variable{P:Nat->Option Df}(h75:P 75=some {1,3,dF}){M:Mem}
include h75
theorem xR (n:Nat){i:Int}{d:D}(hd:d∈jz i):ah P (n+1) 75 [d] M=.ok (lP d) M:=by
 refine aj (aq h75 rfl ?_);show ae (dF (ah P n) [some d,none,none] M) _;simp only[jz,Qu,QL,or_false] at hd;rcases hd with rfl|rfl|rfl|rfl|rfl|rfl|rfl|rfl|rfl|rfl|rfl|rfl|rfl|rfl
 ·exact aV rfl (aV rfl (aV rfl (aV rfl (aV rfl (ax rfl (bt rfl (yw (rG rfl rfl)) ⟨rfl,rfl⟩))))))
 ·exact aV rfl (aV rfl (aV rfl (aV rfl (aV rfl (ax rfl (ax rfl (bt rfl (yw (rG rfl rfl)) ⟨rfl,rfl⟩)))))))
 ·exact aV rfl (aV rfl (aV rfl (aV rfl (aV rfl (ax rfl (ax rfl (ax rfl (bt rfl (yw (rG rfl rfl)) ⟨rfl,rfl⟩))))))))
 all_goals exact cQ `r
end
section
variable{P:Nat->Option Df}(h:jh P){M:Mem}
include h
theorem pN (n:Nat){ds:List D}(hz:ds.length<=sz)(hs:∀d∈ds,ah P n 40 [d,d] M=.ok (.bl true) M):ah P (n+1) 40 [.lst ds,.lst ds] M=.ok (.bl true) M:=by
 refine aj (aq h.same rfl ?_);show ae (cw (ah P n) [some (.lst ds),some (.lst ds)] M) _;unfold cw;exact ax rfl (ax rfl (ax rfl (ax rfl (ax rfl (uF h n rfl rfl rfl rfl rfl rfl hz hs)))))
theorem rY (n:Nat)(i:Int):ah P (n+1) 40 [.int i,.int i] M=.ok (.bl true) M:=by
 refine aj (aq h.same rfl ?_);show ae (cw (ah P n) [some (.int i),some (.int i)] M) _;unfold cw;exact ax rfl (ax rfl (bt rfl (v:=.bl (i==i)) rfl {`s,rfl}))
end
@[simp] theorem ku {Z:Env}{M:Mem}{a:GE}{j:Fl->Mem->Prop}{c:Nat}:ae (gj c a Z M) j↔ae (a Z M) λx M=>∃i,x=.int i/\i.natAbs<2^64/\j (.exc (.exc c (some i)) Z) M:=by
 unfold gj;cases a Z M with
 | ok x u=>
   cases x with
   |int i=>by_cases h:i.natAbs<2^64<;>simp[h]
   |_=>simp
 |err=>exact Rl
 |bad=>exact Rl
abbrev lu (m:ba):D->Bool:=aW 0 ((m.deeds.length:Int)-1)
section
variable{P:Nat->Option Df}(h:HasM0 P){M:Mem}{k L:Nat}{d:D}
include h
theorem ux (n:Nat){m:ba}(hd:Th k L d):ah P (n+2) 16 [m.d,d] M=.ok (.bl (lu m d)) M:=by
 refine aj (aq h.is_deed_number rfl ?_);simp[fB,ba.d,bC,jN h.q _ hd]
theorem Hk (n:Nat){m:ba}{ds:List D}(hd:∀d∈ds,Th k L d)(v:∀d∈ds,lu m d=true):ah P (n+3) 17 [m.d,.lst ds] M=.ok .non M:=by
 refine aj (aq h.need_numbers rfl ?_);show ae (cz (ah P (n+2)) [some m.d,some (.lst ds),none,none] M) _;unfold cz;refine ax rfl ?_;simp only[ay,cP,fE,aK];refine{_,rfl,rfl,?_};refine cV (λi u j=>j=M/\∃a b,u=[some m.d,some (.lst ds),a,b]) (λ_ _ _ e=>rfl) ⟨rfl,none,none,rfl⟩ ?_ ?_
 ·rintro i e u j he ⟨rfl,a,b,rfl⟩;rw[cj] at he;obtain⟨x,y,rfl⟩:=Qr.mp he;have hm:=QG y;refine{_,rfl,ax (aR ?_) {_,rfl,rfl,_,_,rfl}};simp[ux h n (hd x hm),v x hm]
 ·rintro u j ⟨rfl,a,b,rfl⟩;exact⟨rfl,rfl⟩
theorem C6 (n:Nat){m:ba}{ds:List D}{i:Nat}{x:D}(hd:∀d∈ds,Th k L d)(E:ds[i]?=some x)(F:lu m x=false)(H:∀j y,j<i->ds[j]?=some y->lu m y=true)(hi:i<1000000):ah P (n+3) 17 [m.d,.lst ds] M=.err (.exc 0 (some (i:Int))) M:=by
 refine fo (eP h.need_numbers rfl ?_);show ae (cz (ah P (n+2)) [some m.d,some (.lst ds),none,none] M) _;unfold cz;refine ax rfl ?_;simp only[ay,cP,fE,aK];refine{_,rfl,rfl,?_};refine eM (λj fl v=>v=M/\((j<=i/\∃a b,fl=.next [some m.d,some (.lst ds),a,b])\/(i<j/\∃B,fl=.exc (.exc 0 (some (i:Int))) B))) (λ_ _ _ e=>rfl) {rfl,.inl {RN _,none,none,rfl}} ?_ ?_
 ·rintro j e fl v he ⟨rfl,u⟩;rw[cj] at he;obtain⟨y,z,rfl⟩:=Qr.mp he;rcases u with⟨u,a,b,rfl⟩|⟨u,B,rfl⟩
  ·show ae (#v[_] [some m.d,some (.lst ds),some (.int ((0+j:Nat):Int)),some y] v) _;rw[RS];have e:=ux h n (m:=m) (M:=v) (hd y (QG z));by_cases c:j=i
   ·subst c;rw[E] at z;cases z;rw[F] at e;refine dR (aR (by simp[e])) ?_
    simp only[ay,ku,aK];exact{_,rfl,_,rfl,`a,rfl,.inr {Nat.lt_succ_self _,_,rfl}}
   ·rw[H j y `a z] at e
    exact ax (aR (by simp[e])) {rfl,.inl {`a,_,_,rfl}}
  ·exact{rfl,.inr {`a,_,rfl}}
 ·rintro fl v ⟨rfl,u⟩;have I:=(Qg.mp E).1;have:(dH 0 ds).length=ds.length:=dm ds 0;rcases u with⟨u,_⟩|⟨_,B,rfl⟩
  ·omega
  ·exact⟨rfl,rfl⟩
theorem C5 (n:Nat){m:ba}(hd:bY .list d=some false):ah P (n+3) 17 [m.d,d] M=.err (.exc 0 (some 0)) M:=by
 refine fo (eP h.need_numbers rfl ?_);show ae (cz (ah P (n+2)) [some m.d,some d,none,none] M) _;unfold cz;refine dR (aR (by simp[hd])) ?_
 simp only[ay,ku,cW];exact{0,rfl,`d,rfl,rfl}
theorem CM (n:Nat){r:D}(hd:Th k L d)(j:L<=100)(u:ik d=false):ah P (n+9) 18 [d,r] M=.err (.exc 3 none) M:=by
 refine fo (eP h.need_row rfl ?_);show ae (d3 (ah P (n+8)) [some d,some r] M) _;unfold d3;simp only[ay,fG,dJ,aS,bf,aK];refine{_,rfl,?_};rw[AL h.q h.need_machine n hd j u];exact⟨rfl,rfl⟩
theorem uH (n:Nat){m:ba}{r:D}{x:D}(hm:bh m)(e:ah P (n+8) 17 [m.d,r] M=.err x M):ah P (n+9) 18 [m.d,r] M=.err x M:=by
 refine fo (eP h.need_row rfl ?_);show ae (d3 (ah P (n+8)) [some m.d,some r] M) _;unfold d3;simp only[ay,fG,dJ,aS,bf,aK];refine{_,rfl,?_};rw[lR h.q h.need_machine n (iW hm) `d (jm hm)]
 show ae (aC _ _ [some m.d,some r] M) _;simp only[ay,fG,dJ,aS,bf,aK];refine{_,rfl,_,rfl,?_};rw[e];exact⟨rfl,rfl⟩
theorem CN (n:Nat){m:ba}{ds:List D}(hm:bh m)(e:ah P (n+8) 17 [m.d,.lst ds] M=.ok .non M)(hl:40<ds.length):ah P (n+9) 18 [m.d,.lst ds] M=.err (.exc 4 none) M:=by
 refine fo (eP h.need_row rfl ?_);show ae (d3 (ah P (n+8)) [some m.d,some (.lst ds)] M) _;unfold d3;simp only[ay,fG,dJ,aS,bf,aK];refine{_,rfl,?_};rw[lR h.q h.need_machine n (iW hm) `d (jm hm)]
 show ae (aC _ _ [some m.d,some (.lst ds)] M) _;simp only[ay,fG,dJ,aS,bf,aK];refine{_,rfl,_,rfl,?_};rw[e];refine dR (aR ?_) ?_
 ·simp only[eV,dw,cK,aS,bf,aK,cW];refine{_,rfl,_,rfl,_,rfl,?_,rfl};exact decide_eq_true `a
 ·exact⟨rfl,rfl⟩
end
section
variable{Z:Env}{M:Mem}{kf:Fl->Mem->Prop}{rest gb:GS}{a:GE}{s:GA}
def Gp {b:GE}{x y:D}(e1:a Z M=.ok x M)(e2:b Z M=.ok y M):bc #[a,b] Z M=.ok (.tup [x,y]) M:=by
 unfold bc;rw[af e1 (af e2 rfl)];exact(if_pos (au `d):(if 2<=sz then Res.ok (D.tup [x,y]) M else .bad)=_)
def Mj {j l:Nat}{xs:List D}{v:Nat}(h1:Z[j]?.getD none=some (.lst xs))(h2:Z[l]?.getD none=some (nD v))(hz:xs.length<=100):bG false false true (aa j) gN (aa l) Z M=.ok (.lst (xs.take v)) M:=by
 refine aj ?_;simp only[jc,aK,cW];exact{_,h1,_,h2,rfl,rfl,qK.mpr {au `o,rfl,rfl}}
def HF {j l:Nat}{xs:List D}{v:Nat}(h1:Z[j]?.getD none=some (.lst xs))(h2:Z[l]?.getD none=some (nD v))(hz:xs.length<=100):bG false true false (aa j) (aa l) gN Z M=.ok (.lst (xs.drop v)) M:=by
 refine aj ?_;simp only[jc,aK,cW];exact{_,h1,_,h2,rfl,rfl,uB.mpr {au `o,rfl,rfl}}
end
def C7 {m:ba}{i:Nat}(hi:i<m.deeds.length):lu m (nD i)=true:=by
 show(decide ((0:Int)<=(i:Int))&&decide ((i:Int)<=(m.deeds.length:Int)-1))=true;rw[decide_eq_true `a,decide_eq_true `a];rfl
structure Good (b:Nat) (x:D):Prop where
 sh:(toPy x).showable=true
 short:PyData.leavesShort 40 (toPy x)=true
 bulk:(toPy x).bulk<=b
def yH (b:Nat)(x:D):Bool:=(toPy x).showable&&(PyData.leavesShort 40 (toPy x)&&decide ((toPy x).bulk<=b))
def Dw {b:Nat}{x:D}(h:yH b x=true):Good b x:=by
 unfold yH at h;rw[Qh,Qh] at h;exact{h.1,h.2.1,of_decide_eq_true h.2.2}
theorem pf {b:Nat}:∀{ds:List D},(∀d∈ds,Good b d)->PyData.showableAll (bK ds)=true/\PyData.leavesShortAll 40 (bK ds)=true/\PyData.bulkAll (bK ds)<=(b+1)*ds.length
 |[],_=>{rfl,rfl,RN _}
 | d::r,h=>by
   obtain⟨a2,a3,a4⟩:=pf λx v=>h x (Qm _ v);obtain⟨j,u,y⟩:=h d Qv;refine{?_,?_,?_}
   ·show PyData.showableAll (toPy d::bK r)=true;rw[PyData.showableAll,j,a2];rfl
   ·show PyData.leavesShortAll 40 (toPy d::bK r)=true;rw[PyData.leavesShortAll,u,a3];rfl
   ·show PyData.bulkAll (toPy d::bK r)<=_;rw[PyData.bulkAll,List.length_cons,Nat.mul_succ];omega
def Good.lst {b:Nat}{ds:List D}(h:∀d∈ds,Good b d):Good ((b+1)*ds.length) (.lst ds):=by
 obtain⟨a2,a3,a4⟩:=pf h;refine{?_,?_,?_}
 ·show PyData.showable (.list (bK ds))=true;rw[PyData.showable];exact a2
 ·show PyData.leavesShort 40 (.list (bK ds))=true;rw[PyData.leavesShort];exact a3
 ·show PyData.bulk (.list (bK ds))<=_;rw[PyData.bulk];exact a4
def Good.tup {b:Nat}{ds:List D}(h:∀d∈ds,Good b d):Good ((b+1)*ds.length) (.tup ds):=by
 obtain⟨a2,a3,a4⟩:=pf h;refine{?_,?_,?_}
 ·show PyData.showable (.tuple (bK ds))=true;rw[PyData.showable];exact a2
 ·show PyData.leavesShort 40 (.tuple (bK ds))=true;rw[PyData.leavesShort];exact a3
 ·show PyData.bulk (.tuple (bK ds))<=_;rw[PyData.bulk];exact a4
def Good.mono {b j:Nat}{x:D}(h:Good b x)(u:b<=j):Good j x:={h.sh,h.short,Qs h.bulk u}
noncomputable def eO (m:ba):D->D
 | .lst j=>match j.findIdx? λd=>!lu m d with
   |some i=>.exc 0 (some (i:Int))
   |none=>if 40<j.length then .exc 4 none else .non
 |_=>.exc 0 (some 0)
theorem uZ {m:ba}:∀{ds:List D},(∀d∈ds,lu m d=true)->∃r:List Nat,ds=r.map nD/\∀i∈r,i<m.deeds.length
 |[],_=>{[],rfl,λ_ h=>nomatch h}
 | d::ds,h=>by
   obtain⟨r,rfl,hr⟩:=uZ λx v=>h x (Qm _ v);have hd:=h d Qv;cases d with
   | int i=>
     have hd:(decide ((0:Int)<=i)&&decide (i<=(m.deeds.length:Int)-1))=true:=hd;rw[Qh,decide_eq_true_eq,decide_eq_true_eq] at hd;refine{i.toNat::r,?_,λj u=>?_}
     ·show _=nD i.toNat::r.map nD;rw[show nD i.toNat=D.int i by show D.int (i.toNat:Int)=_;rw[RL hd.1]]
     ·rcases Qu.mp u with rfl|u
      ·omega
      ·exact hr j u
   |_=>cases hd
inductive cg (m:ba):D->D->Prop
 |ok (r:List Nat) (h:bZ m r):cg m (aP r) .non
 |long (ds:List D) (h:∀d∈ds,lu m d=true) (hl:40<ds.length):cg m (.lst ds) (.exc 4 none)
 |bad (ds:List D) (i:Nat) (x:D) (hx:ds[i]?=some x) (hb:lu m x=false) (hg:∀j y,j<i->ds[j]?=some y->lu m y=true):cg m (.lst ds) (.exc 0 (some (i:Int)))
 |not (x:D) (h:bY .list x=some false):cg m x (.exc 0 (some 0))
def iS {m:ba}{k L:Nat}{x:D}(v:Th k L x):cg m x (eO m x):=by
 cases x with
 | lst u=>
   show cg m _ (match u.findIdx? λd=>!lu m d with|some i=>D.exc 0 (some (i:Int))|none=>if 40<u.length then .exc 4 none else .non)
   cases e:u.findIdx? λd=>!lu m d with
   | some i=>
     obtain⟨z,h1,h2⟩:=List.findIdx?_eq_some_iff_getElem.mp e;refine .bad u i u[i] (QA z) (by simpa using h1) λj y B F=>?_
     obtain⟨E,rfl⟩:=Qg.mp F;simpa using h2 j B
   | none=>
     have h1:=List.findIdx?_eq_none_iff.mp e;have h2:=λd hd=>by simpa using h1 d hd
     show cg m _ (if 40<u.length then D.exc 4 none else .non);by_cases c:40<u.length
     ·rw[if_pos c];exact .long u h2 c
     ·rw[if_neg c];obtain⟨r,rfl,hr⟩:=uZ h2;exact .ok r {by simpa using c,hr}
 |frz u=>cases k<;>exact v.elim
 |cell j=>cases k<;>exact v.elim
 |fn j=>cases k<;>exact v.elim
 |exc y p=>cases k<;>exact v.elim
 |_=>exact .not _ rfl
noncomputable def isOk:D->Bool
 |.non=>true
 |_=>false
section
variable{P:Nat->Option Df}(h:HasM0 P){M:Mem}{m:ba}{k L:Nat}
include h
theorem nE (n:Nat){x:D}(hm:bh m)(j:cg m x .non):ah P (n+9) 18 [m.d,x] M=.ok .non M:=by
 cases j with
 |ok r hr=>exact Jg h n hm hr
theorem lS (n:Nat){x v:D}(hm:bh m)(u:Th (k+1) L x)(I:L<=900000)(H:cg m x v)(hn:v≠.non):ah P (n+9) 18 [m.d,x] M=.err v M:=by
 cases H with
 |ok r hr=>exact absurd rfl hn
 |long B j hl=>exact CN h n hm (Hk h (n+5) u.2 j) hl
 | bad B i y z E j=>
   have:=(Qg.mp z).1;have:=u.1;exact uH h n hm (C6 h (n+5) u.2 z E j `a)
 |not x F=>exact uH h n hm (C5 h (n+5) F)
end
def Jd {m:ba}{Z:Env}{M:Mem}{j:Nat}(e:Z[j]?.getD none=some m.d):ak false .sub (aH .len #[av (aa j) (gI 2)]) (gI 1) Z M=.ok (.int ((m.deeds.length:Int)-1)) M:=by
 refine aj ?_;simp only[cx,cK,aS,bf,jI,aK,cW];refine{_,e,.tup (m.deeds.map bb.d),rfl,xg.mpr (mx.mpr {?_,rfl})};rw[Qk]
def ip {ds:List D}{Z:Env}{M:Mem}{j:Nat}(e:Z[j]?.getD none=some (.lst ds)):aH .len #[aa j] Z M=.ok (nD ds.length) M:=by
 unfold aH;rw[af (ag e) rfl];rfl
section
variable{P:Nat->Option Df}(h:ki P){M:Mem}{m:ba}{k L:Nat}
include h
theorem pO (h90:P 90=some {2,4,bT})(n:Nat){x v:D}(hm:bh m)(Q:Th (k+1) L x)(hL:L<=900000)(Y:cg m x v):ah P (n+6) 90 [m.d,x] M=.ok (lP v) M:=by
 refine aj (aq h90 rfl ?_);show ae (bT (ah P (n+5)) [some m.d,some x,none,none] M) _;unfold bT;have O:=rZ h n (M:=M) (iW hm) `d `d
 rw[jm hm] at O;refine ax (bz (a8 (gO rfl O))) ?_;have body:∀{ds:List D}{y:D}{a:D},(Th k L y)->(ai 68 (ah P (n+5)) #[aa 3,gI 0,ak false .sub (aH .len #[av (aa 0) (gI 2)]) (gI 1)]) [some m.d,some (.lst ds),some a,some y] M=.ok (.bl (lu m y)) M:=λ{ds y a} E=>
  (aQ (af (ag rfl) (af rfl (af (Jd rfl) rfl)))).trans (ji h (n+3) E _ _)
 cases Y with
 | not x S=>
   refine bt (bz (b:=false) (a8 ?_)) rfl ⟨rfl,rfl⟩;unfold bD;show(b8 M (bY .list x)).bind _=_;rw[S];rfl
 | ok r hr=>
   refine ax rfl ?_;simp only[ay,cP,fE,aK];refine{_,rfl,rfl,?_};refine cV (λi B u=>u=M/\∃a b,B=[some m.d,some (aP r),a,b]) (λ_ _ _ e=>rfl) ⟨rfl,none,none,rfl⟩ ?_ ?_
   ·rintro i e B u he ⟨rfl,a,b,rfl⟩;rw[cj] at he;obtain⟨y,E,rfl⟩:=Qr.mp he;obtain⟨q,X,rfl⟩:=QS.mp (QG E);refine{_,rfl,ax (bz (b:=true) (a8 ?_)) {_,rfl,rfl,_,_,rfl}};have:=body (ds:=r.map nD) (y:=nD q) (a:=.int ((0+i:Nat):Int)) (by cases k<;>trivial)
    rw[C7 (hr.2 q X)] at this;exact this
   ·rintro B u ⟨rfl,a,b,rfl⟩;refine bp ?_ ⟨rfl,rfl⟩;unfold cT;have e:(ao (az .gt (aH .len #[aa 1]) (gI 40)):GT) [some m.d,some (aP r),a,b] u=.ok false u:=by
     refine aR ?_;simp only[eV,dw,cW];rw[ip rfl,aZ];refine{_,rfl,_,rfl,decide_eq_false ?_,rfl};have:=hr.1;simp;omega
    rw[e];rfl
 | long ds J hl=>
   refine ax rfl ?_;simp only[ay,cP,fE,aK];refine{_,rfl,rfl,?_};refine cV (λi B u=>u=M/\∃a b,B=[some m.d,some (.lst ds),a,b]) (λ_ _ _ e=>rfl) ⟨rfl,none,none,rfl⟩ ?_ ?_
   ·rintro i e B u he ⟨rfl,a,b,rfl⟩;rw[cj] at he;obtain⟨y,E,rfl⟩:=Qr.mp he;have F:=QG E;refine{_,rfl,ax (bz (b:=true) (a8 ?_)) {_,rfl,rfl,_,_,rfl}};have:=body (ds:=ds) (a:=.int ((0+i:Nat):Int)) (Q.2 y F);rw[J y F] at this;exact this
   ·rintro B u ⟨rfl,a,b,rfl⟩;refine bp ?_ ⟨rfl,rfl⟩;unfold cT;have e:(ao (az .gt (aH .len #[aa 1]) (gI 40)):GT) [some m.d,some (.lst ds),a,b] u=.ok true u:=by
     refine aR ?_;simp only[eV,dw,cW];rw[ip rfl,aZ];exact{_,rfl,_,rfl,decide_eq_true `a,rfl}
    rw[e];rfl
 | bad ds i y E R J=>
   refine ax rfl ?_;simp only[ay,cP,fE,aK];refine{_,rfl,rfl,?_};refine nN (λj B u=>u=M/\j<=i/\∃a b,B=[some m.d,some (.lst ds),a,b]) (λd u=>d=.lst [.str "row",.int (i:Int)]/\u=M) (λ_ _ _ e=>rfl) (λ_ _ _=>rfl) {rfl,RN _,none,none,rfl} ?_ ?_ ?_
   ·rintro j e B u he ⟨rfl,U,a,b,rfl⟩;rw[cj] at he;obtain⟨z,I,rfl⟩:=Qr.mp he;have H:=body (ds:=ds) (a:=.int ((0+j:Nat):Int)) (Q.2 z (QG I));refine{_,rfl,?_};by_cases c:j=i
    ·subst c;rw[E] at I;cases I;rw[R] at H;refine bt (bz (a8 H)) (yw (ag rfl)) (.inr {_,rfl,?_,rfl});rw[RS]
    ·rw[J j z `a I] at H
     exact ax (bz (a8 H)) (.inl {_,rfl,rfl,`a,_,_,rfl})
   ·rintro B u ⟨rfl,U,_⟩;have W:=(Qg.mp E).1;have:(dH 0 ds).length=ds.length:=dm ds 0;omega
   ·rintro d u ⟨rfl,rfl⟩;exact⟨rfl,rfl⟩
end
def CI {m:ba}{x v:D}(z:cg m x v)(hn:v≠.non):∃i,v∈jz i:=by
 cases z with
 |ok r hr=>exact absurd rfl hn
 |long j u hl=>exact{0,by simp[jz]}
 |bad j i y F B u=>exact{i,by simp[jz]}
 |not x E=>exact{0,by simp[jz]}
def wK {m:ba}{x v:D}(z:cg m x v)(hn:v≠.non):kF (lP v)=false:=by
 cases z with
 |ok r hr=>exact absurd rfl hn
 |long j u hl=>rfl
 |bad j i y F B u=>rfl
 |not x E=>rfl
def Dz {i:Int}{x:D}(h:x∈jz i):∃c p,x=.exc c p:=by
 simp only[jz,Qu,QL,or_false] at h;rcases h with rfl|rfl|rfl|rfl|rfl|rfl|rfl|rfl|rfl|rfl|rfl|rfl|rfl|rfl<;>exact{_,_,rfl}
def items:List D:=(List.range 20).map (λ(k:Nat)=>nD k)++[.int (-1),.int (-2),.int (10^20),.bl true,.bl false,.non,.str "0",.lst [.int 0],.tup [.int 0],.lst [],.str "",.str "turn",.str "join",.str "move",.str "put",.str "Turn",.tup []]
def iZ {x:D}(h:x∈items):Th 2 200 x/\Good 5 x:=by
 have e:items.all (λx=>uf 2 200 x&&yH 5 x)=true:=`k
 have q:=Qq.mp e x h;rw[Qh] at q;exact{pK q.1,Dw q.2}
def fv {i:Nat}(h:i<20):nD i∈items:=RA _ (List.mem_map.mpr {i,List.mem_range.mpr h,rfl})
structure Itm (n:Nat) (xs:List D):Prop where
 len:xs.length<=n
 all:∀x∈xs,x∈items
structure Thing (x:D):Prop where
 th:Th 3 200 x
 good:Good 10000 x
def Itm.lst {n:Nat}{xs:List D}(h:Itm n xs)(hn:n<=200):Thing (.lst xs):=by
 have:=h.len;exact{.lst_of `a λd hd=>(iZ (h.all d hd)).1,(Good.lst λd hd=>(iZ (h.all d hd)).2).mono `a}
def Itm.tup {n:Nat}{xs:List D}(h:Itm n xs)(hn:n<=200):Thing (.tup xs):=by
 have:=h.len;exact{.tup_of `a λd hd=>(iZ (h.all d hd)).1,(Good.tup λd hd=>(iZ (h.all d hd)).2).mono `a}
def Itm.app {n n':Nat}{xs ys:List D}(h:Itm n xs)(j:Itm n' ys):Itm (n+n') (xs++ys):=by
 have:=h.len;have:=j.len;refine{by rw[QJ];omega,λx u=>?_}
 rcases QM.mp u with z|z
 ·exact h.all x z
 ·exact j.all x z
def Itm.take {n:Nat}{xs:List D}(h:Itm n xs)(k:Nat):Itm n (xs.take k):={by have:=h.len;rw[Rj];omega,λx j=>h.all x (Q9 j)}
def Itm.drop {n:Nat}{xs:List D}(h:Itm n xs)(k:Nat):Itm n (xs.drop k):={by have:=h.len;rw[R8];omega,λx j=>h.all x (RT j)}
def Itm.one {x:D}(h:x∈items):Itm 1 [x]:={Qo _,λy j=>by rw[Qz.mp j];exact h}
def Itm.put {n k:Nat}{xs:List D}{x:D}(h:Itm n xs)(j:x∈items):Itm (n+1) (xs.take k++[x]++xs.drop k):=by
 have:=h.len;exact{by simp;omega,(((h.take k).app (.one j)).app (h.drop k)).all}
def kZ {m:ba}{r:List Nat}{n:Nat}(hm:bh m)(hr:∀i∈r,i<m.deeds.length)(hl:r.length<=n):Itm n (r.map nD):=by
 have:=hm.d6;refine{by rw[Qk];exact hl,λx u=>?_}
 obtain⟨i,j,rfl⟩:=QS.mp u;exact fv (by have:=hr i j;omega)
section
variable{Z:Env}{M:Mem}{a b:GE}
def Hc {v c:Nat}(e:a Z M=.ok (nD v) M):ak false .add a (gC (.int (c:Int))) Z M=.ok (nD (v+c)) M:=by
 unfold ak;rw[e];show Res.ok (D.int ((v:Int)+(c:Int))) M=_;rw[show((v:Int)+(c:Int))=((v+c:Nat):Int) by omega]
def xh {j:Nat}{xs:List D}(h:Z[j]?.getD none=some (.lst xs)):ak false .add (aH .len #[aa j]) (gI 1) Z M=.ok (nD (xs.length+1)) M:=Hc (c:=1) (ip h)
def Iy {xs ys:List D}(j:a Z M=.ok (.lst xs) M)(u:b Z M=.ok (.lst ys) M)(hl:(xs++ys).length<=1000):ak false .add a b Z M=.ok (.lst (xs++ys)) M:=by
 unfold ak;rw[j];show(b Z M).bind _=_;rw[u];show(if (xs++ys).length<=sz then(if false=true then _ else Res.ok (D.lst (xs++ys)) M) else .bad)=_;rw[if_pos (au `a)]
 rfl
end
def mZ {lo hi:Int}{d:D}(h:aW lo hi d=true)(j:0<=lo):∃i:Nat,d=nD i/\lo<=(i:Int)/\(i:Int)<=hi:=by
 cases d with
 | int i=>
   have h:(decide (lo<=i)&&decide (i<=hi))=true:=h;rw[Qh,decide_eq_true_eq,decide_eq_true_eq] at h;have e:=RL (Int.le_trans j h.1);exact{i.toNat,by show D.int i=D.int _;rw[e],by rw[e];exact h.1,by rw[e];exact h.2}
 |_=>cases h
theorem w5 {w:Nat}:∀{ds:List D},(∀d∈ds,aW 0 ((w:Int)-1) d=true)->∃t:List Nat,ds=t.map nD/\∀i∈t,i<w
 |[],_=>{[],rfl,λ_ h=>nomatch h}
 | d::ds,h=>by
   obtain⟨r,rfl,hr⟩:=w5 λx v=>h x (Qm _ v);obtain⟨i,rfl,_,y⟩:=mZ (h d Qv) (Int.le_refl _);refine{i::r,rfl,λj u=>?_};rcases Qu.mp u with rfl|u
   ·omega
   ·exact hr j u
def tab_of {w:Nat}{d:D}(h:gy w d=true):∃t,d=aJ t/\fT w t:=by
 cases d with
 | tup j=>
   have h:(j.length==w&&j.all (aW 0 ((w:Int)-1)))=true:=h;rw[Qh,beq_iff_eq,Qq] at h;obtain⟨t,rfl,u⟩:=w5 h.2;exact{t,rfl,by simpa using h.1,u}
 |_=>cases h
noncomputable def wq {w:Nat}:∀{ds:List D},(∀d∈ds,gy w d=true)->∃t:List (List Nat),ds=t.map aJ/\∀x∈t,fT w x
 |[],_=>{[],rfl,λ_ h=>nomatch h}
 | d::ds,h=>by
   obtain⟨r,rfl,hr⟩:=wq λx j=>h x (Qm _ j);obtain⟨t,rfl,u⟩:=tab_of (h d Qv);refine{t::r,rfl,λx j=>?_};rcases Qu.mp j with rfl|j
   ·exact u
   ·exact hr x j
def HR {w:Nat}{d:D}(h:jd w d=true):∃t:List (List Nat),d=.tup (t.map aJ)/\t.length=w/\∀x∈t,fT w x:=by
 cases d with
 | tup j=>
   have h:(j.length==w&&j.all (gy w))=true:=h;rw[Qh,beq_iff_eq,Qq] at h;obtain⟨t,rfl,u⟩:=wq h.2;exact{t,rfl,by simpa using h.1,u}
 |_=>cases h
def nS {d:D}(h:aW 1 3 d=true):∃c,d=nD c/\eL c:=by
 obtain⟨c,rfl,h1,h2⟩:=mZ h `d
 exact{c,rfl,`a,`a}
def j5 {p:Nat}{d:D}(h:aW 0 ((p:Int)-1) d=true):∃a,d=nD a/\a<p:=by
 obtain⟨a,rfl,_,h2⟩:=mZ h (Int.le_refl _);exact{a,rfl,`a}
def Ie {w p:Nat}{d:D}(h:fO w p d=true):∃e:bb,d=e.d/\bQ w p e:=by
 match d,h with
 | .tup (.str s::ds),h=>
   have h:cD w p s ds=true:=h;by_cases y:s="turn"
   ·subst y;rw[mK] at h
    match ds,h with
    | [a,t,c],h=>
      have h:(aW 0 ((p:Int)-1) a&&(gy w t&&aW 1 3 c))=true:=h;rw[Qh,Qh] at h;obtain⟨a,rfl,j⟩:=j5 h.1;obtain⟨t,rfl,v⟩:=tab_of h.2.1;obtain⟨c,rfl,u⟩:=nS h.2.2;exact{.turn a t c,rfl,j,v,u}
   ·by_cases z:s="join"
    ·subst z;rw[mJ] at h
     match ds,h with
     | [a,o,t,c],h=>
       have h:(aW 0 ((p:Int)-1) a&&(aW 0 ((p:Int)-1) o&&(jd w t&&aW 1 3 c)))=true:=h;rw[Qh,Qh,Qh] at h;obtain⟨a,rfl,j⟩:=j5 h.1;obtain⟨o,rfl,ho⟩:=j5 h.2.1;obtain⟨t,rfl,v⟩:=HR h.2.2.1;obtain⟨c,rfl,u⟩:=nS h.2.2.2;exact{.join a o t c,rfl,j,ho,v,u}
    ·by_cases B:s="move"
     ·subst B;rw[mI] at h
      match ds,h with
      | [a,o,c],h=>
        have h:(aW 0 ((p:Int)-1) a&&(aW 0 ((p:Int)-1) o&&aW 1 3 c))=true:=h;rw[Qh,Qh] at h;obtain⟨a,rfl,j⟩:=j5 h.1;obtain⟨o,rfl,ho⟩:=j5 h.2.1;obtain⟨c,rfl,u⟩:=nS h.2.2;exact{.move a o c,rfl,j,ho,u}
     ·by_cases E:s="put"
      ·subst E;rw[mH] at h
       match ds,h with
       | [a,x,c],h=>
         have h:(aW 0 ((p:Int)-1) a&&(aW 0 ((w:Int)-1) x&&aW 1 3 c))=true:=h;rw[Qh,Qh] at h;obtain⟨a,rfl,j⟩:=j5 h.1;obtain⟨x,rfl,F⟩:=j5 h.2.1;obtain⟨c,rfl,u⟩:=nS h.2.2;exact{.put a x c,rfl,j,F,u}
      ·rw[uS y z B E] at h;cases h
noncomputable def sI {w p:Nat}:∀{ds:List D},(∀d∈ds,fO w p d=true)->∃es:List bb,ds=es.map bb.d/\∀e∈es,bQ w p e
 |[],_=>{[],rfl,λ_ h=>nomatch h}
 | d::ds,h=>by
   obtain⟨r,rfl,hr⟩:=sI λx j=>h x (Qm _ j);obtain⟨e,rfl,he⟩:=Ie (h d Qv);refine{e::r,rfl,λx j=>?_};rcases Qu.mp j with rfl|j
   ·exact he
   ·exact hr x j
def Hv {d:D}(h:ik d=true):∃m:ba,d=m.d/\bh m:=by
 match d,h with
 | .tup [a,b,c],h=>
   have h:(aW 2 4 a&&(aW 1 2 b&&(iX c&&(qi c).all (fO (fx a) (fx b)))))=true:=h;rw[Qh,Qh,Qh] at h;obtain⟨h1,h2,h3,h4⟩:=h;obtain⟨w,rfl,w2,w4⟩:=mZ h1 `d
   obtain⟨p,rfl,p1,p2⟩:=mZ h2 `d
   cases c with
   | tup j=>
     have h3:(decide (1<=j.length)&&decide (j.length<=6))=true:=h3;rw[Qh,decide_eq_true_eq,decide_eq_true_eq] at h3;have h4:=h4;rw[Qq] at h4;obtain⟨u,rfl,he⟩:=sI h4;rw[Qk] at h3;refine{⟨w,p,u⟩,rfl,{?_,?_,?_,?_,h3.1,h3.2,he}}
     ·show 2<=w;omega
     ·show w<=4;omega
     ·show 1<=p;omega
     ·show p<=2;omega
   |_=>cases h3
structure NW (P:Nat->Option Df):Prop where
 m:HasM P
 p:HasP P
 t:HasT P
 w:ki P
 s:jh P
 a:pC P
 h35:P 35=some {3,6,d4}
 h75:P 75=some {1,3,dF}
 h90:P 90=some {2,4,bT}
 h94:P 94=some {3,5,rE}
 h95:P 95=some {3,4,tD}
 h96:P 96=some {3,5,tu}
 h97:P 97=some {1,12,Ip}
def bH {y:D}(h:y∈[D.int (-1),.int (-2),.int (10^20),.bl true,.bl false,.non,.str "0",.lst [.int 0],.tup [.int 0],.lst [],.str "",.str "turn",.str "join",.str "move",.str "put",.str "Turn",.tup []]):y∈items:=Q2 _ h
def AI {x:D}(h:x∈fu):x∈items:=by
 simp only[fu,Qu,QL,or_false] at h;rcases h with rfl|rfl|rfl|rfl|rfl|rfl|rfl|rfl|rfl|rfl|rfl|rfl|rfl|rfl|rfl|rfl|rfl|rfl|rfl|rfl
 ·exact bH `s
 ·exact bH `s
 ·exact bH `s
 ·exact bH `s
 ·exact bH `s
 ·exact bH `s
 ·exact bH `s
 ·exact bH `s
 ·exact bH `s
 ·exact bH `s
 ·exact bH `s
 ·exact bH `s
 ·exact bH `s
 ·exact fv `d
 ·exact fv `d
 ·exact fv `d
 ·exact bH `s
 ·exact bH `s
 ·exact bH `s
 ·exact fv `d
def u1 {v:Nat}(h:v<9):D.int ((v:Int)-2)∈items:=by
 match v,h with
 |0,_=>exact bH `s
 |1,_=>exact bH `s
 |v+2,h=>rw[show(((v+2:Nat):Int)-2)=((v:Nat):Int) by omega];exact fv `a
def jP {a i:GE}{Z:Env}{M:Mem}{xs:List D}{v:Nat}(j:a Z M=.ok (.lst xs) M)(u:i Z M=.ok (nD v) M)(h:v<xs.length):av a i Z M=.ok xs[v] M:=by
 unfold av;rw[j];show(i Z M).bind _=_;rw[u];show b8 M (bP (.lst xs) (nD v) M)=_;rw[nJ h];rfl
section
variable{P:Nat->Option Df}{M:Mem}
def uy (u:HasP P)(F:HasT P)(H:ki P)(n:Nat){p B:Nat}(Q:aF M p B)(Y:B<=700000):ae (ah P (n+6) 72 [.cell p,.int 0,.int 0] M) λd M'=>d∈items/\aF M' p (B+3)/\aU p M M':=by
 refine aq F.bent rfl ?_;show ae (jg (ah P (n+5)) [some (.cell p),some (.int 0),some (.int 0),none,none,none,none,none,none] M) _;unfold jg;refine ez u (n+3) rfl rfl Q `a `d `d λkind X z S k1=>?_
 refine ez u (n+3) rfl rfl S `a `d `d λj J E U k2=>?_
 refine bq (k:=λd M'=>∃v:Nat,d=.int ((v:Int)-2)/\v<9/\aF M' p (B+3)/\aU p J M') ?_ ?_
 ·rw[cx];refine aA (dB u (n+3) rfl rfl U `a `d `d) ?_
  rintro _ M' ⟨v,rfl,y,q,kk⟩;simp only[cW];exact mx.mpr ⟨v,rfl,y,q,kk⟩
 rintro _ O ⟨v,rfl,y,W,R⟩;refine ax rfl ?_;show ae (aC _ (aC _ (jU (ah P (n+5)))) [some (.cell p),some (.int 0),some (.int 0),some (nD kind),some (nD j),some (.int ((v:Int)-2)),none,none,none] O) _;refine sj ?_;unfold jU;refine ax rfl (dR (a8 (gO rfl (kn H (n+4) (k:=0) (L:=0) trivial))) ?_);have hl:=E;refine bp (jP (eB (af rfl (af rfl (af rfl (af (ag rfl) (af (ag rfl) (af rfl (af rfl (af (jP (ag rfl) (ag rfl) hl) rfl)))))))) (Qx rfl)) (ag rfl) z) {?_,W,(k1.trans k2).trans R};have mem:∀x∈[D.int 1,.int (-1),.int 0,.int ((v:Int)-2),.int ((v:Int)-2),.bl false,.int 3,fu[j]],x∈items:=λx I=>by
  simp only[Qu,QL,or_false] at I;rcases I with rfl|rfl|rfl|rfl|rfl|rfl|rfl|rfl
  ·exact fv `d
  ·exact bH `s
  ·exact fv `d
  ·exact u1 y
  ·exact u1 y
  ·exact bH `s
  ·exact fv `d
  ·exact AI (Q4 hl)
 exact mem _ (Q4 _)
def Thing.item {x:D}(h:x∈items):Thing x:={(iZ h).1.mono `d `d,(iZ h).2.mono `d}
variable(h:NW P)
include h
omit h in
theorem Ah (hs:jh P)(n:Nat){z:Str}(hz:aE 64 (.str z)=true):ah P (n+2) 40 [.lst [.str z],.lst [.str z]] M=.ok (.bl true) M:=
 pN hs (n+1) (au (n:=1) `d) λd hd=>by rw[Qz.mp hd];exact ko hs n hz
omit h in
theorem Ai (hs:jh P)(n:Nat){m:ba}{x v:D}(z:cg m x v)(hn:v≠.non):ah P (n+2) 40 [lP v,lP v] M=.ok (.bl true) M:=by
 have row:∀i:Int,ah P (n+2) 40 [.lst [.str "row",.int i],.lst [.str "row",.int i]] M=.ok (.bl true) M:=λi=>by
  refine pN hs (n+1) (au (n:=2) `d) λd hd=>?_
  rcases Qu.mp hd with rfl|hd
  ·exact ko hs n `k
  ·rw[Qz.mp hd];exact rY hs n i
 cases z with
 |ok r hr=>exact absurd rfl hn
 |long j u hl=>exact Ah hs n `k
 |bad j i y F B u=>exact row i
 |not x E=>exact row 0
end
def xD {a b:GE}{Z:Env}{M:Mem}{k:D->Mem->Prop}(h1:a Z M=.ok (.bl false) M)(h:k (.bl false) M):ae (dv a b Z M) k:=by unfold dv;rw[h1];exact h
def pA {a b:GE}{Z:Env}{M:Mem}{k:D->Mem->Prop}(h1:a Z M=.ok (.bl true) M)(h:ae (b Z M) k):ae (dv a b Z M) k:=by unfold dv;rw[h1];exact h
def ve {t:GT}{A rest:GS}{Z:Env}{M:Mem}{k:Fl->Mem->Prop}{R:Mem->Prop}(j:ae (t Z M) λb M'=>b=true/\R M')(h:∀M',R M'->ae (A Z M') (gi rest k)):ae (aC (aL t A aB) rest Z M) k:=by
 simp only[ay,hU];obtain⟨b,M',e,rfl,r⟩:=ic.mp j;rw[e];exact h M' r
def CH {m:ba}{x v:D}(j:cg m x v)(hn:v≠.non):∃c p,v=.exc c p/\(c=0\/c=4):=by
 cases j with
 |ok=>exact absurd rfl hn
 |long=>exact{_,_,rfl,.inr rfl}
 |bad=>exact{_,_,rfl,.inl rfl}
 |not=>exact{_,_,rfl,.inl rfl}
section
variable{P:Nat->Option Df}(h:HasM0 P){M:Mem}{m:ba}{k L:Nat}
include h
theorem pb (j:P 52=some {2,2,gX})(n:Nat){x:D}(hm:bh m)(u:cg m x .non):ah P (n+10) 52 [m.d,x] M=.ok (.bl true) M:=by
 refine aj (aq j rfl ?_);simp[gX,D2,nE h n hm u]
theorem vf (j:P 52=some {2,2,gX})(n:Nat){x v:D}(hm:bh m)(E:Th (k+1) L x)(z:L<=900000)(u:cg m x v)(hn:v≠.non):ah P (n+10) 52 [m.d,x] M=.ok (.bl false) M:=by
 obtain⟨c,p,y,B⟩:=CH u hn;refine aj (aq j rfl ?_);simp[gX,D2,lS h n hm E z u hn,y,B]
end
inductive g8 (m:ba):D->D->Bool->Prop
 |one (y z v:D) (h1:cg m y v) (hn:v≠.non):g8 m y z false
 |two (y z v:D) (h1:cg m y .non) (h2:cg m z v) (hn:v≠.non):g8 m y z false
 |both (r s:List Nat) (h1:bZ m r) (h2:bZ m s):g8 m (aP r) (aP s) (decide (ends m r=ends m s))
def Ap {m:ba}{k L:Nat}{y z:D}(j:Th k L y)(hz:Th k L z):∃b,g8 m y z b:=by
 have h1:=iS (m:=m) j;have h2:=iS (m:=m) hz;generalize eO m y=v at h1;generalize eO m z=u at h2;by_cases e1:v=.non
 ·by_cases e2:u=.non
  ·subst e1 e2;cases h1 with
   | ok r hr=>cases h2 with
     |ok s hs=>exact{_,.both r s hr hs}
  ·subst e1;exact{_,.two y z u h1 h2 e2}
 ·exact{_,.one y z v h1 e1}
structure tX (P:Nat->Option Df):Prop where
 is_row:P 52=some {2,2,gX}
 is_rule:P 53=some {2,4,m7}
 need_rules:P 54=some {2,4,eC}
section
variable{P:Nat->Option Df}(h:HasM P)(ha:pC P)(hr_:tX P){M:Mem}{m:ba}{k L:Nat}
include h ha hr_
theorem lJ (n:Nat){y z:D}{b:Bool}(hm:bh m)(E:Th (k+1) L y)(hz:Th (k+1) L z)(u:L<=900000)(B:g8 m y z b):ae (ah P (n+13) 53 [m.d,.tup [y,z]] M) λd M'=>d=.bl b/\Sub M M':=by
 refine aq hr_.is_rule rfl ?_;have t2:ah P (n+12) 4 [.int 2,.tup [y,z]] M=.ok (.bl true) M:=aj (aq h.is_tuple_of rfl (cQ rfl));refine ax (bz (b:=true) (a8 ((aQ (af rfl (af (ag rfl) rfl))).trans t2))) (aV rfl (ft ?_));cases B with
 |one y z v h1 hn=>exact xD (eJ rfl rfl (vf h.toHasM0 hr_.is_row (n+2) hm E u h1 hn)) {rfl,.refl}
 |two y z v h1 h2 hn=>exact pA (eJ rfl rfl (pb h.toHasM0 hr_.is_row (n+2) hm h1)) (xD (eJ rfl rfl (vf h.toHasM0 hr_.is_row (n+2) hm hz u h2 hn)) {rfl,.refl})
 | both r s h1 h2=>
   refine pA (eJ rfl rfl (pb h.toHasM0 hr_.is_row (n+2) hm (.ok r h1))) (pA (eJ rfl rfl (pb h.toHasM0 hr_.is_row (n+2) hm (.ok s h2))) (dw.mpr ?_));rw[aQ (af (ag rfl) (af (ag rfl) (af (ag rfl) rfl)))];refine aA (ur h ha n .l .l hm h1 h2) ?_;rintro d F ⟨rfl,j⟩;by_cases e:ends m r=ends m s
   ·rw[mi.mpr e,decide_eq_true e];exact⟨true,rfl,rfl,j⟩
   ·cases q:ib m r s with
    |none=>exact absurd (mi.mp q) e
    | some w=>
      rw[decide_eq_false e];exact⟨false,rfl,rfl,j⟩
def iH (m:ba)(k L:Nat)(d:D)(b:Bool):Prop:=∃y z,d=D.tup [y,z]/\Th (k+1) L y/\Th (k+1) L z/\g8 m y z b
theorem Ao (n:Nat){ds:List D}{i:Nat}{x:D}(hm:bh m)(H:L<=900000)(I:ds[i]?=some x)(J:iH m k L x false)(O:∀j y,j<i->ds[j]?=some y->iH m k L y true)(hi:i<1000000) :
 iJ (ah P (n+14) 54 [m.d,.lst ds] M) (λ_ _=>False) (λx M'=>x=.exc 1 (some (i:Int))/\Sub M M'):=by
 refine eP hr_.need_rules rfl ?_;show ae (eC (ah P (n+13)) [some m.d,some (.lst ds),none,none] M) _;unfold eC;simp only[ay,fG,dJ,aS,bf,aK];refine{_,rfl,?_};rw[lR h.q h.need_machine (n+5) (iW hm) `d (jm hm)]
 show ae (aC _ _ [some m.d,some (.lst ds),none,none] M) _;simp only[ay,cP,fE,aK];refine{_,rfl,rfl,?_};refine eM (λj fl M'=>Sub M M'/\((j<=i/\∃a b,fl=.next [some m.d,some (.lst ds),a,b])\/(i<j/\∃F,fl=.exc (.exc 1 (some (i:Int))) F))) (λ_ _ _ e=>rfl) {.refl,.inl {RN _,none,none,rfl}} ?_ ?_
 ·rintro j e fl M' he ⟨S,B⟩;rw[cj] at he;obtain⟨y,E,rfl⟩:=Qr.mp he;rcases B with⟨B,a,b,rfl⟩|⟨B,F,rfl⟩
  ·show ae (#v[_] [some m.d,some (.lst ds),some (.int ((0+j:Nat):Int)),some y] M') _;rw[RS];by_cases c:j=i
   ·subst c;rw[I] at E;cases E;obtain⟨y,z,rfl,h1,h2,h3⟩:=J;refine ve (R:=λu=>Sub M' u) ?_ ?_
    ·simp only[pL,eV];rw[aQ (af (ag rfl) (af (ag rfl) rfl))];exact aA (lJ h ha hr_ n hm h1 h2 H h3) λd u ⟨e,v⟩=>by rw[e];exact⟨false,rfl,rfl,v⟩
    ·intro u v;simp only[ay,ku,aK];exact{_,rfl,_,rfl,`a,S.trans v,.inr {Nat.lt_succ_self _,_,rfl}}
   ·obtain⟨y,z,rfl,h1,h2,h3⟩:=O j y `a E
    refine lj (R:=λu=>Sub M' u) ?_ ?_
    ·simp only[pL,eV];rw[aQ (af (ag rfl) (af (ag rfl) rfl))];exact aA (lJ h ha hr_ n hm h1 h2 H h3) λd u ⟨e,v⟩=>by rw[e];exact⟨true,rfl,rfl,v⟩
    ·intro u v;exact{S.trans v,.inl {`a,_,_,rfl}}
  ·exact{S,.inr {`a,_,rfl}}
 ·rintro fl M' ⟨S,B⟩;have Q:=(Qg.mp I).1;have:(dH 0 ds).length=ds.length:=dm ds 0;rcases B with⟨B,_⟩|⟨_,F,rfl⟩
  ·omega
  ·exact⟨rfl,S⟩
theorem CK (n:Nat){ds:List D}(hm:bh m)(B:L<=900000)(E:∀d∈ds,iH m k L d true):ae (ah P (n+14) 54 [m.d,.lst ds] M) λd M'=>d=.non/\Sub M M':=by
 refine aq hr_.need_rules rfl ?_;show ae (eC (ah P (n+13)) [some m.d,some (.lst ds),none,none] M) _;unfold eC;simp only[ay,fG,dJ,aS,bf,aK];refine{_,rfl,?_};rw[lR h.q h.need_machine (n+5) (iW hm) `d (jm hm)]
 show ae (aC _ _ [some m.d,some (.lst ds),none,none] M) _;simp only[ay,cP,fE,aK];refine{_,rfl,rfl,?_};refine cV (λi v M'=>Sub M M'/\∃a b,v=[some m.d,some (.lst ds),a,b]) (λ_ _ _ _=>rfl) {.refl,none,none,rfl} ?_ ?_
 ·rintro i e v M' he ⟨S,a,b,rfl⟩;rw[cj] at he;obtain⟨y,F,rfl⟩:=Qr.mp he;obtain⟨y,z,rfl,h1,h2,h3⟩:=E y (QG F);refine{_,rfl,lj (R:=λj=>Sub M' j) ?_ ?_}
  ·simp only[pL,eV];rw[aQ (af (ag rfl) (af (ag rfl) rfl))];exact aA (lJ h ha hr_ n hm h1 h2 B h3) λd j ⟨e,u⟩=>by rw[e];exact⟨true,rfl,rfl,u⟩
  ·intro j u;exact{_,rfl,S.trans u,_,_,rfl}
 ·rintro v M' ⟨S,a,b,rfl⟩;exact⟨rfl,S⟩
end
def AM {M:Mem}{l:List D}(h:l.all (aE 63)=true):br .ne (.lst l) (.lst []) M=some (!l.isEmpty):=by
 refine hJ h rfl ?_;cases l<;>rfl
def Hl {w:GW}{h:GT}{Z:Env}{M:Mem}{ds:List D}{k:D->Mem->Prop}(f:D->Bool)(j:ae (w Z M) λwk M'=>M'=M/\wk M=some ds)(hz:ds.length<=sz)(he:∀d∈ds,h (some d::Z) M=.ok (!f d) M)(hk:k (.bl (!ds.all f)) M) :
 ae (az .ne (bL false 1 (.one 0) w (ll h (bN (gI 1)))) (aG false b9) Z M) k:=by
 simp only[dw,fi,iy,bf,a9];refine aA j ?_;rintro wk M' ⟨e1,e2⟩;subst e1;refine mY (λd=>!f d) (λ_=>.int 1) hz e2 (λd hd=>{some d::Z,rfl,he d hd,λ_=>rfl}) ?_;refine{Qs (by rw[Qk];exact List.length_filter_le _ _) hz,au `d,_,AM ?_,?_}
 ·rw[Qq];intro x u;obtain⟨_,_,rfl⟩:=QS.mp u;rfl
 ·rw[l4];exact hk
section
variable{P:Nat->Option Df}{M:Mem}{m:ba}{k L:Nat}
def wD (h:HasM0 P){y v:D}(hm:bh m)(j:Th (k+1) L y)(z:L<=900000)(B:cg m y v)(hn:v≠.non):isOk (eO m y)=false:=by
 have e1:=lS h 0 (M:=[]) hm j z B hn;have hs:=iS (m:=m) j;generalize eO m y=u at hs;by_cases q:u=.non
 ·subst q;rw[nE h 0 hm hs] at e1;cases e1
 ·cases u<;>first|rfl|exact absurd rfl q
def uD (h:HasM0 P){y:D}(hm:bh m)(j:Th (k+1) L y)(v:L<=900000)(z:cg m y .non):isOk (eO m y)=true:=by
 have e1:=nE h 0 (M:=[]) hm z;have hs:=iS (m:=m) j;generalize eO m y=u at hs;by_cases q:u=.non
 ·rw[q];rfl
 ·rw[lS h 0 hm j v hs q] at e1;cases e1
end
theorem sF {p:D->Bool->Prop}:∀{ds:List D},(∀d∈ds,∃b,p d b)->(∀d∈ds,p d true)\/∃(i:Nat) (x:D),ds[i]?=some x/\p x false/\∀j y,j<i->ds[j]?=some y->p y true
 |[],_=>.inl λ_ h=>nomatch h
 | d::ds,h=>by
   obtain⟨b,u⟩:=h d Qv;cases b with
   |false=>exact .inr {0,d,rfl,u,λj y z=>absurd z (Nat.not_lt_zero _)}
   | true=>
     rcases sF λx v=>h x (Qm _ v) with q|⟨i,x,h1,h2,h3⟩
     ·exact .inl λx v=>(Qu.mp v).elim (λe=>e ▸ u) (q x)
     ·refine .inr {i+1,x,h1,h2,λj y z B=>?_};cases j with
      |zero=>cases B;exact u
      |succ j=>exact h3 j y `a B
structure Has12 (P:Nat->Option Df):Prop where
 m:HasM P
 a:pC P
 r:tX P
 w:ki P
 b:HasB P
 s:jh P
 h44:P 44=some {2,5,da}
 h75:P 75=some {1,3,dF}
 h90:P 90=some {2,4,bT}
 h102:P 102=some {2,5,rD}
 h103:P 103=some {2,4,tB}
def Pr (d:D):Prop:=∃j u,d=.tup [.lst j,.lst u]/\Itm 42 j/\Itm 42 u
def Pr.rule {m:ba}{d:D}(h:Pr d):∃b,iH m 2 200 d b:=by
 obtain⟨u,y,rfl,a,b⟩:=h;obtain⟨v,j⟩:=Ap (m:=m) (a.lst `d).th (b.lst `d).th
 exact{v,_,_,rfl,(a.lst `d).th,(b.lst `d).th,j}
def Pr.th {d:D}(h:Pr d):Th 4 200 d:=by
 obtain⟨u,v,rfl,a,b⟩:=h;refine .tup_of (show 2<=200 by decide) λz j=>?_
 rcases Qu.mp j with rfl|j
 ·exact(a.lst `d).th
 ·rw[Qz.mp j];exact(b.lst `d).th
def Pr.rows {m:ba}{r s:List Nat}(hm:bh m)(h1:∀i∈r,i<m.deeds.length)(h2:∀i∈s,i<m.deeds.length)(l1:r.length<=42)(l2:s.length<=42):Pr (.tup [aP r,aP s]):={_,_,rfl,kZ hm h1 l1,kZ hm h2 l2}
structure Mc (P:Nat->Option Df):Prop extends Has12 P where
 p:HasP P
 t:HasT P
 h35:P 35=some {3,6,d4}
 h49:P 49=some {2,7,cZ}
 h57:P 57=some {1,1,fK}
 h101:P 101=some {2,5,cX}
 h104:P 104=some {2,6,qB}
 h105:P 105=some {1,14,Io}
section
variable{P:Nat->Option Df}{M:Mem}{m:ba}
def CA (h57:P 57=some {1,1,fK})(n:Nat){ds:List D}(hl:ds.length<=9)(hd:∀d∈ds,Pr d):ah P (n+1) 57 [.lst ds] M=.ok (.lst ds) M:=by
 refine aj (aq h57 rfl ?_);simp[fK];refine{rfl,fW (ds:=ds) id (au `a) rfl ?_ {au `o,`s,rfl}}
 intro d j;obtain⟨u,v,rfl,a,b⟩:=hd d j;have a1:=a.len;have a2:=b.len;refine{_,rfl,aj ?_};simp;exact{au `a,au `a,au `a}
def zP (O:HasP P)(h35:P 35=some {3,6,d4})(Q:HasB P)(h44:P 44=some {2,5,da})(h101:P 101=some {2,5,cX})(n:Nat){p B:Nat}(hm:bh m)(hp:aF M p B)(hB:B<=600000):ae (ah P (n+4) 101 [.cell p,m.d] M) λd M'=>(d=.non\/Pr d)/\aF M' p (B+600)/\aU p M M':=by
 refine aq h101 rfl ?_;show ae (cX (ah P (n+3)) [some (.cell p),some m.d,none,none,none] M) _;unfold cX;simp only[ay,cP,fD,cW];refine{6,rfl,`d,?_}
 refine nN (ds:=(List.range 6).map λ(k:Nat)=>D.int (k:Int)) (λi J M'=>aF M' p (B+i*100)/\aU p M M'/\∃F H I,J=[some (.cell p),some m.d,F,H,I]) (λd M'=>Pr d/\aF M' p (B+600)/\aU p M M') (λ_ _ _ _=>rfl) (λ_ _ _=>rfl) {by simpa using hp,.refl,_,_,_,rfl} ?_ ?_ ?_
 ·rintro i d J z hd ⟨y,k1,F,H,I,rfl⟩;have hi:i<6:=by
   have:=(Qg.mp hd).1;simpa using this
  refine{_,rfl,?_};refine bq (k:=λd M'=>∃r:List Nat,d=aP r/\bZ m r/\r.length<=3/\aF M' p (B+i*100+50)/\aU p z M') ?_ ?_
  ·rw[aQ (af (ag rfl) (af (ag rfl) (af rfl rfl)))];exact nt O h35 n hm y `a (mo:=3) `d
  rintro _ W ⟨r,rfl,hr,lr,q2,k2⟩;refine bq (k:=λd M'=>∃r:List Nat,d=aP r/\bZ m r/\r.length<=3/\aF M' p (B+i*100+50+50)/\aU p W M') ?_ ?_
  ·rw[aQ (af (ag rfl) (af (ag rfl) (af rfl rfl)))];exact nt O h35 n hm q2 `a (mo:=3) `d
  rintro _ u ⟨s,rfl,hs,ls,U,k3⟩;show ae (aC _ _ [some (.cell p),some m.d,some d,some (aP r),some (aP s)] u) _;have v:ae ((ao (az .ne (ai 44 (ah P (n+3)) #[aa 1,aa 3]) (ai 44 (ah P (n+3)) #[aa 1,aa 4])):GT) [some (.cell p),some m.d,some d,some (aP r),some (aP s)] u) λb M'=>b=!decide (ends m r=ends m s)/\Sub u M':=by
   simp only[eV,dw];rw[aQ (af (ag rfl) (af (ag rfl) rfl))];refine aA (iP Q h44 (n+1) (M:=u) hm hr.2) ?_;rintro d j ⟨E,X⟩;subst E;rw[aQ (af (ag rfl) (af (ag rfl) rfl))];refine aA (iP Q h44 (n+1) (M:=j) hm hs.2) ?_;rintro d M5 ⟨E,Y⟩;subst E;exact{_,sM,_,rfl,rfl,X.trans Y}
  have L:=(k1.trans k2).trans k3;by_cases q:ends m r=ends m s
  ·simp only[q,decide_true,Bool.not_true] at v;exact lj (R:=λj=>Sub u j) v λj S=>.inl {_,rfl,(S.pen U).mono `a,S.to L,_,_,_,rfl}
  ·simp only[q,decide_false,Bool.not_false] at v;exact ve (R:=λj=>Sub u j) v λj S=>bp (Gp (ag rfl) (ag rfl)) (.inr {_,rfl,.rows hm hr.2 hs.2 `a `a,(S.pen U).mono `a,S.to L})
 ·rintro J z ⟨y,k1,F,H,I,rfl⟩;simp only[Qk,Rx] at y;exact({.inl rfl,y,k1}:(D.non=.non\/Pr D.non)/\_/\_)
 ·rintro d z ⟨a,b,c⟩;exact{.inr a,b,c}
variable(h:Mc P)
include h
end
section
variable{Z:Env}{M:Mem}{a b c:GE}{s:GA}{kf:Fl->Mem->Prop}
def Gn {x y z:D}(e1:a Z M=.ok x M)(e2:b Z M=.ok y M)(j:c Z M=.ok z M):bc #[a,b,c] Z M=.ok (.tup [x,y,z]) M:=by
 unfold bc;rw[af e1 (af e2 (af j rfl))];exact(if_pos (au (n:=3) `d):(if 3<=sz then Res.ok (D.tup [x,y,z]) M else .bad)=_)
def Hw {xs:List D}(es:s Z M=.ok xs M)(hl:xs.length<=100):aG true s Z M=.ok (.cell M.length) (M++[xs]):=by
 unfold aG;rw[es];exact(if_pos (au `a):(if xs.length<=sz then Res.ok (D.cell M.length) (M++[xs]) else .bad)=_)
def Iw {j q:Nat}{xs ys:List D}(e:Z[j]?.getD none=some (.cell q))(v:M[q]?=some xs)(u:b Z M=.ok (.lst ys) M)(hl:(xs++ys).length<=100):ak true .add (aa j) b Z M=.ok (.cell M.length) (M++[xs++ys]):=by
 unfold ak;rw[ag e];show(b Z M).bind _=_;rw[u];show(match M[q]?,some ys with|some x,some y=>bu true (x++y) M|_,_=>.bad)=_
 rw[v];exact(if_pos (au `a):(if (xs++ys).length<=sz then Res.ok (D.cell M.length) (M++[xs++ys]) else .bad)=_)
def oH {rest:GS}{i:Nat}{x:D}{M':Mem}(e:a Z M=.ok x M')(h:ae (rest (Z.set i (some x)) M') kf):ae (aC (aw (.one i) a) rest Z M) kf:=by
 simp only[ay];unfold aw;rw[e];exact h
end
def oX {M:Mem}{xs:List D}:(M++[xs])[M.length]?=some xs:=RM
def oU:Option (List Nat)->D
 |some r=>.lst (r.map nD)
 |none=>.non
def nP:GS:=#v[aL (ao (az .ne (bG false true true (aa 1) (aa 3) (ak false .add (aa 3) (aH .len #[aa 6]))) (aH (.list false) #[aa 6]))) #v[aD gN] aB,aw (.one 8) (ak false .add (ak false .add (bG false false true (aa 1) gN (aa 3)) (aH (.list false) #[aa 7])) (bG false true false (aa 1) (ak false .add (aa 3) (aH .len #[aa 6])) gN)),aD (cT (ao (az .lt (aH .len #[aa 8]) (gI 41))) (aa 8) gN)]
def Bo (c:Call):cL c=aC (aw (.tup [3,4,5]) (aa 2)) (aC (aL (cq (ao (az .lt (aa 4) (gI 0))) (cq (ao (az .ge (aa 4) (aH .len #[aa 0]))) (cq (ao (az .lt (aa 3) (gI 0))) (ao (az .gt (aa 3) (aH .len #[aa 1])))))) #v[aD gN] aB) (aC (aw (.tup [6,7]) (cT (ao (aa 5)) (kS false (av (aa 0) (aa 4))) (av (aa 0) (aa 4)))) (nP))):=rfl
def DK {M:Mem}{row g t:List Nat}{p:Nat}{x0 x2 x4 x5 x8:Option D}(hl:row.length<=100)(u:g.length<=100)(v:t.length<=100) :
 ae (nP [x0,some (.lst (row.map nD)),x2,some (nD p),x4,x5,some (.lst (g.map nD)),some (.lst (t.map nD)),x8] M) (fL λd M'=>M'=M/\d=oU (if (row.drop p).take g.length=g then(if (fw row p g t).length<=40 then some (fw row p g t) else none) else none)):=by
 unfold nP;simp;rw[<- Se];refine{rfl,rfl,(Ab .l `a).mpr {au `a,?_}}
 rw[xA .l .l];have y:=so (row:=row) (g:=g) (t:=t) (p:=p);by_cases c:(row.drop p).take g.length=g
 ·simp[c];refine{rfl,rfl,(r8 .l `a).mpr {au `a,?_}}
  rw[n8,a9,<- Se];refine{au `o,rfl,rfl,(oh .l `a).mpr ?_}
  rw[n8,a9,sm];refine{au `o,?_}
  simp;by_cases j:(fw row p g t).length<=40
  ·simp[j,oU];omega
  ·simp[j,oU];omega
 ·simp[c,oU]
mutual
theorem sU:∀(n:Nat) (d:D),aE n d=true->dt d d=true
 |_,.non,_=>rfl
 |_,.bl b,_=>beq_self_eq_true b
 |_,.int i,_=>beq_self_eq_true i
 |_,.str x,_=>beq_self_eq_true x
 |n+1,.tup j,h=>m5 n j h
 |n+1,.lst j,h=>m5 n j h
 |0,.tup j,h=>absurd h QF
 |0,.lst j,h=>absurd h QF
 |n,.frz j,h=>by cases n<;>exact absurd h QF
 |n,.cell j,h=>by cases n<;>exact absurd h QF
 |n,.fn j,h=>by cases n<;>exact absurd h QF
 |n,.exc _ _,h=>by cases n<;>exact absurd h QF
theorem m5:∀(n:Nat) (ds:List D),ds.all (aE n)=true->fN ds ds=true
 |_,[],_=>rfl
 | n,d::r,h=>by
   simp only[Q7,Qh] at h;simp only[fN,sU n d h.1,m5 n r h.2];rfl
end
structure bg where
 place:Int
 num:Int
 back:Bool
noncomputable def bg.d (s:bg):D:=.tup [.int s.place,.int s.num,.bl s.back]
noncomputable def bg.s (s:bg):BO:=⟨s.place.toNat,s.num.toNat,s.back⟩
def stepI (rules:List eR)(row:List Nat)(s:bg):Option (List Nat):=if 0<=s.place/\0<=s.num then fF rules row s.s else none
def bg.eq {s:bg}(h:0<=s.place/\0<=s.num):s.d=s.s.d:=by
 show D.tup [.int s.place,.int s.num,.bl s.back]=.tup [.int ((s.place.toNat:Nat):Int),.int ((s.num.toNat:Nat):Int),.bl s.back];rw[RL h.1,RL h.2]
noncomputable def fc (rules:List eR):List bg->Nat->List Nat->Sum (List Nat) Nat
 |[],_,row=>.inl row
 | s::r,i,row=>match stepI rules row s with
   |some x=>fc rules r (i+1) x
   |none=>.inr i
def rX {rules:List eR}{ss:List bg}{i:Nat}{s:bg}{row:List Nat}(e:ss[i]?=some s):fc rules (ss.drop i) i row=match stepI rules row s with|some x=>fc rules (ss.drop (i+1)) (i+1) x|none=>.inr i:=by
 obtain⟨j,rfl⟩:=Qg.mp e;rw[List.drop_eq_getElem_cons j];rfl
def um {m:ba}{rules:List eR}{row made:List Nat}{s:bg}(j:eG m rules)(hr:bZ m row)(e:stepI rules row s=some made):bZ m made:=by
 unfold stepI at e;split at e
 ·exact zM j hr e
 ·cases e
def wV {m:ba}{p:eR}(hm:bh m)(h:lB m 40 p):iH m 2 200 (pairD p) true:=by
 have t:∀{r:List Nat},bZ m r->Th 3 200 (aP r):=λhr=>((kZ hm hr.2 hr.1).lst `d).th
 refine{_,_,rfl,t h.r1,t h.r2,?_};have:=g8.both (m:=m) p.1 p.2 h.r1 h.r2;rw[decide_eq_true h.al] at this;exact this
theorem uU {m:ba}:∀{ds:List D},(∀d∈ds,iH m 2 200 d true)->∃rules:List eR,ds=rules.map pairD/\n9 m 40 rules
 |[],_=>{[],rfl,λ_ h=>nomatch h}
 | d::ds,h=>by
   obtain⟨rs,rfl,hr⟩:=uU (ds:=ds) λx j=>h x (Qm _ j);obtain⟨y,z,rfl,_,_,q⟩:=h d Qv;obtain⟨p,e,B⟩:∃p:eR,D.tup [y,z]=pairD p/\lB m 40 p:=by
    generalize u:true=b at q;cases q with
    |one y z v h1 hn=>cases u
    |two y z v h1 h2 hn=>cases u
    |both r s h1 h2=>exact{(r,s),rfl,h1,h2,h1.1,h2.1,of_decide_eq_true u.symm}
   refine{p::rs,by rw[e];rfl,λx j=>?_}
   rcases Qu.mp j with rfl|j
   ·exact B
   ·exact hr x j
section
variable{P:Nat->Option Df}{M:Mem}
set_option tactic.hygienic true in
def xQ (h58:P 58=some {3,9,cL})(n:Nat){m:ba}{rules:List eR}{row:List Nat}{s:BO}(O:eG m rules)(hr:bZ m row):ah P (n+1) 58 [.lst (rules.map pairD),.lst (row.map nD),s.d] M=.ok (oU (fF rules row s)) M:=by
 refine aj (aq h58 rfl ?_);have l1:=hr.1;show ae (cL (ah P n) [some (.lst (rules.map pairD)),some (.lst (row.map nD)),some (.tup [nD s.place,nD s.num,.bl s.back]),none,none,none,none,none,none] M) _;rw[Bo];refine aV rfl ?_;show ae (aC _ _ [some (.lst (rules.map pairD)),some (.lst (row.map nD)),some (.tup [nD s.place,nD s.num,.bl s.back]),some (nD s.place),some (nD s.num),some (.bl s.back),none,none,none] M) _;refine bM (ja (a8 (i4 rfl rfl rfl)) (ja (a8 (i4 rfl rfl rfl)) (ja (a8 (i4 rfl rfl rfl)) (a8 (i4 rfl rfl rfl))))) (λz=>?_) λz=>?_
 ·refine bp rfl {?_,rfl};unfold fF;rw[if_neg (λc=>by simp at z;omega)]
  rfl
 have J:s.place<=row.length:=by simp at z;omega
 have j:s.num<rules.length:=by simp at z;omega
 have F:=ua (O.at j) s.back;have u:∀(H I:Option D),ae (nP [some (.lst (rules.map pairD)),some (.lst (row.map nD)),H,some (nD s.place),some (nD s.num),I,some (.lst (((rules.getD s.num ([],[])).way s.back).1.map nD)),some (.lst (((rules.getD s.num ([],[])).way s.back).2.map nD)),none] M) (fL λx B=>x=oU (fF rules row s)/\B=M):=by
  intro H I;refine aA (DK `a (by have:=F.l1;omega) (by have:=F.l2;omega)) λfl B q=>?_
  have y:fF rules row s=(if (row.drop s.place).take ((rules.getD s.num ([],[])).way s.back).1.length=((rules.getD s.num ([],[])).way s.back).1 then(if (fw row s.place ((rules.getD s.num ([],[])).way s.back).1 ((rules.getD s.num ([],[])).way s.back).2).length<=40 then some (fw row s.place ((rules.getD s.num ([],[])).way s.back).1 ((rules.getD s.num ([],[])).way s.back).2) else none) else none):=by
   unfold fF;rw[if_pos ⟨J,j⟩]
  rw[y];cases fl with
  |next Q=>exact⟨q.2,q.1⟩
  |ret d=>exact⟨q.2,q.1⟩
  |exc x Q=>exact q.elim
 have E:av (aa 0) (aa 4) [some (.lst (rules.map pairD)),some (.lst (row.map nD)),some (.tup [nD s.place,nD s.num,.bl s.back]),some (nD s.place),some (nD s.num),some (.bl s.back),none,none,none] M=.ok (pairD (rules.getD s.num ([],[]))) M:=bA rfl rfl (vm j);refine ay.mpr (Al.mpr ?_);rw[gq (k:=s.back) (x:=pairD ((rules.getD s.num ([],[])).way s.back)) (a8 (ag rfl)) (λv=>by unfold kS;rw[E,v];rfl) (λv=>E.trans (by rw[v];rfl)),aZ]
 exact{_,_,rfl,rfl,u _ _}
def v8 (h58:P 58=some {3,9,cL})(n:Nat){m:ba}{rules:List eR}{row:List Nat}{s:bg}(j:eG m rules)(hr:bZ m row):ah P (n+1) 58 [.lst (rules.map pairD),.lst (row.map nD),s.d] M=.ok (oU (stepI rules row s)) M:=by
 unfold stepI;by_cases c:0<=s.place/\0<=s.num
 ·rw[if_pos c,bg.eq c];exact xQ h58 n j hr
 ·rw[if_neg c];refine aj (aq h58 rfl ?_);show ae (cL (ah P n) [some (.lst (rules.map pairD)),some (.lst (row.map nD)),some s.d,none,none,none,none,none,none] M) _;rw[Bo];refine aV (ρ':=[some (.lst (rules.map pairD)),some (.lst (row.map nD)),some s.d,some (.int s.place),some (.int s.num),some (.bl s.back),none,none,none]) rfl ?_;refine dR (ja (x:=decide (s.num<0)) rfl (ja (x:=decide (((rules.map pairD).length:Int)<=s.num)) rfl (ja (x:=decide (s.place<0)) (y:=decide (((row.map nD).length:Int)<s.place)) rfl rfl)) |>.trans ?_) (bp (v:=.non) rfl ⟨rfl,rfl⟩);have:(decide (s.num<0)||(decide (((rules.map pairD).length:Int)<=s.num)||(decide (s.place<0)||decide (((row.map nD).length:Int)<s.place))))=true:=by
   simp only[Ry,decide_eq_true_eq];omega
  rw[this]
variable(h:HasM P)(ha:pC P)(hr_:Ef P)(hr2:tX P)
include h hr_
theorem xU (n:Nat){m:ba}{x:D}{rules:List eR}{row:List Nat}{s:bg}(j:bF M x row)(y:eG m rules)(hr:bZ m row):ae (ah P (n+2) 55 [.lst (rules.map pairD),x,s.d] M) λd M'=>Sub M M'/\match stepI rules row s with
 |some r=>∃q,d=.cell q/\M.length<=q/\M'[q]?=some (r.map nD)
 |none=>d=.non:=by
 unfold stepI;by_cases c:0<=s.place/\0<=s.num
 ·rw[if_pos c,bg.eq c];exact zZ h hr_ n j y hr
 ·rw[if_neg c];refine aq hr_.behind rfl ?_;show ae (fJ (ah P (n+1)) [some (.lst (rules.map pairD)),some x,some s.d,none,none,none,none,none,none,none] M) _;rw[BK];refine aV (ρ':=[some (.lst (rules.map pairD)),some x,some s.d,some (.int s.place),some (.int s.num),some (.bl s.back),none,none,none,none]) rfl ?_;have u:aH .len #[aa 1] [some (.lst (rules.map pairD)),some x,some s.d,some (.int s.place),some (.int s.num),some (.bl s.back),none,none,none,none] M=.ok (.int row.length) M:=by
   refine aj ?_;simp only[cK,aS,bf,aK];exact{_,rfl,j.len.mpr ⟨rfl,rfl⟩}
  refine dR ((ja (bz (a8 ((aQ (af (ag rfl) (af rfl (af u rfl)))).trans (dX h.toHasM0.toHasB0 n _ _ _)))) (bz (a8 ((aQ (af (ag rfl) (af rfl (af (show _=Res.ok (.int (((rules.map pairD).length:Int)-1)) M from rfl) rfl)))).trans (dX h.toHasM0.toHasB0 n _ _ _))))).trans ?_) (bp (v:=.non) rfl {.refl,rfl});have:(!(decide (0<=s.place)&&decide (s.place<=(row.length:Int)))||!(decide (0<=s.num)&&decide (s.num<=((rules.map pairD).length:Int)-1)))=true:=by
   simp only[Ry,RI,Bool.and_eq_false_iff,decide_eq_false_iff_not];omega
  rw[this]
include ha hr2
theorem xP (n:Nat){m:ba}{x:D}{rules:List eR}{row:List Nat}{ss:List bg}(X:bF M x row)(hm:bh m)(I:eG m rules)(hr:bZ m row)(hss:ss.length<=1000) :
 iJ (ah P (n+15) 56 [m.d,.lst (rules.map pairD),x,.lst (ss.map bg.d)] M) (λd M'=>Sub M M'/\∃q r,d=.cell q/\fc rules ss 0 row=.inl r/\bZ m r/\M'[q]?=some (r.map nD)) (λy M'=>Sub M M'/\∃i:Nat,y=.exc 2 (some (i:Int))/\fc rules ss 0 row=.inr i):=by
 refine eP hr_.stepped rfl ?_;show ae (d7 (ah P (n+14)) [some m.d,some (.lst (rules.map pairD)),some x,some (.lst (ss.map bg.d)),none,none,none,none] M) _;unfold d7;simp only[ay,fG,dJ,aS,bf,aK];refine{_,rfl,_,rfl,?_};rw[mz h.toHasM0 (n+5) X hm hr];show ae (aC _ _ [some m.d,some (.lst (rules.map pairD)),some x,some (.lst (ss.map bg.d)),none,none,none,none] M) _;simp only[ay,fG,dJ,aS,bf,aK];refine{_,rfl,_,rfl,?_};obtain⟨d,E,e,rfl,U⟩:=ic.mp (CK h ha hr2 n (M:=M) (k:=2) (L:=200) (ds:=rules.map pairD) hm `d λd hd=>by
  obtain⟨p,hp,rfl⟩:=QS.mp hd;exact wV hm (I.ok p hp))
 rw[e];show ae (aC _ _ [some m.d,some (.lst (rules.map pairD)),some x,some (.lst (ss.map bg.d)),none,none,none,none] E) _;have l1:=hr.1;refine bq (k:=λd M'=>d=.cell E.length/\M'=E++[row.map nD]) ?_ ?_
 ·simp only[cK,aS,bf,aK];exact{_,rfl,(X.sub U).list.mpr (iV.mpr {au `o,rfl,rfl})}
 rintro _ _ ⟨rfl,rfl⟩;simp only[ay,cP,fE,aK];refine{_,rfl,rfl,?_};refine eM (ds:=dH 0 (ss.map bg.d)) (λj fl M'=>Sub M M'/\((∃q r,M'[q]?=some (r.map nD)/\bZ m r/\fc rules ss 0 row=fc rules (ss.drop j) j r/\∃O Q B,fl=.next [some m.d,some (.lst (rules.map pairD)),some x,some (.lst (ss.map bg.d)),some (.cell q),O,Q,B])\/(∃(i:Nat) (R:Env),fc rules ss 0 row=.inr i/\fl=.exc (.exc 2 (some (i:Int))) R))) (λ_ _ _ e=>rfl) {U.trans .app,.inl {_,row,oX,hr,rfl,_,_,_,rfl}} ?_ ?_
 ·rintro j e fl M' he ⟨S,J⟩;rw[cj,QK] at he;obtain⟨y,hy,rfl⟩:=Qr.mp he;obtain⟨st,z,rfl⟩:=Qr.mp hy;have Y:=(Qg.mp z).1;rcases J with⟨q,r,eq,v,u,O,Q,B,rfl⟩|⟨i,R,u,rfl⟩
  ·show ae (aC _ _ [some m.d,some (.lst (rules.map pairD)),some x,some (.lst (ss.map bg.d)),some (.cell q),some (.int ((0+j:Nat):Int)),some st.d,B] M') _;rw[RS];rw[rX z] at u;refine bq (k:=λd F=>Sub M' F/\match stepI rules r st with|some r=>∃q,d=.cell q/\M'.length<=q/\F[q]?=some (r.map nD)|none=>d=.non) ?_ ?_
   ·rw[aQ (af (ag rfl) (af (ag rfl) (af (ag rfl) rfl)))];exact xU h hr_ (n+12) (bF.c eq) I v
   ·rintro d F ⟨W,hd⟩;cases e:stepI rules r st with
    | none=>
      rw[e] at hd u;obtain rfl:d=.non:=hd;refine dR rfl ?_;simp only[ay,ku,aK];exact{_,rfl,_,rfl,`a,S.trans W,.inr {_,_,u,rfl}}
    | some r2=>
      rw[e] at hd u;obtain⟨q2,rfl,_,H⟩:=hd;exact ax rfl (aV (bV (ag rfl)) {S.trans W,.inl {q2,r2,H,um I v e,u,_,_,_,rfl}})
  ·exact{S,.inr {_,_,u,rfl}}
 ·rintro fl M' ⟨S,J⟩;rcases J with⟨q,r,eq,v,u,O,Q,B,rfl⟩|⟨i,R,u,rfl⟩
  ·have l2:(dH 0 (ss.map bg.d)).length=ss.length:=by rw[dm,Qk]
   rw[l2,List.drop_length] at u;exact⟨S,q,r,rfl,u,v,eq⟩
  ·exact⟨S,i,rfl,u⟩
end
section
variable{P:Nat->Option Df}{M:Mem}
def Mv (h106:P 106=some {4,7,cY})(n:Nat){d x y z v:D}{M':Mem}(e:ah P n 56 [d,x,y,z] M=.ok v M'):ah P (n+1) 106 [d,x,y,z] M=.ok (.lst [.str "told",v]) M':=by
 refine aR (aq h106 rfl ?_);show ae (cY (ah P n) [some d,some x,some y,some z,none,none,none] M) _;unfold cY;refine aV (bV rfl) (aV (bV rfl) ?_);show ae (aC _ _ [some d,some x,some y,some z,some .non,some .non,none] M) _;simp only[ay,Aj,wG,dJ,aS,bf,aK];refine{_,rfl,_,rfl,_,rfl,_,rfl,?_};rw[e];exact⟨rfl,rfl⟩
def pM (h106:P 106=some {4,7,cY})(h75:P 75=some {1,3,dF})(n:Nat){d x y z v:D}{M':Mem}{i:Int}(j:v∈jz i)(e:ah P (n+1) 56 [d,x,y,z] M=.err v M'):ah P (n+2) 106 [d,x,y,z] M=.ok (lP v) M':=by
 have er:=xR h75 n (M:=M') j;obtain⟨c,p,rfl⟩:=Dz j;refine aR (aq h106 rfl ?_);show ae (cY (ah P (n+1)) [some d,some x,some y,some z,none,none,none] M) _;unfold cY;refine aV (bV rfl) (aV (bV rfl) ?_);show ae (aC _ _ [some d,some x,some y,some z,some .non,some .non,none] M) _;simp only[ay,Aj,wG,dJ,aS,bf,aK];refine{_,rfl,_,rfl,_,rfl,_,rfl,?_};rw[e];show ae (#v[aD (cT (ao (az .isN (aa 4) gN)) (aG false #[gS "told",aa 5]) (ai 75 (ah P (n+1)) #[aa 4]))] [some d,some x,some y,some z,some (.exc c p),some .non,none] M') _;refine bp ?_ ⟨rfl,rfl⟩;show ai 75 (ah P (n+1)) #[aa 4] [some d,some x,some y,some z,some (.exc c p),some .non,none] M'=_;exact gO rfl er
def zO (j:P 56=some {4,8,d7})(n:Nat){d x y z v:D}(e:ah P n 18 [d,y] M=.err v M):ah P (n+1) 56 [d,x,y,z] M=.err v M:=by
 refine fo (eP j rfl ?_);show ae (d7 (ah P n) [some d,some x,some y,some z,none,none,none,none] M) _;unfold d7;simp only[ay,fG,dJ,aS,bf,aK];refine{_,rfl,_,rfl,?_};rw[e];exact⟨rfl,rfl⟩
def Gv (j:P 56=some {4,8,d7})(n:Nat){d x y z v:D}{M':Mem}(e:ah P n 18 [d,y] M=.ok .non M)(e2:ah P n 54 [d,x] M=.err v M'):ah P (n+1) 56 [d,x,y,z] M=.err v M':=by
 refine fo (eP j rfl ?_);show ae (d7 (ah P n) [some d,some x,some y,some z,none,none,none,none] M) _;unfold d7;simp only[ay,fG,dJ,aS,bf,aK];refine{_,rfl,_,rfl,?_};rw[e];show ae (aC _ _ [some d,some x,some y,some z,none,none,none,none] M) _;simp only[ay,fG,dJ,aS,bf,aK];refine{_,rfl,_,rfl,?_};rw[e2];exact⟨rfl,rfl⟩
end
def DJ (V:Sum (List Nat) Nat):D:=match V with
 |.inl r=>.lst [.str "told",aP r]
 |.inr i=>.lst [.str "step",nD i]
structure FY (P:Nat->Option Df):Prop where
 m:HasM P
 a:pC P
 r:tX P
 w:ki P
 b:HasB P
 s:jh P
 h44:P 44=some {2,5,da}
 h75:P 75=some {1,3,dF}
 h90:P 90=some {2,4,bT}
 p:HasP P
 t:HasT P
 r1:Ef P
 h35:P 35=some {3,6,d4}
 h49:P 49=some {2,7,cZ}
 h58:P 58=some {3,9,cL}
 h101:P 101=some {2,5,cX}
 h106:P 106=some {4,7,cY}
 h107:P 107=some {4,11,du}
 h108:P 108=some {3,7,fR}
 h109:P 109=some {1,21,n5}
section
variable{P:Nat->Option Df}{M:Mem}{m:ba}{k L:Nat}
def rn (H:HasM0 P)(hw:ki P)(W:HasB P)(h90:P 90=some {2,4,bT})(h44:P 44=some {2,5,da})(n:Nat){x1 x2 x3 x4 x7 x8 x9 x10:Option D}{d:D}{b:Bool}{j:Nat}(hm:bh m)(B:L<=900000)(hd:iH m k L d b) :
 ae (vt (ah P (n+6)) [some m.d,x1,x2,x3,x4,some (nD j),some d,x7,x8,x9,x10] M) λfl M'=>Sub M M'/\if b=true then ∃I,fl=.next [some m.d,x1,x2,x3,x4,some (nD j),some d,I,x8,x9,x10] else fl=.ret (.lst [.str "rule",nD j]):=by
 obtain⟨y,z,rfl,Q,U,hr⟩:=hd;have er:ae (az .ne (bL false 1 (.one 0) (dY (aa 6)) (ll (ao (az .notN (ai 90 (ah P (n+6)) #[aa 1,aa 0]) gN)) (bN (gI 1)))) (aG false b9) [some m.d,x1,x2,x3,x4,some (nD j),some (.tup [y,z]),x7,x8,x9,x10] M) λd M'=>d=.bl (!(isOk (eO m y)&&isOk (eO m z)))/\M'=M:=by
  refine Hl (ds:=[y,z]) (λx=>isOk (eO m x)) ?_ (au (n:=2) `d) (λd hd=>?_) ?_
  ·simp only[lF,aK];refine{_,rfl,?_};simp;exact⟨rfl,rfl⟩
  ·have E:Th (k+1) L d:=by
    simp only[Qu,QL,or_false] at hd;rcases hd with rfl|rfl
    ·exact Q
    ·exact U
   have hs:=iS (m:=m) E;have e:=pO hw h90 n (M:=M) hm E B hs;have ec:ai 90 (ah P (n+6)) #[aa 1,aa 0] [some d,some m.d,x1,x2,x3,x4,some (nD j),some (.tup [y,z]),x7,x8,x9,x10] M=.ok (lP (eO m d)) M:=(aQ (af (ag rfl) (af (ag rfl) rfl))).trans e;have eb:kF (lP (eO m d))=isOk (eO m d):=by
    by_cases q:eO m d=.non
    ·rw[q];rfl
    ·rw[wK hs q];generalize eO m d=v at q;cases v<;>first|rfl|exact absurd rfl q
   have et:(ao (az .notN (ai 90 (ah P (n+6)) #[aa 1,aa 0]) gN):GT) [some d,some m.d,x1,x2,x3,x4,some (nD j),some (.tup [y,z]),x7,x8,x9,x10] M=.ok (!kF (lP (eO m d))) M:=by
    unfold ao az;rw[ec];rfl
   rw[et,eb]
  ·exact{`s,rfl}
 have rt:∀M':Mem,Sub M M'->∀(I:Option D) (rest:GS),ae (#v[aD (aG false #[gS "rule",aa 5])] [some m.d,x1,x2,x3,x4,some (nD j),some (.tup [y,z]),I,x8,x9,x10] M') (gi rest λfl M'=>Sub M M'/\fl=.ret (.lst [.str "rule",nD j])):=λM' S I rest=>bp (eB (af rfl (af (ag rfl) rfl)) (Qx rfl)) ⟨S,rfl⟩;unfold vt;refine bq er ?_;rintro _ M0 ⟨rfl,e0⟩;rw[e0];have no:isOk (eO m y)=false\/isOk (eO m z)=false->∀A:GT,(cq (ao (aa 7)) A:GT) [some m.d,x1,x2,x3,x4,some (nD j),some (.tup [y,z]),some (.bl (!(isOk (eO m y)&&isOk (eO m z)))),x8,x9,x10] M=.ok true M:=λq A=>by
  rcases q with q|q
  ·rw[q];rfl
  ·rw[q,Bool.and_false];rfl
 cases hr with
 |one y z v h1 hn=>exact dR (no (.inl (wD H hm Q B h1 hn)) _) (rt _ .refl _ _)
 |two y z v h1 h2 hn=>exact dR (no (.inr (wD H hm U B h2 hn)) _) (rt _ .refl _ _)
 | both r s h1 h2=>
   rw[uD H hm Q B (.ok r h1),uD H hm U B (.ok s h2)];have F:ae ((cq (ao (aa 7)) (ao (az .ne (ai 44 (ah P (n+6)) #[aa 0,av (aa 6) (gI 0)]) (ai 44 (ah P (n+6)) #[aa 0,av (aa 6) (gI 1)]))):GT) [some m.d,x1,x2,x3,x4,some (nD j),some (.tup [aP r,aP s]),some (.bl (!(true&&true))),x8,x9,x10] M) λb M'=>b=!decide (ends m r=ends m s)/\Sub M M':=by
    simp only[Ck,eV,aK];refine{_,rfl,false,rfl,?_};show ae (az .ne _ _ _ M) _;rw[dw,aQ (af (ag rfl) (af (show av (aa 6) (gI 0) [some m.d,x1,x2,x3,x4,some (nD j),some (.tup [aP r,aP s]),some (.bl (!(true&&true))),x8,x9,x10] M=.ok (aP r) M from rfl) rfl))];refine aA (iP W h44 (n+4) (M:=M) hm h1.2) ?_;rintro d J ⟨O,X⟩;subst O;rw[aQ (af (ag rfl) (af (show av (aa 6) (gI 1) [some m.d,x1,x2,x3,x4,some (nD j),some (.tup [aP r,aP s]),some (.bl (!(true&&true))),x8,x9,x10] J=.ok (aP s) J from rfl) rfl))];refine aA (iP W h44 (n+4) (M:=J) hm h2.2) ?_;rintro d M2 ⟨O,Y⟩;subst O;exact{_,sM,_,rfl,rfl,X.trans Y}
   by_cases q:ends m r=ends m s
   ·simp only[q,decide_true,Bool.not_true] at F ⊢;exact lj (R:=λu=>Sub M u) F λu S=>{S,_,rfl}
   ·simp only[q,decide_false,Bool.not_false] at F ⊢;exact ve (R:=λu=>Sub M u) F λu S=>rt _ S _ _
def HQ (h58:P 58=some {3,9,cL})(n:Nat){x0 x4 x5 x6 x7 x8 x9 x10:Option D}{rules:List eR}{row:List Nat}{ss:List bg}(F:eG m rules)(hr:bZ m row) :
 ae (DM (ah P (n+1)) [x0,some (.lst (rules.map pairD)),some (aP row),some (.lst (ss.map bg.d)),x4,x5,x6,x7,x8,x9,x10] M) λfl M'=>M'=M/\fl=.ret (DJ (fc rules ss 0 row)):=by
 unfold DM;refine aV (bV (ag rfl)) ?_;show ae (aC _ _ [x0,some (.lst (rules.map pairD)),some (aP row),some (.lst (ss.map bg.d)),x4,x5,x6,x7,some (aP row),x9,x10] M) _;simp only[ay,cP,fE,aK];refine{_,rfl,rfl,?_};refine nN (ds:=dH 0 (ss.map bg.d)) (λj E M'=>M'=M/\∃r,bZ m r/\fc rules ss 0 row=fc rules (ss.drop j) j r/\∃x9 x10,E=[x0,some (.lst (rules.map pairD)),some (aP row),some (.lst (ss.map bg.d)),x4,x5,x6,x7,some (aP r),x9,x10]) (λd M'=>M'=M/\d=DJ (fc rules ss 0 row)) (λ_ _ _ e=>rfl) (λ_ _ _=>rfl) {rfl,row,hr,rfl,_,_,rfl} ?_ ?_ ?_
 ·rintro j e E M' he ⟨rfl,r,v,u,I,B,rfl⟩;rw[cj,QK] at he;obtain⟨y,H,rfl⟩:=Qr.mp he;obtain⟨st,z,rfl⟩:=Qr.mp H;rw[rX z] at u;refine{_,rfl,?_};show ae (aC _ _ [x0,some (.lst (rules.map pairD)),some (aP row),some (.lst (ss.map bg.d)),x4,x5,x6,x7,some (aP r),some (.int ((0+j:Nat):Int)),some st.d] M') _;rw[RS];refine aV (bV (NP rfl rfl rfl (v8 h58 n F v))) ?_;cases e:stepI rules r st with
  | none=>
    rw[e] at u;refine dR rfl (bp (eB (af rfl (af (ag rfl) rfl)) (Qx rfl)) (.inr {_,rfl,rfl,?_}));rw[u];rfl
  | some r2=>
    rw[e] at u;exact ax rfl (.inl {_,rfl,rfl,r2,um F v e,u,_,_,rfl})
 ·rintro E M' ⟨rfl,r,v,u,I,B,rfl⟩;have l2:(dH 0 (ss.map bg.d)).length=ss.length:=by rw[dm,Qk]
  rw[l2,List.drop_length] at u;refine cH.mpr ?_;refine bp (eB (af rfl (af (ag rfl) rfl)) (Qx rfl)) {rfl,?_};rw[u];rfl
 ·rintro d M' ⟨rfl,rfl⟩;exact⟨rfl,rfl⟩
variable(h:FY P)
include h
theorem vv (n:Nat){d x y z v:D}(e:ah P n 90 [d,y] M=.ok v M)(j:kF v=false):ah P (n+1) 107 [d,x,y,z] M=.ok v M:=by
 refine aj (aq h.h107 rfl ?_);show ae (du (ah P n) [some d,some x,some y,some z,none,none,none,none,none,none,none] M) _;unfold du;refine aV (bV (eJ rfl rfl e)) ?_;have t:(ao (az .notN (aa 4) gN):GT) [some d,some x,some y,some z,some v,none,none,none,none,none,none] M=.ok (!kF v) M:=rfl;rw[j] at t;exact bt t (ag rfl) ⟨rfl,rfl⟩
theorem Bp (n:Nat){y z:D}{ds:List D}{i:Nat}{x:D}(e:ah P (n+6) 90 [m.d,y] M=.ok .non M)(hm:bh m)(E:L<=900000)(F:ds[i]?=some x)(hf:iH m k L x false)(I:∀j y,j<i->ds[j]?=some y->iH m k L y true) :
 ae (ah P (n+7) 107 [m.d,.lst ds,y,z] M) λd M'=>d=.lst [.str "rule",nD i]/\Sub M M':=by
 refine aq h.h107 rfl ?_;show ae (du (ah P (n+6)) [some m.d,some (.lst ds),some y,some z,none,none,none,none,none,none,none] M) _;unfold du;refine aV (bV (eJ rfl rfl e)) (ax rfl ?_);show ae (aC _ _ [some m.d,some (.lst ds),some y,some z,some .non,none,none,none,none,none,none] M) _;simp only[ay,cP,fE,aK];refine{_,rfl,rfl,?_};refine eM (ds:=dH 0 ds) (λj fl M'=>Sub M M'/\((j<=i/\∃a b c,fl=.next [some m.d,some (.lst ds),some y,some z,some .non,a,b,c,none,none,none])\/(i<j/\fl=.ret (.lst [.str "rule",nD i])))) (λ_ _ _ e=>rfl) {.refl,.inl {RN _,_,_,_,rfl}} ?_ ?_
 ·rintro j e fl M' he ⟨S,u⟩;rw[cj] at he;obtain⟨w,B,rfl⟩:=Qr.mp he;rcases u with⟨u,a,b,c,rfl⟩|⟨u,rfl⟩
  ·show ae (vt _ [some m.d,some (.lst ds),some y,some z,some .non,some (.int ((0+j:Nat):Int)),some w,c,none,none,none] M') _;rw[RS];by_cases c:j=i
   ·subst c;rw[F] at B;cases B;exact aA (rn h.m.toHasM0 h.w h.b h.h90 h.h44 n hm E hf) (by rintro fl H ⟨v,e⟩;exact{S.trans v,.inr {Nat.lt_succ_self _,e}})
   ·exact aA (rn h.m.toHasM0 h.w h.b h.h90 h.h44 n hm E (I j w `a B)) (by rintro fl H ⟨v,O,e⟩;exact{S.trans v,.inl {`a,_,_,_,e}})
  ·exact{S,.inr {`a,rfl}}
 ·rintro fl M' ⟨S,u⟩;have J:=(Qg.mp F).1;have:(dH 0 ds).length=ds.length:=dm ds 0;rcases u with⟨u,_⟩|⟨_,rfl⟩
  ·omega
  ·exact⟨rfl,S⟩
theorem yO (n:Nat){rules:List eR}{row:List Nat}{ss:List bg}(hm:bh m)(u:eG m rules)(hr:bZ m row) :
 ae (ah P (n+7) 107 [m.d,.lst (rules.map pairD),aP row,.lst (ss.map bg.d)] M) λd M'=>d=DJ (fc rules ss 0 row)/\Sub M M':=by
 refine aq h.h107 rfl ?_;show ae (du (ah P (n+6)) [some m.d,some (.lst (rules.map pairD)),some (aP row),some (.lst (ss.map bg.d)),none,none,none,none,none,none,none] M) _;unfold du;have t:Th 3 200 (aP row):=((kZ hm hr.2 hr.1).lst `d).th
 refine aV (bV (eJ rfl rfl (pO h.w h.h90 n (M:=M) hm t `d (.ok row hr)))) (ax rfl ?_)
 show ae (aC _ _ [some m.d,some (.lst (rules.map pairD)),some (aP row),some (.lst (ss.map bg.d)),some .non,none,none,none,none,none,none] M) _;simp only[ay,cP,fE,aK];refine{_,rfl,rfl,?_};refine cV (ds:=dH 0 (rules.map pairD)) (λi j M'=>Sub M M'/\∃a b c,j=[some m.d,some (.lst (rules.map pairD)),some (aP row),some (.lst (ss.map bg.d)),some .non,a,b,c,none,none,none]) (λ_ _ _ _=>rfl) {.refl,_,_,_,rfl} ?_ ?_
 ·rintro i e j M' he ⟨S,a,b,c,rfl⟩;rw[cj,QK] at he;obtain⟨w,E,rfl⟩:=Qr.mp he;obtain⟨p,B,rfl⟩:=Qr.mp E;refine{_,rfl,?_};show ae (vt _ [some m.d,some (.lst (rules.map pairD)),some (aP row),some (.lst (ss.map bg.d)),some .non,some (.int ((0+i:Nat):Int)),some (pairD p),c,none,none,none] M') _;rw[RS];exact aA (rn h.m.toHasM0 h.w h.b h.h90 h.h44 n hm `d (wV hm (u.ok p (QG B)))) (by rintro fl v ⟨y,F,e⟩;exact{_,e,S.trans y,_,_,_,rfl})
 ·rintro j M' ⟨S,a,b,c,rfl⟩;exact aA (HQ h.h58 (n+5) u hr) λfl v ⟨e,z⟩=>by rw[z,e];exact⟨rfl,S⟩
end
def JU {ds:List D}(hl:ds.length<=9)(j:∀d∈ds,Pr d):Th 5 200 (.lst ds):=.lst_of `a λd hd=>(j d hd).th
section
variable{P:Nat->Option Df}{M:Mem}{m:ba}
def uE (hs:jh P)(n:Nat){a x y:D}(e1:ah P n 40 [a,a] M=.ok (.bl true) M)(e2:ah P n 40 [x,y] M=.ok (.bl true) M):ah P (n+1) 40 [.lst [a,x],.lst [a,y]] M=.ok (.bl true) M:=by
 refine aj (aq hs.same rfl ?_);show ae (cw (ah P n) [some (.lst [a,x]),some (.lst [a,y])] M) _;unfold cw;refine ax rfl (ax rfl (ax rfl (ax rfl (ax rfl (ax rfl ?_)))));simp only[ay,cu,dw,cW,fi,IK,aK];refine{_,rfl,_,rfl,rfl,?_};refine fW (ds:=[.tup [a,a],.tup [x,y]]) (λ_=>.bl true) (au (n:=2) `d) rfl ?_ ?_
 ·intro d hd;rcases Qu.mp hd with rfl|hd
  ·exact{_,rfl,(aQ (af (ag rfl) (af (ag rfl) rfl))).trans e1}
  ·rw[Qz.mp hd];exact{_,rfl,(aQ (af (ag rfl) (af (ag rfl) rfl))).trans e2}
 ·exact a9.mpr {au (n:=2) `d,_,qc (ds:=[a,a]),rfl,rfl}
def DL (y:ki P)(h90:P 90=some {2,4,bT})(n:Nat){k L:Nat}{d x:D}(hd:Th k L d)(hk:k<=60)(u:L+1<=100)(v:ik d=false):ah P (n+6) 90 [d,x] M=.ok (.lst [.str "machine"]) M:=by
 refine aj (aq h90 rfl ?_);show ae (bT (ah P (n+5)) [some d,some x,none,none] M) _;unfold bT;have j:=rZ y n (M:=M) hd hk u;rw[v] at j;exact bt (bz (b:=false) (a8 (gO rfl j))) rfl ⟨rfl,rfl⟩
def wF (hs:jh P)(n:Nat){z:Str}{i:Int}(hz:aE 64 (.str z)=true):ah P (n+2) 40 [.lst [.str z,.int i],.lst [.str z,.int i]] M=.ok (.bl true) M:=uE hs (n+1) (ko hs n hz) (rY hs n i)
variable(h:FY P)
include h
theorem LS {k L:Nat}{t o:D}{ds:List D}{ss:List bg}(Q:Th k L t)(hk:k<=60)(R:L+1<=100)(hl:ds.length<=9)(U:∀d∈ds,Pr d)(ho:Thing o)(hs:ss.length<=3) :
 ae (ah P 39 106 [t,.lst ds,o,.lst (ss.map bg.d)] M) λx M1=>Sub M M1/\ae (ah P 39 107 [t,.lst ds,o,.lst (ss.map bg.d)] M1) λy z=>Sub M1 z/\ah P 39 40 [x,y] z=.ok (.bl true) z:=by
 cases F:ik t with
 | false=>
   rw[pM h.h106 h.h75 37 (i:=0) (v:=.exc 3 none) (by simp[jz]) (zO h.r1.stepped 37 (CM h.m.toHasM0 28 Q `a F)),aZ]
   rw[vv h 38 (DL h.w h.h90 32 Q hk R F) rfl,aZ];exact{.refl,.refl,Ah h.s 37 `k}
 | true=>
   obtain⟨m,rfl,hm⟩:=Hv F;have u:=iS (m:=m) ho.th;generalize eO m o=v at u;by_cases hn:v=.non
   ·subst hn;cases u with
    | ok r hr=>
      rcases sF (λd hd=>(U d hd).rule (m:=m)) with q|⟨i,x,h1,h2,h3⟩
      ·obtain⟨j,rfl,ok⟩:=uU q;have J:eG m j:={ok,by rw[Qk] at hl;omega}
       have st:=xP h.m h.a h.r1 h.r 23 (M:=M) (x:=aP r) .l hm J hr (ss:=ss) `a
       have I:=λM1=>yO h 32 (M:=M1) hm J hr (ss:=ss);cases e:ah P 38 56 [m.d,.lst (j.map pairD),aP r,.lst (ss.map bg.d)] M with
       |bad=>rw[e] at st;exact st.elim
       | ok d M1=>
         rw[e] at st;obtain⟨S,q,r2,rfl,E,H,eq⟩:=st;rw[Mv h.h106 38 e,aZ];refine{S,aA (I M1) ?_};rintro _ z ⟨rfl,B⟩;rw[E];exact{B,uE h.s 38 (ko h.s 37 `k) (zU h.s 36 (.c (B.get eq)) .l (by have:=H.1;omega))}
       | err y M1=>
         rw[e] at st;obtain⟨S,i,rfl,E⟩:=st;rw[pM h.h106 h.h75 37 (i:=(i:Int)) (by simp[jz]) e,aZ]
         refine{S,aA (I M1) ?_};rintro _ z ⟨rfl,B⟩;rw[E];exact{B,wF h.s 37 `k}
      ·have O:=(Qg.mp h1).1;have q:=Ao h.m h.a h.r 23 (M:=M) hm `d h1 h2 h3 `a
       cases e:ah P 37 54 [m.d,.lst ds] M with
       |ok d W=>rw[e] at q;exact q.elim
       |bad=>rw[e] at q;exact q.elim
       | err y M1=>
         rw[e] at q;obtain⟨rfl,S⟩:=q;rw[pM h.h106 h.h75 37 (i:=(i:Int)) (by simp[jz]) (Gv h.r1.stepped 37 (nE h.m.toHasM0 28 hm (.ok r hr)) e),aZ]
         refine{S,aA (Bp h 32 (M:=M1) (pO h.w h.h90 32 hm ho.th `d (.ok r hr)) hm `d h1 h2 h3) ?_}
         rintro _ z ⟨rfl,B⟩;exact{B,wF h.s 37 `k}
   ·obtain⟨i,O⟩:=CI u hn;rw[pM h.h106 h.h75 37 O (zO h.r1.stepped 37 (lS h.m.toHasM0 28 hm ho.th `d u hn)),aZ]
    rw[vv h 38 (pO h.w h.h90 32 hm ho.th `d u) (wK u hn),aZ]
    exact{.refl,.refl,Ai h.s 37 u hn}
theorem xV (n:Nat){p B:Nat}{ds:List D}{row:List Nat}(hl:ds.length<=20)(hr:row.length<=40)(W:aF M p B)(hB:B<=600000):ae (ah P (n+3) 108 [.cell p,.lst ds,aP row] M) λd M'=>∃s:bg,d=s.d/\aF M' p (B+6)/\aU p M M':=by
 refine aq h.h108 rfl ?_;show ae (fR (ah P (n+2)) [some (.cell p),some (.lst ds),some (aP row),none,none,none,none] M) _;unfold fR;refine ez h.p n (many:=4) rfl rfl W `a `d `d λkind Q hk q1 k1=>?_
 refine bq (k:=λd M'=>∃i:Int,d=.int i/\aF M' p (B+1+1)/\aU p Q M') ?_ ?_
 ·refine aA (Du h.p n (many:=4) (xs:=[.int (-1),nD ds.length,.int (10^20),.int (-1-(ds.length:Int))]) rfl rfl q1 `a `d `d (eB (af rfl (af rfl (af rfl (af rfl rfl)))) (Qx rfl)) rfl) ?_
  rintro d M' ⟨hd,q,kk⟩;simp only[Qu,QL,or_false] at hd;rcases hd with rfl|rfl|rfl|rfl<;>exact{_,rfl,q,kk}
 rintro _ H ⟨j,rfl,q2,k2⟩;refine bq (k:=λd M'=>∃i:Int,d=.int i/\aF M' p (B+4)/\aU p H M') ?_ ?_
 ·show ae (av (aG false (ix (ak false .sub (ak false .sub (ai 31 (ah P (n+2)) #[aa 0,ak false .add (ak false .mul (gI 2) (aH .len #[aa 2])) (gI 4)]) (aH .len #[aa 2])) (gI 2)) _)) _ [some (.cell p),some (.lst ds),some (aP row),some (nD kind),some (.int j),none,none] H) _;have R:ak false .add (ak false .mul (gI 2) (aH .len #[aa 2])) (gI 4) [some (.cell p),some (.lst ds),some (aP row),some (nD kind),some (.int j),none,none] H=.ok (nD (2*row.length+4)) H:=by
   refine aj ?_;rw[cx,cx];simp only[cW];rw[ip (ds:=row.map nD) rfl,aZ];refine KA.mpr {.inl {`d,`d},iG.mpr {?_,rfl}}
   rw[Qk];show D.int _=D.int _
   congr 1
  rw[jI,iy,aS,cx,cx];refine aA (dB h.p n (many:=2*row.length+4) rfl R q2 `a `a `a) ?_
  rintro _ y ⟨v,rfl,hv,I,F⟩;rw[ip (ds:=row.map nD) rfl,aZ];refine mx.mpr ?_;simp only[cW];refine mx.mpr ?_;rw[af (xs:=[.int 0,nD (row.map nD).length]) rfl rfl,aZ];refine a9.mpr {au (n:=4) `d,?_}
  refine aA (dB h.p n (many:=4) rfl rfl I `a `d `d) ?_
  rintro _ J ⟨u,rfl,X,E,z⟩
  match u,X with
  |0,_=>exact{_,rfl,_,rfl,E,F.trans z}
  |1,_=>exact{_,rfl,_,rfl,E,F.trans z}
  |2,_=>exact{_,rfl,_,rfl,E,F.trans z}
  |3,_=>exact{_,rfl,_,rfl,E,F.trans z}
 rintro _ y ⟨pl,rfl,I,F⟩;show ae (aC _ _ [some (.cell p),some (.lst ds),some (aP row),some (nD kind),some (.int j),some (.int pl),none] y) _;refine bq (k:=λd M'=>∃i:Int,d=.int i/\aF M' p (B+5)/\aU p y M') ?_ ?_
 ·have S:(ao (az .eq (aa 3) (gI 0)):GT) [some (.cell p),some (.lst ds),some (aP row),some (nD kind),some (.int j),some (.int pl),none] y=.ok ((kind:Int)==0) y:=rfl;rw[FA,S,aZ];split
  ·simp only[aK];exact{_,rfl,_,rfl,I.mono `a,.refl}
  ·have L:yI #[gI 1,aH .len #[aa 1]] [some (.cell p),some (.lst ds),some (aP row),some (nD kind),some (.int j),some (.int pl),none] y=.ok (nD (if 1<ds.length then ds.length else 1)) y:=by
    show Res.ok (D.int (if (ds.length:Int) > 1 then(ds.length:Int) else 1)) y=_;by_cases c:1<ds.length
    ·rw[if_pos (show(ds.length:Int) > 1 by omega),if_pos c]
    ·rw[if_neg (show ¬ (ds.length:Int) > 1 by omega),if_neg c];rfl
   refine aA (dB h.p n rfl L I `a (by split<;>omega) (by split<;>omega)) ?_
   rintro _ J ⟨v,rfl,_,E,z⟩;exact{_,rfl,E,z}
 rintro _ J ⟨O,rfl,E,z⟩;show ae (aC _ _ [some (.cell p),some (.lst ds),some (aP row),some (nD kind),some (.int j),some (.int pl),some (.int O)] J) _;refine ft ?_;simp only[gu,aS,bf,aK,dw];refine{_,rfl,_,rfl,?_};refine aA (dB h.p n (many:=2) rfl rfl E `a `d `d) ?_
 rintro _ M5 ⟨bk,rfl,U,q5,Y⟩;simp only[cW];exact{_,rfl,au (n:=3) `d,{pl,O,_},rfl,q5,(((k1.trans k2).trans F).trans z).trans Y}
omit h in
theorem fb {Z:Env}{a b c d:GE}{x y z w:D}(e1:a Z M=.ok x M)(e2:b Z M=.ok y M)(j:c Z M=.ok z M)(u:d Z M=.ok w M):bc #[a,b,c,d] Z M=.ok (.tup [x,y,z,w]) M:=by
 unfold bc;rw[af e1 (af e2 (af j (af u rfl)))];exact(if_pos (au (n:=4) `d):(if 4<=sz then Res.ok (D.tup [x,y,z,w]) M else .bad)=_)
omit h in
theorem Ij {Z:Env}{j:Nat}{o:D}(e:Z[j]?.getD none=some o)(ho:Thing o):cT (ao (bD .list (aa j))) (aH (.list false) #[aa j]) (aa j) Z M=.ok o M:=by
 have v:bD .list (aa j) Z M=(b8 M (bY .list o)).bind λb M=>.ok (.bl b) M:=by unfold bD;rw[ag e];rfl
 have u:=ho.th;cases o with
 | lst xs=>
   refine gq (k:=true) (a8 (v.trans rfl)) (λ_=>?_) (λz=>nomatch z);refine aj ?_;simp only[cK,aS,bf,aK];exact{_,e,j6.mpr (a9.mpr {au (by have:=u.1;omega),rfl,rfl})}
 |frz y=>exact u.elim
 |cell k=>exact u.elim
 |fn k=>exact u.elim
 |exc k p=>exact u.elim
 |_=>exact gq (k:=false) (a8 (v.trans rfl)) (λz=>nomatch z) (λ_=>ag e)
def zh (c:D):Prop:=∃t j o u,c=.tup [t,.lst j,o,.lst ((u:List bg).map bg.d)]/\Th 7 7 t/\j.length<=9/\(∀d∈j,Pr d)/\Thing o/\u.length<=3
def FI (c:Call):GS:=#v[aw (.one 19) (aG false #[ai 57 c #[aa 16],cT (ao (bD .list (aa 17))) (aH (.list false) #[aa 17]) (aa 17),aH (.list false) #[aa 18]]),aw (.one 20) (ai 106 c #[aa 15,av (aa 19) (gI 0),av (aa 19) (gI 1),av (aa 19) (gI 2)]),aL (cq (bB (ao (ai 40 c #[aa 20,ai 107 c #[aa 15,aa 16,aa 17,aa 18]]))) (ao (az .ne (aa 19) (aG false #[aa 16,aa 17,aa 18])))) rF aB]
omit h in
theorem Cp {ss:List bg}(hs:ss.length<=3):Th 5 200 (.lst (ss.map bg.d)):=by
 refine .lst_of (by rw[Qk];omega) λd hd=>?_
 obtain⟨s,_,rfl⟩:=QS.mp hd;refine .tup_of (show 3<=200 by decide) λz j=>?_
 simp only[Qu,QL,or_false] at j;rcases j with rfl|rfl|rfl<;>trivial
theorem D3 {t o:D}{ds:List D}{ss:List bg}{x0 x1 x2 x3 x4 x5 x6 x7 x8 x9 x10 x11 x12 x13 x14 x19 x20:Option D}(W:Th 7 7 t)(hl:ds.length<=9)(u:∀d∈ds,Pr d)(ho:Thing o)(hs:ss.length<=3) :
 ae (FI (ah P 39) [x0,x1,x2,x3,x4,x5,x6,x7,x8,x9,x10,x11,x12,x13,x14,some t,some (.lst ds),some o,some (.lst (ss.map bg.d)),x19,x20] M) λfl M'=>(∃E F,fl=.next [x0,x1,x2,x3,x4,x5,x6,x7,x8,x9,x10,x11,x12,x13,x14,some t,some (.lst ds),some o,some (.lst (ss.map bg.d)),E,F])/\Sub M M':=by
 unfold FI;have j:aH (.list false) #[aa 18] [x0,x1,x2,x3,x4,x5,x6,x7,x8,x9,x10,x11,x12,x13,x14,some t,some (.lst ds),some o,some (.lst (ss.map bg.d)),x19,x20] M=.ok (.lst (ss.map bg.d)) M:=by
  refine aj ?_;simp only[cK,aS,bf,aK];exact{_,rfl,j6.mpr (a9.mpr {au (by rw[Qk];omega),rfl,rfl})}
 refine aV (bV (eB (af (gO rfl (CA h.r1.copied 38 hl u)) (af (Ij rfl ho) (af j rfl))) (Qx rfl))) ?_;show ae (aC _ _ [x0,x1,x2,x3,x4,x5,x6,x7,x8,x9,x10,x11,x12,x13,x14,some t,some (.lst ds),some o,some (.lst (ss.map bg.d)),some (.lst [.lst ds,o,.lst (ss.map bg.d)]),x20] M) _;obtain⟨x,H,e1,O,h2⟩:=ic.mp (LS h (M:=M) (ss:=ss) W `d `d hl u ho hs)
 obtain⟨y,L,e2,Q,U⟩:=ic.mp h2;refine oH (x:=x) (M':=H) ((aQ (af (ag rfl) (af rfl (af rfl (af rfl rfl))))).trans e1) ?_;show ae (aC _ _ [x0,x1,x2,x3,x4,x5,x6,x7,x8,x9,x10,x11,x12,x13,x14,some t,some (.lst ds),some o,some (.lst (ss.map bg.d)),some (.lst [.lst ds,o,.lst (ss.map bg.d)]),some x] H) _;refine lj (R:=λI=>Sub M I) ?_ λI S=>{{_,_,rfl},S};simp only[Ck,pL,eV];rw[iz,aS,ag (x:=x) rfl,aZ,aS,aQ (af (ag rfl) (af (ag rfl) (af (ag rfl) (af (ag rfl) rfl)))),e2,aZ];simp only[bf];rw[U,aZ];refine{true,rfl,?_};show ae (az .ne (aa 19) (aG false #[aa 16,aa 17,aa 18]) [x0,x1,x2,x3,x4,x5,x6,x7,x8,x9,x10,x11,x12,x13,x14,some t,some (.lst ds),some o,some (.lst (ss.map bg.d)),some (.lst [.lst ds,o,.lst (ss.map bg.d)]),some x] L) _;rw[dw,ag (x:=.lst [.lst ds,o,.lst (ss.map bg.d)]) rfl,aZ,eB (af (ag rfl) (af (ag rfl) (af (ag rfl) rfl))) (Qx rfl),aZ];have B:aE 64 (.lst [.lst ds,o,.lst (ss.map bg.d)])=true:=by
  have:Th 64 200 (.lst [.lst ds,o,.lst (ss.map bg.d)]):=.lst_of (show 3<=200 by decide) λz J=>by
   simp only[Qu,QL,or_false] at J;rcases J with rfl|rfl|rfl
   ·exact(JU hl u).mono `d `d
   ·exact ho.th.mono `d `d
   ·exact(Cp hs).mono `d `d
  exact this.pure
 exact{_,hJ (v:=true) B B (sU 64 _ B),_,rfl,rfl,O.trans Q}
omit h in
theorem O2:∀i:Nat,i<4->∃mo:Nat,mo<=40/\∀{Z:Env}{M:Mem},Z[2]?.getD none=some (nD i)->av (aG false #[gI 6,gI 6,gI 3,gI 40]) (aa 2) Z M=.ok (nD mo) M
 |0,_=>{6,`a,λe=>jP (xs:=[.int 6,.int 6,.int 3,.int 40]) rfl (ag e) `d}
 |1,_=>{6,`a,λe=>jP (xs:=[.int 6,.int 6,.int 3,.int 40]) rfl (ag e) `d}
 |2,_=>{3,`a,λe=>jP (xs:=[.int 6,.int 6,.int 3,.int 40]) rfl (ag e) `d}
 |3,_=>{40,`a,λe=>jP (xs:=[.int 6,.int 6,.int 3,.int 40]) rfl (ag e) `d}
 |_+4,h=>`a
def mh (M:Mem)(q n:Nat):Prop:=∃j,M[q]?=some j/\j.length=n/\∀c∈j,zh c
omit h in
theorem mh.keep {M M':Mem}{p q n:Nat}(h:mh M q n)(k:aU p M M')(u:q≠p):mh M' q n:=let⟨j,e,r⟩:=h;{j,k.get e u,r}
omit h in
theorem qZ {Z:Env}{rest:GS}{K:Fl->Mem->Prop}{g:GE}{q n B:Nat}{ys:List D}(e7:Z[7]?.getD none=some (.cell q))(hc:mh M q n)(hn:n<=50)(eg:g Z M=.ok (.lst ys) M)(hy:ys.length<=10)(hs:∀c∈ys,zh c)(hp:aF M 1 B)(h1:1<q)
 (hk:∀(q':Nat) (M':Mem),1<q'->mh M' q' (n+ys.length)->aF M' 1 B->ae (rest (Z.set 7 (some (.cell q'))) M') K):ae (aC (aw (.one 7) (ak true .add (aa 7) g)) rest Z M) K:=by
 obtain⟨cs,e,hl,hcs⟩:=hc;have lq:=(Qg.mp e).1;refine oH (Iw e7 e eg (by rw[QJ];omega)) ?_
 refine hk _ _ `a {_,oX,by rw[QJ,hl],λc hc=>?_} hp.app
 rcases QM.mp hc with z|z
 ·exact hcs c z
 ·exact hs c z
omit h in
theorem vV {Z:Env}{rest:GS}{K:Fl->Mem->Prop}{g:GE}{q n B:Nat}(e7:Z[7]?.getD none=some (.cell q))(hc:mh M q n)(hn:n<=50)(h1:1<q)
 (hg:ae (g Z M) λx M'=>zh x/\aF M' 1 B/\aU 1 M M') (hk:∀M':Mem,mh M' q (n+1)->aF M' 1 B->ae (rest Z M') K):ae (aC (iR (aa 7) g) rest Z M) K:=by
 simp only[ay,pR,aK];refine{_,e7,aA hg ?_};rintro x M' ⟨hx,hp,k⟩;obtain⟨cs,e,hl,hcs⟩:=hc.keep k `a
 have lq:=(Qg.mp e).1;refine{q,cs,rfl,e,Sf (show cs.length<=100 by omega) `d,hk _ {cs++[x],QW lq,by rw[QJ,hl];rfl,λc hc=>?_} (hp.setq h1)}
 rcases QM.mp hc with z|z
 ·exact hcs c z
 ·rw[Qz.mp z];exact hx
set_option maxHeartbeats 2000000 in
theorem Nc (ns:List Int)(hn:ns.length<=63):∃M,ah P 40 109 [.frz (ns.map D.int)] []=.ok (.bl true) M:=by
 have goal:ae (ah P 40 109 [.frz (ns.map D.int)] []) λd _=>d=.bl true:=by
  refine aq h.h109 rfl ?_;show ae (n5 (ah P 39) [some (.frz (ns.map D.int)),none,none,none,none,none,none,none,none,none,none,none,none,none,none,none,none,none,none,none,none] []) _;unfold n5;refine bq (k:=λd J=>d=.cell 1/\aF J 1 0) ?_ ?_
  ·rw[aQ (af (ag rfl) rfl)];exact Gz h.p 38 hn
  rintro _ M1 ⟨rfl,q1⟩;refine ay.mpr (cP.mpr (fD.mpr (cW.mpr {4,rfl,`d,?_})))
  refine cV (ds:=(List.range 4).map λ(k:Nat)=>D.int (k:Int)) (λi Z J=>aF J 1 (i*3000)/\∃x2 x3 x4 x5 x6 x7 x8 x9 x10 x11 x12 x13 x14 E F H I x19 x20,Z=[some (.frz (ns.map D.int)),some (.cell 1),x2,x3,x4,x5,x6,x7,x8,x9,x10,x11,x12,x13,x14,E,F,H,I,x19,x20]) (λ_ _ _ _=>rfl) ⟨q1,none,none,none,none,none,none,none,none,none,none,none,none,none,none,none,none,none,none,none,rfl⟩ ?_ ?_
  ·rintro i dd Z J hd ⟨q2,x2,x3,x4,x5,x6,x7,x8,x9,x10,x11,x12,x13,x14,E,F,H,I,x19,x20,rfl⟩;have hi:i<4:=by
    have:=(Qg.mp hd).1;simpa using this
   have ed:dd=nD i:=by
    rw[QK,Sa hi] at hd;exact(Qp hd).symm
   subst ed;refine{_,rfl,?_};refine bq (k:=λd M''=>∃m:ba,d=m.d/\bh m/\aF M'' 1 (i*3000+300)) ?_ ?_
   ·refine iz.mpr (aS.mpr ?_);rw[aQ (af (x:=.cell 1) (ag rfl) rfl)];refine aA (GJ h.p 38 q2) ?_;rintro _ M3 ⟨rfl,q3,_⟩;show ae (ah P 39 34 [.cell 1,nD 3,nD 2,nD 4] M3) _;exact aA (xT h.p 34 q3 `a `d `d `d `d `d `d) (by rintro d M4 ⟨m,e,hm,_,_,_,q4,_⟩;exact⟨m,e,hm,q4⟩)
   rintro _ M3 ⟨m,rfl,hm,q3⟩;have tm:Th 7 7 m.d:=(iW hm).mono `d `d
   refine bq (k:=λd J=>∃q y,d=.cell q/\1<q/\J[q]?=some (y.map pairD)/\y≠[]/\y.length<=200/\n9 m 3 y/\aF J 1 (i*3000+750)) ?_ ?_
   ·rw[aQ (af (ag rfl) (af (ag rfl) rfl))];refine aA (CB h.p h.h35 h.b h.h44 h.h49 35 (M:=M3) hm q3 `a) λd M5 ⟨q,y,ed,hq,eq,pne,pl,X,q5,k5⟩=>{q,y,ed,?_,eq,pne,pl,X,q5.mono `a}
    have:=q3.lt;omega
   rintro _ M4 ⟨q,y,rfl,hq1,eq,pne,pl,X,q4⟩;have lp0:0<y.length:=List.length_pos_iff.mpr pne;have prOf:∀p∈y,Pr (pairD p):=λp hp=>.rows hm (X p hp).r1.2 (X p hp).r2.2 (Qs (X p hp).l1 `d) (Qs (X p hp).l2 `d)
   refine bq (k:=λd J=>∃rs,d=.lst rs/\rs.length<=5/\(∀d∈rs,Pr d)/\aF J 1 (i*3000+760)) ?_ ?_
   ·refine cx.mpr (fi.mpr (fD.mpr ?_));refine aA (dB h.p 37 (many:=5) rfl rfl q4 `a `d `d) ?_
    rintro _ M6 ⟨many,rfl,hmany,q6,k6⟩;have e6:=k6.get eq `a
    refine{_,rfl,{`a,`a},?_}
    refine comp_map (ds:=(List.range ((many:Nat):Int).toNat).map λ(k:Nat)=>D.int (k:Int)) (λj Q J=>(∀d∈Q,Pr d)/\aF J 1 (i*3000+751+j)/\J[q]?=some (y.map pairD)) (au `o) (λ_ _ _ _=>rfl) {(λ_ z=>nomatch z),q6.mono `a,e6} ?_ ?_
    ·rintro j d Q J hd _ ⟨ha,q',e'⟩;have hj:j<5:=by
      have:=(Qg.mp hd).1;simp at this;omega
     refine{_,rfl,?_};show ae (av (aa 5) (ai 31 (ah P 39) #[aa 2,aH .len #[aa 5]]) (some d::[some (.frz (ns.map D.int)),some (.cell 1),some (nD i),some m.d,some (.cell q),x5,x6,x7,x8,x9,x10,x11,x12,x13,x14,E,F,H,I,x19,x20]) J) _;have el:aH .len #[aa 5] (some d::[some (.frz (ns.map D.int)),some (.cell 1),some (nD i),some m.d,some (.cell q),x5,x6,x7,x8,x9,x10,x11,x12,x13,x14,E,F,H,I,x19,x20]) J=.ok (nD y.length) J:=by
      refine aj ?_;exact cK.mpr (aS.mpr (aK.mpr {_,rfl,bf.mpr (oZ.mpr {_,e',by rw[Qk],rfl})}))
     refine jI.mpr (aK.mpr {_,rfl,aA (dB h.p 37 (many:=y.length) rfl el q' `a lp0 `a) ?_})
     rintro _ U ⟨at_,rfl,hat,q7,k7⟩;have e7:=k7.get e' `a
     refine{pairD y[at_],?_,λd hd=>?_,q7.mono `a,e7}
     ·show(U[q]?).bind (λds=>(bC ds.length (at_:Int)).bind λj=>ds[j]?)=_;rw[e7];show(bC (y.map pairD).length (at_:Int)).bind (λj=>(y.map pairD)[j]?)=_;rw[dI (by simpa using hat)]
      simp[hat]
     ·rcases QM.mp hd with z|z
      ·exact ha d z
      ·rw[Qz.mp z];exact prOf _ (Q4 hat)
    ·rintro Q U hl7 ⟨ha,q7,e7⟩;simp at hl7 q7;refine a9.mpr {au `a,?_}
     obtain⟨last,hlast,elast⟩:∃d,Pr d/\bP (.cell q) (.int (-1)) U=some d:=by
      refine{pairD y[y.length-1],prOf _ (Q4 _),?_};have e5:bC (y.map pairD).length (-1)=some (y.length-1):=by
       unfold bC;rw[if_neg `d,if_pos (by rw[Qk];omega),Qk]
       congr 1;omega
      show(U[q]?).bind (λds=>(bC ds.length (-1)).bind λj=>ds[j]?)=_;rw[e7];show(bC (y.map pairD).length (-1)).bind (λj=>(y.map pairD)[j]?)=_;rw[e5];show(y.map pairD)[y.length-1]?=_;rw[QK,QA `a];rfl
     have ei:av (aa 4) (dZ (gI 1)) [some (.frz (ns.map D.int)),some (.cell 1),some (nD i),some m.d,some (.cell q),x5,x6,x7,x8,x9,x10,x11,x12,x13,x14,E,F,H,I,x19,x20] U=.ok last U:=by
      unfold av;rw[ag (x:=.cell q) rfl];show b8 U (bP (.cell q) (.int (-1)) U)=_;rw[elast];rfl
     show ae (aG false #[av (aa 4) (dZ (gI 1))] [some (.frz (ns.map D.int)),some (.cell 1),some (nD i),some m.d,some (.cell q),x5,x6,x7,x8,x9,x10,x11,x12,x13,x14,E,F,H,I,x19,x20] U) _;rw[eB (af ei rfl) (Qx rfl),aZ];refine ju.mpr (a9.mpr {au `o,_,rfl,by simp;omega,λd hd=>?_,q7.mono `a})
     rcases QM.mp hd with z|z
     ·exact ha d z
     ·rw[Qz.mp z];exact hlast
   rintro _ M5 ⟨rs,rfl,hl5,W,q5⟩;obtain⟨mo,hmo,emo⟩:=O2 i hi;refine bq (k:=λd J=>∃r:List Nat,d=aP r/\bZ m r/\aF J 1 (i*3000+810)) ?_ ?_
   ·rw[aQ (af (ag rfl) (af (ag rfl) (af (emo rfl) rfl)))];exact aA (nt h.p h.h35 36 (mo:=mo) hm q5 `a hmo) (by rintro d M8 ⟨row,e8,hrow,l8,q8,k8⟩;exact{row,e8,hrow,q8.mono `a})
   rintro _ M6 ⟨r,rfl,hr,q6⟩;have rl:=hr.1;have ir:Itm 40 (r.map nD):=kZ hm hr.2 hr.1;have rl':(r.map nD).length<=40:=ir.len;refine oH (Hw (xs:=[]) rfl `d) ?_
   have c6:mh (M6++[[]]) M6.length 0:={[],oX,rfl,λ_ z=>nomatch z};have hq6:1<M6.length:=q6.lt;have q6':aF (M6++[[]]) 1 (i*3000+810):=q6.app;generalize M6.length=z at c6 hq6;generalize M6++[[]]=M6' at c6 q6';show ae (aC _ _ [some (.frz (ns.map D.int)),some (.cell 1),some (nD i),some m.d,some (.cell q),some (.lst rs),some (aP r),some (.cell z),x8,x9,x10,x11,x12,x13,x14,E,F,H,I,x19,x20] M6') _;refine ay.mpr (cP.mpr (fD.mpr (cW.mpr {5,rfl,`d,?_})))
   refine cV (ds:=(List.range 5).map λ(k:Nat)=>D.int (k:Int)) (λj Z J=>mh J z j/\aF J 1 (i*3000+810+j*20)/\∃x8 x9,Z=[some (.frz (ns.map D.int)),some (.cell 1),some (nD i),some m.d,some (.cell q),some (.lst rs),some (aP r),some (.cell z),x8,x9,x10,x11,x12,x13,x14,E,F,H,I,x19,x20]) (λ_ _ _ _=>rfl) {c6,q6',_,_,rfl} ?_ ?_
   ·rintro j d Z U hd ⟨c7,q7,R,y9,rfl⟩;have hj:j<5:=by
     have:=(Qg.mp hd).1;simpa using this
    refine{_,rfl,?_};refine bq (k:=λd J=>∃ss:List bg,d=.lst (ss.map bg.d)/\ss.length<=3/\aF J 1 (i*3000+810+(j+1)*20)/\aU 1 U J) ?_ ?_
    ·refine fi.mpr ?_;refine fD.mpr (cx.mpr (cW.mpr ?_));refine aA (dB h.p 37 (many:=3) rfl rfl q7 `a `d `d) ?_
     rintro _ M8 ⟨v,rfl,hv,q8,k8⟩;refine iG.mpr {_,rfl,{`a,`a},?_}
     refine comp_map (ds:=(List.range (1+(v:Int)).toNat).map λ(k:Nat)=>D.int (k:Int)) (λu Q J=>∃ss:List bg,Q=ss.map bg.d/\aF J 1 (i*3000+810+j*20+1+u*6)/\aU 1 U J) (au `o) (λ_ _ _ _=>rfl) {[],rfl,q8,k8} ?_ ?_
     ·rintro u d Q J hd _ ⟨ss,rfl,q',k'⟩;have hu:u<3:=by
       have:=(Qg.mp hd).1;simp at this;omega
      refine{_,rfl,?_};rw[aQ (af (x:=.cell 1) (ag rfl) (af (x:=.lst rs) (ag rfl) (af (x:=aP r) (ag rfl) rfl)))];refine aA (xV h 36 `a rl q' `a) ?_
      rintro _ M9 ⟨s,rfl,q9,k9⟩;exact{ss++[s],by rw[RF];rfl,q9.mono `a,k'.trans k9}
     ·rintro Q J hl7 ⟨ss,rfl,q',k'⟩;simp only[Qk,Rx] at hl7 q';exact a9.mpr {au (by rw[Qk];omega),ss,rfl,`a,q'.mono `a,k'}
    rintro _ M8 ⟨ss,rfl,hss,q8,k8⟩;refine vV (n:=j) (B:=i*3000+810+(j+1)*20) rfl (c7.keep k8 `a) `a hq6 ?_ λM9 c9 q9=>{_,rfl,c9,q9,_,_,rfl}
    rw[fb (ag (x:=m.d) rfl) (ag (x:=.lst rs) rfl) (ag (x:=aP r) rfl) (ag (x:=.lst (ss.map bg.d)) rfl),aZ];exact{{_,_,_,_,rfl,tm,`a,W,ir.lst `d,hss},q8,.refl}
   rintro Z U ⟨c7,q7,R,y9,rfl⟩;simp only[Qk,Rx] at c7 q7;refine cH.mpr ?_;refine bq (k:=λd J=>∃os,d=.lst os/\Itm 41 os/\aF J 1 (i*3000+920)/\aU 1 U J) ?_ ?_
   ·refine cx.mpr ?_;rw[ag (x:=aP r) rfl];refine iy.mpr (aS.mpr ?_);rw[aQ (af (x:=.cell 1) (ag rfl) (af rfl (af rfl rfl)))];refine aA (uy h.p h.t h.w 33 q7 `a) ?_
    rintro x M8 ⟨hx,q8,k8⟩;refine bf.mpr (a9.mpr {au (n:=1) `d,ju.mpr (a9.mpr {au `o,_,rfl,ir.app (.one hx),q8.mono `a,k8})})
   rintro _ M8 ⟨os,rfl,ho,q8,k8⟩;have c8:=c7.keep k8 `a
   refine bq (k:=λd J=>(d=.non\/Pr d)/\aF J 1 (i*3000+920+600)/\aU 1 M8 J) ?_ ?_
   ·rw[aQ (af (x:=.cell 1) (ag rfl) (af (x:=m.d) (ag rfl) rfl))];exact zP h.p h.h35 h.b h.h44 h.h101 35 hm q8 `a
   rintro un M9 ⟨hun,q9,k9⟩;have c9:=c8.keep k9 `a
   refine bq (k:=λd J=>∃rt,d=.lst rt/\rt.length<=6/\(∀d∈rt,Pr d)/\J=M9) ?_ ?_
   ·show ae (cT _ (aa 5) (ak false .add (aa 5) (aG false #[aa 11])) [some (.frz (ns.map D.int)),some (.cell 1),some (nD i),some m.d,some (.cell q),some (.lst rs),some (aP r),some (.cell z),R,y9,some (.lst os),some un,x12,x13,x14,E,F,H,I,x19,x20] M9) _;rcases hun with rfl|hun
    ·rw[gq (k:=true) (x:=.lst rs) rfl (λ_=>ag rfl) (λz=>nomatch z),aZ];exact{rs,rfl,`a,W,rfl}
    ·rw[gq (k:=false) (x:=.lst (rs++[un])) ?_ (λz=>nomatch z) (λ_=>Iy (ag rfl) (eB (af (ag rfl) rfl) (Qx rfl)) `o),aZ]
     ·refine{_,rfl,by simp;omega,λd hd=>?_,rfl}
      rcases QM.mp hd with z|z
      ·exact W d z
      ·rw[Qz.mp z];exact hun
     ·obtain⟨ys,zs,rfl,_⟩:=hun;rfl
   rintro _ M9' ⟨rt,rfl,hl12,O,e9⟩;rw[e9];have es:aG false #[bc #[ak false .add (aH .len #[aa 6]) (gI 1),gI 0,sE]] [some (.frz (ns.map D.int)),some (.cell 1),some (nD i),some m.d,some (.cell q),some (.lst rs),some (aP r),some (.cell z),R,y9,some (.lst os),some un,some (.lst rt),x13,x14,E,F,H,I,x19,x20] M9=.ok (.lst ([({(((r.map nD).length+1:Nat):Int),0,false}:bg)].map bg.d)) M9:=eB (af (Gn (xh rfl) rfl rfl) rfl) (Qx rfl);refine aV (bV es) ?_;generalize hss:[({(((r.map nD).length+1:Nat):Int),0,false}:bg)]=ss;have lss:ss.length<=3:=by rw[<- hss];exact Qx rfl
   have tr:Thing (aP r):=ir.lst `d
   have to_:Thing (.lst os):=ho.lst `d
   have tn:Thing .non:=.item (bH `s)
   have te:Thing (.str ""):=.item (bH `s)
   show ae (aC _ _ [some (.frz (ns.map D.int)),some (.cell 1),some (nD i),some m.d,some (.cell q),some (.lst rs),some (aP r),some (.cell z),R,some (.lst (ss.map bg.d)),some (.lst os),some un,some (.lst rt),x13,x14,E,F,H,I,x19,x20] M9) _;refine qZ (n:=5) (ys:=[.tup [m.d,.lst rt,aP r,.lst (ss.map bg.d)],.tup [m.d,.lst rt,.lst os,.lst (ss.map bg.d)],.tup [m.d,.lst rs,.lst os,.lst (ss.map bg.d)]]) rfl c9 `d (eB (af (fb (ag rfl) (ag rfl) (ag rfl) (ag rfl)) (af (fb (ag rfl) (ag rfl) (ag rfl) (ag rfl)) (af (fb (ag rfl) (ag rfl) (ag rfl) (ag rfl)) rfl))) (Qx rfl)) (Qx rfl) (λc hc=>?_) q9 hq6 λz2 M10 hz2 c10 q10=>?_
   ·simp only[Qu,QL,or_false] at hc;rcases hc with rfl|rfl|rfl
    ·exact{_,_,_,_,rfl,tm,`a,O,tr,lss}
    ·exact{_,_,_,_,rfl,tm,`a,O,to_,lss}
    ·exact{_,_,_,_,rfl,tm,`a,W,to_,lss}
   refine bq (k:=λd M''=>Th 7 7 d/\aF M'' 1 (i*3000+1600)/\aU 1 M10 M'') ?_ ?_
   ·rw[aQ (af (x:=.cell 1) (ag rfl) (af (x:=m.d) (ag rfl) (af rfl rfl)))];exact aA (wA h.p h.t h.w 5 28 `d (iW hm) `d `d `d q10 `a) (by rintro d J ⟨a,b,c⟩;exact{a,b.mono `a,c})
   rintro bad M11 ⟨tb,q11,k11⟩;have c11:=c10.keep k11 `a
   refine ez h.p 37 (many:=(r.map nD).length+1) rfl (xh rfl) q11 `a `a `a λat_ M12 hat q12 k12=>?_
   have c12:=c11.keep k12 `a
   show ae (aC _ _ [some (.frz (ns.map D.int)),some (.cell 1),some (nD i),some m.d,some (.cell q),some (.lst rs),some (aP r),some (.cell z2),R,some (.lst (ss.map bg.d)),some (.lst os),some un,some (.lst rt),some bad,some (nD at_),E,F,H,I,x19,x20] M12) _;refine qZ (n:=8) (ys:=[.tup [bad,.lst rt,.lst os,.lst (ss.map bg.d)],.tup [bad,.lst rs,aP r,.lst []],.tup [bad,.lst [],.lst [],.lst []]]) rfl c12 `d (eB (af (fb (ag rfl) (ag rfl) (ag rfl) (ag rfl)) (af (fb (ag rfl) (ag rfl) (ag rfl) rfl) (af (fb (ag rfl) rfl rfl rfl) rfl))) (Qx rfl)) (Qx rfl) (λc hc=>?_) q12 hz2 λz3 M13 hz3 c13 q13=>?_
   ·simp only[Qu,QL,or_false] at hc;rcases hc with rfl|rfl|rfl
    ·exact{_,_,_,_,rfl,tb,`a,O,to_,lss}
    ·exact{_,_,_,[],rfl,tb,`a,W,tr,`d}
    ·exact{_,[],_,[],rfl,tb,`d,(λ_ z=>nomatch z),Itm.lst (n:=0) {Qo _,λ_ z=>nomatch z} `d,`d}
   show ae (aC _ _ [some (.frz (ns.map D.int)),some (.cell 1),some (nD i),some m.d,some (.cell q),some (.lst rs),some (aP r),some (.cell z3),R,some (.lst (ss.map bg.d)),some (.lst os),some un,some (.lst rt),some bad,some (nD at_),E,F,H,I,x19,x20] M13) _;have et:aH .tuple #[aa 6] [some (.frz (ns.map D.int)),some (.cell 1),some (nD i),some m.d,some (.cell q),some (.lst rs),some (aP r),some (.cell z3),R,some (.lst (ss.map bg.d)),some (.lst os),some un,some (.lst rt),some bad,some (nD at_),E,F,H,I,x19,x20] M13=.ok (.tup (r.map nD)) M13:=rfl;refine qZ (n:=11) (ys:=[.tup [m.d,.lst rs,.tup (r.map nD),.lst []],.tup [m.d,.lst rt,.non,.lst (ss.map bg.d)],.tup [bad,.lst rt,.str "",.lst (ss.map bg.d)]]) rfl c13 `d (eB (af (fb (ag rfl) (ag rfl) et rfl) (af (fb (ag rfl) (ag rfl) rfl (ag rfl)) (af (fb (ag rfl) (ag rfl) rfl (ag rfl)) rfl))) (Qx rfl)) (Qx rfl) (λc hc=>?_) q13 hz3 λz4 L hz4 c14 q14=>?_
   ·simp only[Qu,QL,or_false] at hc;rcases hc with rfl|rfl|rfl
    ·exact{_,_,_,[],rfl,tm,`a,W,ir.tup `d,`d}
    ·exact{_,_,_,_,rfl,tm,`a,O,tn,lss}
    ·exact{_,_,_,_,rfl,tb,`a,O,te,lss}
   show ae (aC _ _ [some (.frz (ns.map D.int)),some (.cell 1),some (nD i),some m.d,some (.cell q),some (.lst rs),some (aP r),some (.cell z4),R,some (.lst (ss.map bg.d)),some (.lst os),some un,some (.lst rt),some bad,some (nD at_),E,F,H,I,x19,x20] L) _;refine vV (n:=14) (B:=i*3000+1601) rfl c14 `d hz4 ?_ λM15 c15 q15=>?_
   ·obtain⟨cs,ecs,lcs,hcs⟩:=c14;obtain⟨t0,d0,o0,s0,e0,_,_,_,_,hs0⟩:=hcs cs[0] (Q4 _);have ei:av (av (aa 7) (gI 0)) (gI 3) [some (.frz (ns.map D.int)),some (.cell 1),some (nD i),some m.d,some (.cell q),some (.lst rs),some (aP r),some (.cell z4),R,some (.lst (ss.map bg.d)),some (.lst os),some un,some (.lst rt),some bad,some (nD at_),E,F,H,I,x19,x20] L=.ok (.lst (s0.map bg.d)) L:=by
     have e1:av (aa 7) (gI 0) [some (.frz (ns.map D.int)),some (.cell 1),some (nD i),some m.d,some (.cell q),some (.lst rs),some (aP r),some (.cell z4),R,some (.lst (ss.map bg.d)),some (.lst os),some un,some (.lst rt),some bad,some (nD at_),E,F,H,I,x19,x20] L=.ok (.tup [t0,.lst d0,o0,.lst (s0.map bg.d)]) L:=by
      unfold av;rw[ag (x:=.cell z4) rfl];show b8 L ((L[z4]?).bind λds=>(bC ds.length 0).bind λj=>ds[j]?)=_;rw[ecs];show b8 L ((bC cs.length ((0:Nat):Int)).bind λj=>cs[j]?)=_;rw[dI `a]
      show b8 L cs[0]?=_;rw[QA `a,e0];rfl
     unfold av at e1 ⊢;rw[e1];rfl
    rw[fb (ag (x:=m.d) rfl) (show aG false b9 [some (.frz (ns.map D.int)),some (.cell 1),some (nD i),some m.d,some (.cell q),some (.lst rs),some (aP r),some (.cell z4),R,some (.lst (ss.map bg.d)),some (.lst os),some un,some (.lst rt),some bad,some (nD at_),E,F,H,I,x19,x20] L=.ok (.lst []) L from rfl) (ag (x:=aP r) rfl) ei,aZ];exact{{_,[],_,_,rfl,tm,`d,(λ_ z=>nomatch z),tr,hs0},q14,.refl}
   refine vV (n:=15) (B:=i*3000+1610) rfl c15 `d hz4 ?_ λM16 c16 q16=>?_
   ·rw[gu,aS,ag (x:=m.d) rfl,aZ,aS,ag (x:=.lst rt) rfl,aZ,aS,cx,cx,cx,Mj (xs:=r.map nD) (v:=at_) rfl rfl `a,aZ,iy,aS]
    rw[aQ (af (x:=.cell 1) (ag rfl) (af rfl (af rfl rfl)))];refine aA (uy h.p h.t h.w 33 q15 `a) ?_
    rintro x Y ⟨hx,q17,k17⟩;refine bf.mpr (a9.mpr {au (n:=1) `d,ju.mpr (a9.mpr {au `o,?_})})
    rw[HF (xs:=r.map nD) (v:=at_) rfl rfl `a,aZ]
    refine ju.mpr (a9.mpr {au `o,?_})
    rw[show aG false #[dZ (gI 1)] [some (.frz (ns.map D.int)),some (.cell 1),some (nD i),some m.d,some (.cell q),some (.lst rs),some (aP r),some (.cell z4),R,some (.lst (ss.map bg.d)),some (.lst os),some un,some (.lst rt),some bad,some (nD at_),E,F,H,I,x19,x20] Y=.ok (.lst [.int (-1)]) Y from rfl,aZ];have i3:Itm 42 ((r.map nD).take at_++[x]++(r.map nD).drop at_++[.int (-1)]):=(ir.put hx).app (.one (bH `s))
    have l3:=i3.len;refine ju.mpr (a9.mpr {au `a,?_})
    rw[aS,ag (x:=.lst (ss.map bg.d)) rfl,aZ];exact{au (n:=4) `d,{_,_,_,_,rfl,tm,`a,O,i3.lst `d,lss},q17.mono `a,k17}
   obtain⟨cs,ecs,lcs,hcs⟩:=c16;show ae (aC _ _ [some (.frz (ns.map D.int)),some (.cell 1),some (nD i),some m.d,some (.cell q),some (.lst rs),some (aP r),some (.cell z4),R,some (.lst (ss.map bg.d)),some (.lst os),some un,some (.lst rt),some bad,some (nD at_),E,F,H,I,x19,x20] M16) _;refine ay.mpr (cP.mpr (lF.mpr (aK.mpr {_,rfl,rfl,?_})));refine cV (ds:=cs) (λj Z J=>J[z4]?=some cs/\aF J 1 (i*3000+1610)/\∃E F H I x19 x20,Z=[some (.frz (ns.map D.int)),some (.cell 1),some (nD i),some m.d,some (.cell q),some (.lst rs),some (aP r),some (.cell z4),R,some (.lst (ss.map bg.d)),some (.lst os),some un,some (.lst rt),some bad,some (nD at_),E,F,H,I,x19,x20]) (λ_ _ _ h=>h.1) {ecs,q16,_,_,_,_,_,_,rfl} ?_ ?_
   ·rintro j d Z Y hd ⟨e17,q17,y15,y16,y17,y18,y19,y20,rfl⟩;obtain⟨t,ds,o,s2,rfl,h7,hl7,hp7,ho7,hs7⟩:=hcs d (QG hd);refine{_,rfl,aA (D3 h (M:=Y) (t:=t) (ds:=ds) (o:=o) (ss:=s2) (x0:=some (.frz (ns.map D.int))) (x1:=some (.cell 1)) (x2:=some (nD i)) (x3:=some m.d) (x4:=some (.cell q)) (x5:=some (.lst rs)) (x6:=some (aP r)) (x7:=some (.cell z4)) (x8:=R) (x9:=some (.lst (ss.map bg.d))) (x10:=some (.lst os)) (x11:=some un) (x12:=some (.lst rt)) (x13:=some bad) (x14:=some (nD at_)) (x19:=y19) (x20:=y20) h7 hl7 hp7 ho7 hs7) ?_};rintro fl M18 ⟨⟨z19,z20,rfl⟩,S⟩;exact{_,rfl,S.get e17,S.pen q17,_,_,_,_,_,_,rfl}
   ·rintro Z Y ⟨e17,q17,y15,y16,y17,y18,y19,y20,rfl⟩;exact{_,rfl,q17.mono `a,_,_,_,_,_,_,_,_,_,_,_,_,_,_,_,_,_,_,_,rfl}
  ·rintro Z J ⟨q2,x2,x3,x4,x5,x6,x7,x8,x9,x10,x11,x12,x13,x14,E,F,H,I,x19,x20,rfl⟩;exact(rfl:D.bl true=.bl true)
 obtain⟨d,M,e,rfl⟩:=ic.mp goal;exact⟨M,e⟩
end
end LD
end
set_option maxHeartbeats 0
namespace K14
open PySem PySem.Spec PyProof.Rows L2 LD
noncomputable def top (i:Nat):Stmt:=PySem.Challenge.pw_leastdeeds_k14_steps_refused.main.body.getD i (.Pass {0,0,0,0})
noncomputable def q0:Str×Tok:=("leastdeeds.wholes",458)
noncomputable def q1:Str×Tok:=("leastdeeds.machines",469)
noncomputable def q2:Str×Tok:=("leastdeeds.runs",640)
noncomputable def q3:Str×Tok:=("leastdeeds.alike",735)
noncomputable def q4:Str×Tok:=("law_leastdeeds_k14_steps_refused",809)
noncomputable def tb:List Ent:=[{0,"is_between",top 17,3,["thing","low","high"],223,q0,f5,false,none,0},
 {1,"is_word",top 25,2,["words","thing"],230,q1,jr,false,none,0},
 {2,"is_place",top 26,2,["places","thing"],237,q1,iC,false,none,0},
 {3,"is_cost",top 27,1,["thing"],244,q1,js,false,none,0},
 {4,"is_tuple_of",top 28,2,["long","thing"],251,q1,fH,false,none,0},
 {5,"is_table",top 29,2,["words","thing"],256,q1,iB,false,none,0},
 {6,"is_double_table",top 30,2,["words","thing"],261,q1,dS,false,none,0},
 {7,"is_turn",top 31,3,["words","places","parts","at","table","price"],268,q1,fX,false,none,0},
 {8,"is_join",top 32,3,["words","places","parts","at","other","table","price"],275,q1,fZ,false,none,0},
 {9,"is_move",top 33,3,["words","places","parts","at","other","price"],282,q1,fY,false,none,0},
 {10,"is_put",top 34,3,["words","places","parts","at","word","price"],289,q1,gY,false,none,0},
 {11,"is_deed",top 36,3,["words","places","thing","sort","is_sort"],297,q1,d8,false,none,0},
 {12,"is_machine",top 37,1,["thing","words","places","deeds"],302,q1,iD,false,none,0},
 {13,"need_machine",top 38,1,["thing"],309,q1,dE,true,none,0},
 {15,"beginnings",top 39,1,["machine","words","places","deeds","starts","place"],314,q1,fm,true,none,0},
 {16,"is_deed_number",top 40,2,["machine","thing"],321,q1,fB,false,none,0},
 {17,"need_numbers",top 41,2,["machine","row","place","thing"],328,q1,cz,true,none,0},
 {18,"need_row",top 42,2,["machine","row"],335,q1,d3,true,none,0},
 {20,"turned",top 44,2,["deed","standing","sort","at","table","price"],342,q2,l9,false,none,0},
 {21,"joined",top 45,2,["deed","standing","sort","at","other","table","price"],349,q2,mf,false,none,0},
 {22,"moved",top 46,2,["deed","standing","sort","at","other","price"],356,q2,n4,false,none,0},
 {23,"put_in",top 47,2,["deed","standing","sort","at","word","price"],363,q2,ma,false,none,0},
 {24,"done",top 49,2,["deed","standing","new_word","at"],371,q2,qA,false,none,0},
 {25,"all_standing",top 50,3,["machine","row","beginning","standings","number"],378,q2,i6,false,none,0},
 {46,"ends_of",top 51,2,["machine","row"],383,q2,jt,false,none,0},
 {27,"behaviour",top 52,2,["machine","row"],390,q2,je,true,none,0},
 {48,"parted",top 54,3,["machine","one","other","one_ends","other_ends","start","one_end","other_end"],397,q3,md,true,none,0},
 {52,"is_row",top 55,2,["machine","thing"],404,q3,gX,false,none,0},
 {53,"is_rule",top 56,2,["machine","thing","one","other"],411,q3,m7,false,none,0},
 {54,"need_rules",top 57,2,["machine","rules","number","rule"],418,q3,eC,true,none,0},
 {55,"behind_step",top 58,3,["rules","row","step","place","number","back","given","taken","beyond","made"],425,q3,fJ,false,none,0},
 {56,"stepped",top 59,4,["machine","rules","row","steps","standing","place","step","made"],432,q3,d7,true,none,0},
 {28,"_law_spread",top 61,2,["cell","at","primes","one","two","three"],439,q4,ml,false,none,0},
 {29,"_law_open",top 62,1,["script","cells","k","cell"],446,q4,kT,false,none,0},
 {30,"_law_anew",top 63,1,["pen"],453,q4,kU,false,none,0},
 {31,"_law_take",top 64,2,["pen","many","at","cell","found"],460,q4,oy,false,none,0},
 {64,"_law_sign_but",top 65,2,["pen","others","all_signs","some"],465,q4,fQ,false,none,0},
 {65,"_law_any_sign",top 66,1,["pen"],472,q4,fS,false,none,0},
 {66,"_law_signed",top 67,2,["pen","text","at"],479,q4,gP,false,none,0},
 {67,"_law_is_whole",top 68,1,["thing"],486,q4,kJ,false,none,0},
 {40,"_law_same",top 69,2,["found","due"],491,q4,cw,false,none,0},
 {32,"_law_tab",top 70,2,["pen","words","kind","word","other","found"],496,q4,jK,false,none,0},
 {33,"_law_deed",top 71,3,["pen","words","places","kind","price","at","other"],501,q4,jf,false,none,0},
 {34,"_law_machine",top 72,4,["pen","words","places","most","deeds","k","again","deed"],508,q4,gv,false,none,0},
 {35,"_law_row",top 73,3,["pen","machine","most","kind","many","found"],513,q4,d4,false,none,0},
 {41,"_law_after",top 74,2,["deed","end","here","own"],520,q4,iE,false,none,0},
 {42,"_law_begins",top 75,1,["machine"],525,q4,jA,false,none,0},
 {44,"_law_ends",top 76,2,["machine","row","found","end","number"],532,q4,da,false,none,0},
 {68,"_law_is_in",top 77,3,["thing","low","high"],539,q4,m8,false,none,0},
 {69,"_law_numbers",top 78,4,["thing","many","low","high"],544,q4,i7,false,none,0},
 {70,"_law_is_deed",top 79,3,["thing","words","places"],549,q4,eh,false,none,0},
 {71,"_law_is_machine",top 80,1,["thing"],554,q4,gz,false,none,0},
 {90,"_law_row_due",top 81,2,["machine","row","place","number"],561,q4,bT,false,none,0},
 {72,"_law_bent",top 82,3,["pen","thing","deep","kind","pick","number","at","odd","some"],568,q4,jg,false,none,0},
 {75,"_law_refusal",top 83,1,["caught","some","words"],575,q4,dF,false,none,0},
 {49,"_law_alike_pairs",top 84,2,["pen","machine","some","found","k","one","other"],580,q4,cZ,false,none,0},
 {101,"_law_unlike_pair",top 85,2,["pen","machine","k","one","other"],587,q4,cX,false,none,0},
 {57,"_law_copied",top 86,1,["rules"],592,q4,fK,false,none,0},
 {58,"_law_step_due",top 87,3,["rules","row","step","place","number","back","old","new","found"],599,q4,cL,false,none,0},
 {106,"_law_told",top 88,4,["machine","rules","row","steps","caught","found","e"],606,q4,cY,false,none,0},
 {107,"_law_due",top 89,4,["machine","rules","row","steps","due","number","rule","bad","here","at","step"],611,q4,du,false,none,0},
 {108,"_law_any_step",top 90,3,["pen","rules","row","kind","far","place","number"],618,q4,fR,false,none,0},
 {109,"law",top 91,1,["script","pen","turn","machine","good","rules","row","cases","k","steps","odd","unlike","some","bad","at","thing","one","other","last","handed","found"],623,q4,n5,false,none,0}]
def rs:Rs:={[Ew,zD,I0,IU,IS,IX,Eu,IT,IW,I8,IV,zx,zz,Ex,Ey,zB,EA,Ez,IZ,EB,NZ],[vT],[Ek],[Ep,Er,Em,El,IM,Eo],[Ej,IC,ID,IE,IF,IB,zj,wh,Iz,zm]}
def MB:Ed rs:={⟨B4,zC,Gi,Gd,Ga,Gg,B3,Gb,Gf,Gj,Ge,zw,zy,B5,B6,zA,B8,B7,Gh,B9,IY,trivial⟩,⟨Mh,trivial⟩,⟨BQ,trivial⟩,⟨B0,B1,BY,BX,F6,BZ,trivial⟩,⟨BP,F1,F2,F3,F4,F0,zi,xM,FZ,zk,trivial⟩}
noncomputable def te0:List (Str×En):=List.map (λx=>(x,En.bl)) ["ValueError","all","bool","enumerate","int","isinstance","len","list","max","range","str","tuple","zip"]
def te1:List (Str×En):=[("LEAST_WORDS",.int 2),("LONGEST_ROW",.int 40),("MOST_COST",.int 3),("MOST_DEEDS",.int 6),("MOST_PLACES",.int 2),("MOST_WORDS",.int 4),("NEW_WORDS",.dct dj),("SORTS",.dct di),("NoRow",.xi 0),("NoRule",.xi 1),("NoStep",.xi 2),("NoMachine",.xc 3)]
noncomputable def te2:List (Str×En):=[("TooLong",.xc 4),("NoWord",.xk 5),("NoWork",.xk 6),("NoBound",.xk 7),("TooMany",.xk 8),("NoPlace",.xk 9),("NoDeed",.xk 10),("Nothing",.xk 11),("NoText",.xk 12),("NoLine",.xk 13),("DeedError",.de)]
def te:List (Str×En):=te0++te1++te2
def tbl:nh:={(tb.filter (·.q.isNone)).map (λe=>(e.x,En.fn e.i e.r))++te,[("NoRow","TooLong",0,4)],["number","place"],[("NEW_WORDS",dj),("SORTS",di)],[("NoRow",0),("NoRule",1),("NoStep",2)],[(147,16,27),(190,11,45),(195,15,24),(200,19,23),(213,12,29),(216,11,24),(271,12,30),(290,12,14),(306,11,20),(322,12,14),(402,12,38),(461,16,18),(469,16,112),(472,16,91),(473,16,112)],[(236,29,38),(242,11,20),(242,44,73)],[],rs,tb}
def Pg:Nat->Option Df:=tbl.Pg
def MD:∀c,tb.map (tbl.rd c)=tb.map λe=>some (e.b c):=λc=>by kernel_rfl
def tab:zb tbl:={MB,MD,by kernel_rfl,by kernel_rfl,λ_ _ _ _ _ _=>by kernel_rfl,λ_ _ _ _ _ _ _=>by kernel_rfl,λ_ _ _ _ _ _ _ _=>by kernel_rfl,λ_ _ _ _ _ _ _ _ _=>by kernel_rfl,λ_ _ _ _ _ _ _ _ _ _=>by kernel_rfl,λ_ _ _ _ _ _ _ _ _ _ _ _=>by kernel_rfl,λ_ _ _ _ _ _ _ _ _ _ _=>by kernel_rfl,by rw[show tbl.tb.filter (λe=>!(e.df==0))=[] from by kernel_rfl];exact trivial}
def fa:Fa:=LD.sG (tb.map (λe=>(e.i,e.f))++[]) [(0,44),(1,63),(2,82),(3,94),(4,106),(5,118),(6,130),(7,142),(8,154),(9,166),(10,178),(11,190),(12,202),(13,214)] 24
def Dj:∀ns:List Int,ns.length<=63->∃M,ah Pg 40 109 [.frz (ns.map D.int)] []=.ok (.bl true) M:=Nc (by repeat' (first|rfl|constructor))
end K14
open PySem PySem.W PyProof.Rows K14
set_option maxRecDepth 100000 in
set_option maxHeartbeats 0 in
theorem PySem.Challenge.cw_leastdeeds_k14_steps_refused_holds : PySem.Challenge.rw_leastdeeds_k14_steps_refused.Holds := by
 w_on;o_law
 refine PySem.W.holds_open (r:=K14.yC) (q:=K14.kq) (loose:=K14.qf) (Xt:=fun s=>PySem.W.xlAt K14.kq [] s&&PySem.W.recOk (PySem.W.RowW.records K14.yC.toRowW) s) (XP:=PySem.W.XL K14.kq []) (Yf:=K14.kH.obs) (Ya:=K14.kH.val) (YP:=K14.kH.says) (N:=11034) K14.Nd K14.kH.of K14.kH.keeps (fun s e=>PySem.W.xl_of s (R6.mp e).1) PySem.W.XL.keeps `r `r `r (fun s e=>PySem.W.recFacts_of (R6.mp e).2) `r (by first|assumption|decide +kernel) `k ⟨rfl,rfl,rfl,rfl,rfl,`k⟩ ?hw ?hc
 case hw=>w_witness2
 refine L2.F5 (l:=PySem.Challenge.rw_leastdeeds_k14_steps_refused) (n:=63) (k:=84) (x:="script") (CX:=fun w=>LD.gJ PySem.Challenge.rw_leastdeeds_k14_steps_refused.prog w) (K:=K14.kh) (sp:=fun w=>LD.EH (K14.kh w.params)) rfl `d rfl ⟨rfl,`d,`d,rfl⟩ (fun w h Y=>PySem.W.kIn_of Y) ?F (fun w H a ns hl hO hS=>⟨a,ns,rfl,hS,hO,hl,fun _=>rfl⟩) (fun _ _ _ _ _ z=>let⟨_,_,_,_,_,_,_,_,_,_,q⟩:=z;q)
 case F=>
  intro w mg fa h KX G hmg;have tk:LD.BN (K14.kh w.params) K14.tb:=⟨by kernel_rfl,by kernel_rfl,by kernel_rfl,by kernel_rfl⟩
  obtain⟨m,fd,F⟩:=LD.Gs tk KX G (e:=K14.tb[62]) (Q4 _) rfl rfl;have d_NEW_WORDS:=LD.xb (x:="NEW_WORDS") (P:=w.params) (fa:=K14.fa) (fs:=LD.dj) (ad:=364) (es:=#[{hash:=PySem.PyData.keyHash w.params (PySem.Str.ofString "turn"),key:=PySem.Value.str (PySem.Str.ofString "turn") 691,val:=PySem.Value.ref 342},{hash:=PySem.PyData.keyHash w.params (PySem.Str.ofString "join"),key:=PySem.Value.str (PySem.Str.ofString "join") 692,val:=PySem.Value.ref 349},{hash:=PySem.PyData.keyHash w.params (PySem.Str.ofString "move"),key:=PySem.Value.str (PySem.Str.ofString "move") 693,val:=PySem.Value.ref 356},{hash:=PySem.PyData.keyHash w.params (PySem.Str.ofString "put"),key:=PySem.Value.str (PySem.Str.ofString "put") 694,val:=PySem.Value.ref 363}]) (n:=4) KX G (by kernel_rfl) (by kernel_rfl) (by exact LD.hG (LD.hG (LD.hG (LD.hG (LD.A3))))) `k `d (by exact .cons ⟨rfl,rfl⟩ (.cons ⟨rfl,rfl⟩ (.cons ⟨rfl,rfl⟩ (.cons ⟨rfl,rfl⟩ (.nil)))))
  have d_SORTS:=LD.xb (x:="SORTS") (P:=w.params) (fa:=K14.fa) (fs:=LD.di) (ad:=290) (es:=#[{hash:=PySem.PyData.keyHash w.params (PySem.Str.ofString "turn"),key:=PySem.Value.str (PySem.Str.ofString "turn") 575,val:=PySem.Value.ref 268},{hash:=PySem.PyData.keyHash w.params (PySem.Str.ofString "join"),key:=PySem.Value.str (PySem.Str.ofString "join") 576,val:=PySem.Value.ref 275},{hash:=PySem.PyData.keyHash w.params (PySem.Str.ofString "move"),key:=PySem.Value.str (PySem.Str.ofString "move") 577,val:=PySem.Value.ref 282},{hash:=PySem.PyData.keyHash w.params (PySem.Str.ofString "put"),key:=PySem.Value.str (PySem.Str.ofString "put") 578,val:=PySem.Value.ref 289}]) (n:=4) KX G (by kernel_rfl) (by kernel_rfl) (by exact LD.hG (LD.hG (LD.hG (LD.hG (LD.A3))))) `k `d (by exact .cons ⟨rfl,rfl⟩ (.cons ⟨rfl,rfl⟩ (.cons ⟨rfl,rfl⟩ (.cons ⟨rfl,rfl⟩ (.nil)))))
  have i_NoRow:=fun base=>LD.pe (fa:=K14.fa) (w:=w) (c:=0) (x:="NoRow") (qual:="NoRow.__init__") (y:="place") (z:="no deed's number at place ") (pm:="leastdeeds.errors") (t:=187) (st:=LD.inC (K14.top 2)) (C:=44) (D:=24) (fI:=41) (cd:=40) KX G (by kernel_rfl) (by kernel_rfl) rfl (by kernel_rfl) (by kernel_rfl) (by kernel_rfl) (by kernel_rfl) ⟨rfl,rfl,rfl,`k,rfl,`k,`k⟩ rfl (fun _ _=>⟨_,rfl⟩) `k rfl rfl rfl rfl (fun _ _=>rfl) (fun _ _ _ _ _ _ _ _=>rfl) PySem.Challenge.rw_leastdeeds_k14_steps_refused.prog base
  have i_NoRule:=fun base=>LD.pe (fa:=K14.fa) (w:=w) (c:=1) (x:="NoRule") (qual:="NoRule.__init__") (y:="number") (z:="no rule that holds: number ") (pm:="leastdeeds.errors") (t:=187) (st:=LD.inC (K14.top 3)) (C:=63) (D:=24) (fI:=60) (cd:=59) KX G (by kernel_rfl) (by kernel_rfl) rfl (by kernel_rfl) (by kernel_rfl) (by kernel_rfl) (by kernel_rfl) ⟨rfl,rfl,rfl,`k,rfl,`k,`k⟩ rfl (fun _ _=>⟨_,rfl⟩) `k rfl rfl rfl rfl (fun _ _=>rfl) (fun _ _ _ _ _ _ _ _=>rfl) PySem.Challenge.rw_leastdeeds_k14_steps_refused.prog base
  have i_NoStep:=fun base=>LD.pe (fa:=K14.fa) (w:=w) (c:=2) (x:="NoStep") (qual:="NoStep.__init__") (y:="place") (z:="no step that can be done at place ") (pm:="leastdeeds.errors") (t:=187) (st:=LD.inC (K14.top 4)) (C:=82) (D:=24) (fI:=79) (cd:=78) KX G (by kernel_rfl) (by kernel_rfl) rfl (by kernel_rfl) (by kernel_rfl) (by kernel_rfl) (by kernel_rfl) ⟨rfl,rfl,rfl,`k,rfl,`k,`k⟩ rfl (fun _ _=>⟨_,rfl⟩) `k rfl rfl rfl rfl (fun _ _=>rfl) (fun _ _ _ _ _ _ _ _=>rfl) PySem.Challenge.rw_leastdeeds_k14_steps_refused.prog base
  have TO:=fun base=>LD.Gr (base:=base) (P:=PySem.Challenge.rw_leastdeeds_k14_steps_refused.prog) (w:=w) (t:=K14.tbl) (fa:=K14.fa) KX G (by kernel_rfl) (LD.IG (by kernel_rfl)) (LD.Kj (by kernel_rfl)) (LD.Dx (by kernel_rfl)) ⟨rfl,rfl⟩ ⟨d_NEW_WORDS,d_SORTS,trivial⟩ ⟨i_NoRow base,i_NoRule base,i_NoStep base,trivial⟩
  have tw:LD.AllP (fun q=>LD.xH K14.fa (K14.kh w.params) mg q.1 q.2.1 q.2.2.1 q.2.2.2) K14.tbl.tw:=⟨LD.Ja (LD.AU (x:="NoRow") (f:=44) KX G (by kernel_rfl)) (LD.AU (x:="TooLong") (f:=106) KX G (by kernel_rfl)) (by kernel_rfl),trivial⟩
  have xf:LD.AllP (fun f=>LD.xF K14.fa (K14.kh w.params) f) K14.tbl.xf:=⟨LD.zo (by kernel_rfl),LD.zo (by kernel_rfl),trivial⟩
  have ms:∀q∈K14.tbl.ms,LD.qF K14.fa (K14.kh w.params) q.1 q.2.1 q.2.2:=LD.KG (by kernel_rfl)
  have e:=hmg.symm.trans m;cases e;exact⟨fd,fun s v=>by
   obtain⟨oc,od,kV,doc,pm,an,cdv,ct,osl,rfl,lk,hcd⟩:=F.ex;exact .of_eq rfl,fun base _ _=>LD.KU (n:=39) (f:=109) (LD.Cg K14.tab tk KX G (TO base) tw.mem xf.mem ms (by kernel_rfl)) K14.Dj rfl F (LD.qu (e:=K14.tb[62]) (Qq.mp K14.tab.sc K14.tb[62] (Q4 _))).1 rfl fun c n a b d s H E C hr=>LD.uh (e:=K14.tb[62]) K14.tab (TO base) tw.mem xf.mem ms (Q4 _) c n a b d s H E C hr⟩
